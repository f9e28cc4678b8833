import Derived.Test.YthljakcegoohlaaDoorKS4
import Derived.Test.YthljakcegoohlaaDoorRows
namespace Go.Proofs.YthljakcegoohlaaDoor
open Go Go.RowKit
variable {G : Mem}
set_option maxHeartbeats 2000000 in
theorem symSplit_fn (has : Bool) (k : Nat → Nat) (n : Nat) (ch h : Nat → Nat) (hc : L8 32 ch) : Fn Tryd.prog (IVB :: G) 9 #[SV has k n ch h] (.agg (cells 68 [pV (.bool true), pI .u8 32 (kA ch []), pV (u 0), pV (.bool true), pI .u8 32 (kB ch []), pV (u 0)])) := by
  obtain ⟨fa, hfa⟩ : ∃ fa, fa = kA ch [] := ⟨_, rfl⟩
  obtain ⟨fb, hfb⟩ : ∃ fb, fb = kB ch [] := ⟨_, rfl⟩
  obtain ⟨fc, hfc⟩ : ∃ fc, fc = kC ch [] := ⟨_, rfl⟩
  rw [← hfa, ← hfb]
  refine Qf1 Tryd.func9 ?_
  refine Qs<|Qp<|(Qh 0) fun r1=>(QH 1) fun r2=>Qn<|Qs<|Qp<|(Qf 34)<|(Qv 3 0) ?_
  refine e_call rfl (Un 12) (keysOf_fn ch [] hc (by simp) (by decide)) rfl rfl ?_
  refine e_as (show Value.agg (arr .u8 96 (thr3 (kA ch []) (kB ch []) (kC ch []))) = Value.agg (arr .u8 96 (thr3 fa fb fc)) by rw [hfa, hfb, hfc]) ?_
  refine (QH 2) fun r3=>(Qt 2)<|Qn<|Qs<|Qp<|(QA 0 0) ?_
  refine e_loadS (i := 2) (Uu 28) rfl (Uz 28) rfl rfl (by omega) rfl ⟨[], trivial⟩ ?_
  refine e_as (congrArg Value.agg (arr_congr (thr3_0 fa fb fc))) ?_
  refine e_buildS (cells 34 [pV (.bool true), pI .u8 32 fa, pV (u 0)]) (Ub 31 rfl) (Uu 31 rfl) pls31 rfl (by kernel_rfl) rfl ?_
  refine (QA 32 1) ?_
  refine e_loadS (i := 2) (Uu 28) rfl (Uz 28) rfl rfl (by omega) rfl ⟨[], trivial⟩ ?_
  refine e_as (congrArg Value.agg (arr_congr (thr3_1 fa fb fc))) ?_
  refine e_buildS (cells 34 [pV (.bool true), pI .u8 32 fb, pV (u 0)]) (Ub 31 rfl) (Uu 31 rfl) pls31 rfl (by kernel_rfl) rfl ?_
  refine e_buildZ (cells 68 [pV (.bool true), pI .u8 32 fa, pV (u 0), pV (.bool true), pI .u8 32 fb, pV (u 0)]) (Ub 38 rfl) (Uu 38 rfl) (Uz 31 rfl) rfl (by kernel_rfl) rfl ?_
  refine e_storeA (i := 1) (Uz 38) rfl rfl (arrv_size _ _) (cells_one ⟨fun _ => rfl, fun _ => rfl, fun _ => rfl, fun _ => rfl, fun _ => rfl, fun _ => rfl, trivial⟩) rfl cells_sz (.inl rfl) ?_
  refine Qn<|Qr ?_
  exact ⟨_, rfl, .cell (i := 1) rfl rfl (Uu 38) rfl (Uz 38) (arrv_size _ _)⟩
end Go.Proofs.YthljakcegoohlaaDoor
namespace Go.Proofs.YthljakcegoohlaaDoor
open Go Go.RowKit
variable {G : Mem}
set_option maxHeartbeats 2000000 in
theorem rdone_fn (b : List Nat) (l : Bool) (vp v0 v1 vt : Value) (fi : Bool) (tn : Int) (dd : Bool) (y : SY) (r : RS) (ow : Nat → Nat) (vk : Value) (us : Int) (tvs : List Value) (hvt : Shows G 1 vt tvs.length tvs) : Fn Tryd.prog G 6 #[.agg (shC b l vp v0 v1 vt fi tn dd y ow r vk us)] (.bool (doneP dd tvs.length tn)) := by
  refine Qf1 Tryd.func6 ?_
  refine Qs<|Qp<|(Qh 0) fun r1=>(Qa)<|Qn<|Qs<|Qp ?_
  refine e_join [(0, _), (1, _)] [(2, .bool (doneP dd tvs.length tn))] [(0, some _)] ⟨rfl, rfl, trivial⟩ ⟨rfl, trivial⟩ ?_ ?_
  · skip
    refine (Qf 8)<|(QV 8 0)<|(Q0)<|(Qm) ?_
    refine e_case (b := (!dd)) (fun hb0 => ?_) (fun hb0 => ?_)
    · skip
      refine (Qy)<|(Qf 0)<|(Qy)<|(Qf 5)<|(Qy)<|(QV 5 0)<|(Qy)<|(QC hvt)<|(Qy)<|(Qf 7)<|(Qy)<|(QV 7 0)<|(Qy)<|(QL)<|(QT)<|(Qa)<|Qn ?_
      exact ⟨⟨rfl, rfl, trivial⟩, ⟨bool_fin (by rw [doneP, hb0] <;> rfl), trivial⟩, ⟨rfl, trivial⟩⟩
    · skip
      refine (Qo)<|(Qo)<|(Qo)<|(Qo)<|(Qo)<|(Qo)<|(Qo)<|(QF)<|(Qa)<|Qn ?_
      exact ⟨⟨rfl, rfl, trivial⟩, ⟨bool_fin (by rw [doneP, hb0] <;> rfl), trivial⟩, ⟨rfl, trivial⟩⟩
  · simp only [catE]
    refine Qr ?_
    exact ⟨_, rfl, .tmp rfl⟩
set_option maxHeartbeats 2000000 in
theorem rsplit_no (b : List Nat) (l : Bool) (vp v0 v1 vt : Value) (fi : Bool) (tn : Int) (dd : Bool) (y : SY) (r : RS) (ow : Nat → Nat) (vk : Value) (us : Int) (tvs : List Value) (hvt : Shows G 1 vt tvs.length tvs) (hd : (doneP dd tvs.length tn) = false) : Fn Tryd.prog G 7 #[.agg (shC b l vp v0 v1 vt fi tn dd y ow r vk us)] (.tuple #[.agg (cells 68 [pV (.bool false), pI .u8 32 (fun _ => 0), pV (.int .u64 0), pV (.bool false), pI .u8 32 (fun _ => 0), pV (.int .u64 0)]), ii 9]) := by
  refine Qf2 Tryd.func7 ?_
  refine Qs<|Qp<|(Qh 0) fun r1=>(QH 1) fun r2=>(Qa)<|Qn<|Qs<|Qs<|Qp<|(QD 0) ?_
  refine e_call rfl (Un 6) (rdone_fn b l vp v0 v1 vt fi tn dd y r ow vk us tvs hvt) rfl rfl ?_
  refine e_as (congrArg Value.bool hd) ?_
  refine (Q0)<|Qn<|(Qct)<|Qs<|Qp ?_
  refine e_build0 (Ub 38 rfl) (Uu 38 rfl) sis31 rfl ?_
  refine e_storeA (i := 1) (Uz 38) rfl rfl (arrv_size _ _) (cells_one ⟨fun _ => rfl, fun _ => rfl, fun _ => rfl, fun _ => rfl, fun _ => rfl, fun _ => rfl, trivial⟩) rfl cells_sz (.inl rfl) ?_
  refine (Qa)<|Qn<|Qr ?_
  exact ⟨_, _, rfl, .cell (i := 1) rfl rfl (Uu 38) rfl (Uz 38) (arrv_size _ _), .tmp rfl⟩
set_option maxHeartbeats 4000000 in
theorem rsplit_ok (hI : IVB ∈ G) (b : List Nat) (l : Bool) (vp v0 v1 vt : Value) (fi : Bool) (tn : Int) (dd : Bool) (y : SY) (r : RS) (ow : Nat → Nat) (vk : Value) (us : Int) (tvs : List Value) (hvt : Shows G 1 vt tvs.length tvs) (hy : okY y) (hd : (doneP dd tvs.length tn) = true) : Fn Tryd.prog G 7 #[.agg (shC b l vp v0 v1 vt fi tn dd y ow r vk us)] (.tuple #[.agg (cells 68 [pV (.bool true), pI .u8 32 (kA y.2.2.2.1 []), pV (u 0), pV (.bool true), pI .u8 32 (kB y.2.2.2.1 []), pV (u 0)]), ii 0]) := by
  have hS := (symSplit_fn (G := G) y.1 y.2.1 y.2.2.1 y.2.2.2.1 y.2.2.2.2 hy.2.2.1).more (in1 hI)
  obtain ⟨fa, hfa⟩ : ∃ f, f = kA y.2.2.2.1 [] := ⟨_, rfl⟩
  obtain ⟨fb, hfb⟩ : ∃ f, f = kB y.2.2.2.1 [] := ⟨_, rfl⟩
  rw [← hfa, ← hfb] at hS ⊢
  refine Qf2 Tryd.func7 ?_
  refine Qs<|Qp<|(Qh 0) fun r1=>(QH 1) fun r2=>(Qa)<|Qn<|Qs<|Qs<|Qp<|(QD 0) ?_
  refine e_call rfl (Un 6) (rdone_fn b l vp v0 v1 vt fi tn dd y r ow vk us tvs hvt) rfl rfl ?_
  refine e_as (congrArg Value.bool hd) ?_
  refine (Q0)<|Qn<|(Qcf)<|Qk<|Qs<|Qp<|(Qf 9) ?_
  refine e_ldK (i := 0) 9 5 (Uu 33 rfl) rfl (Uz 33 rfl) rfl rfl rfl rfl (by decide) rfl ⟨[], trivial⟩ ?_
  refine e_as (show _ = SVy y from rfl) ?_
  refine e_call rfl (Un 9) hS rfl rfl ?_
  refine e_storeA (i := 1) (Uz 38) rfl rfl (arrv_size _ _) (cells_one ⟨fun _ => rfl, fun _ => rfl, fun _ => rfl, fun _ => rfl, fun _ => rfl, fun _ => rfl, trivial⟩) rfl cells_sz (.inl rfl) ?_
  refine (Qa)<|Qn<|Qr ?_
  exact ⟨_, _, rfl, .cell (i := 1) rfl rfl (Uu 38) rfl (Uz 38) (arrv_size _ _), .tmp rfl⟩
end Go.Proofs.YthljakcegoohlaaDoor
namespace Go.Proofs.YthljakcegoohlaaDoor
open Go Go.RowKit
variable {G : Mem}
set_option maxHeartbeats 2000000 in
theorem done_fn (b : List Nat) (l : Bool) (vp v0 v1 vt : Value) (fi : Bool) (tn : Int) (dd : Bool) (y : SY) (r : RS) (ow : Nat → Nat) (vk : Value) (us : Int) (tvs : List Value) (hvt : Shows G 1 vt tvs.length tvs) : Fn Tryd.prog G 4 #[.agg (shC b l vp v0 v1 vt fi tn dd y ow r vk us)] (.bool (doneP dd tvs.length tn)) := by
  refine Qf1 Tryd.func4 ?_
  refine Qs<|Qp<|(Qh 0) fun r1=>(Qa)<|Qn<|Qs<|Qp ?_
  refine e_join [(0, _), (1, _)] [(2, .bool (doneP dd tvs.length tn))] [(0, some _)] ⟨rfl, rfl, trivial⟩ ⟨rfl, trivial⟩ ?_ ?_
  · skip
    refine (Qf 8)<|(QV 8 0)<|(Q0)<|(Qm) ?_
    refine e_case (b := (!dd)) (fun hb0 => ?_) (fun hb0 => ?_)
    · skip
      refine (Qy)<|(Qf 7)<|(Qy)<|(QV 7 0)<|(Qy)<|(Qf 0)<|(Qy)<|(Qf 5)<|(Qy)<|(QV 5 0)<|(Qy)<|(QC hvt)<|(Qy)<|(QE)<|(QT)<|(Qa)<|Qn ?_
      exact ⟨⟨rfl, rfl, trivial⟩, ⟨bool_fin (by rw [doneP, hb0] <;> rfl), trivial⟩, ⟨rfl, trivial⟩⟩
    · skip
      refine (Qo)<|(Qo)<|(Qo)<|(Qo)<|(Qo)<|(Qo)<|(Qo)<|(QF)<|(Qa)<|Qn ?_
      exact ⟨⟨rfl, rfl, trivial⟩, ⟨bool_fin (by rw [doneP, hb0] <;> rfl), trivial⟩, ⟨rfl, trivial⟩⟩
  · simp only [catE]
    refine Qr ?_
    exact ⟨_, rfl, .tmp rfl⟩
end Go.Proofs.YthljakcegoohlaaDoor
namespace Go.Proofs.YthljakcegoohlaaDoor
open Go Go.RowKit
variable {G : Mem}
end Go.Proofs.YthljakcegoohlaaDoor
namespace Go.Proofs.YthljakcegoohlaaDoor
open Go Go.RowKit
variable {G : Mem}
end Go.Proofs.YthljakcegoohlaaDoor
namespace Go.Proofs.YthljakcegoohlaaDoor
open Go Go.RowKit
variable {G : Mem}
end Go.Proofs.YthljakcegoohlaaDoor
namespace Go.Proofs.YthljakcegoohlaaDoor
open Go Go.RowKit
variable {G : Mem}
set_option maxHeartbeats 2000000 in
theorem dbeg8_fn (f : Nat → Nat) : Fn Tryd.prog G 11 #[.agg (arr .u8 32 f)] (CV true f 0) := by
  refine Qf1 Tryd.func11 ?_
  refine Qs<|Qp<|(Qh 0) fun r1=>(QH 1) fun r2=>Qn<|Qs<|Qp<|(Qd 0) ?_
  refine e_buildS (cells 34 [pV (.bool true), pI .u8 32 f, pV (u 0)]) (Ub 31 rfl) (Uu 31 rfl) pls31 rfl (by kernel_rfl) rfl ?_
  refine e_storeA (i := 1) (Uz 31) rfl rfl (arrv_size _ _) (cells_one ⟨fun _ => rfl, fun _ => rfl, fun _ => rfl, trivial⟩) rfl cells_sz (.inl rfl) ?_
  refine Qn<|Qr ?_
  exact ⟨_, rfl, .cell (i := 1) rfl rfl (Uu 31) rfl (Uz 31) (arrv_size _ _)⟩
end Go.Proofs.YthljakcegoohlaaDoor
namespace Go.Proofs.YthljakcegoohlaaDoor
open Go Go.RowKit
variable {G : Mem}
set_option maxHeartbeats 400000 in
theorem rotn16_fn (x : Nat) : Fn Tryd.prog G 44 #[uw x, .int .i64 (-16)] (uw (rotl x 16)) := by
  refine Qf1 Tryd.func44 ?_
  refine Qs<|Qp<|(Qa)<|Qn<|Qs<|Qp<|(Qm) ?_
  refine e_conv_uz (Uu 3) (Uu 92) rfl rfl rfl ?_
  refine e_as (show _ = u 18446744073709551600 from rfl) ?_
  refine (Q9 31) ?_
  refine e_as (show _ = u 16 from rfl) ?_
  refine (Qa)<|Qn<|Qs<|Qp<|(Qm)<|(Qm) ?_
  refine e_shl_w rfl rfl rfl (by omega) ?_
  refine (Qm)<|(Qm) ?_
  refine e_sub_u (p := 32) rfl rfl rfl (by omega) ?_
  refine e_as (show _ = u 16 from rfl) ?_
  refine e_shr_w rfl rfl rfl (by omega) ?_
  refine e_or_w rfl rfl rfl  ?_
  refine (Qa)<|Qn<|Qr ?_
  exact ⟨_, rfl, .tmp rfl⟩
set_option maxHeartbeats 400000 in
theorem rotn12_fn (x : Nat) : Fn Tryd.prog G 44 #[uw x, .int .i64 (-12)] (uw (rotl x 20)) := by
  refine Qf1 Tryd.func44 ?_
  refine Qs<|Qp<|(Qa)<|Qn<|Qs<|Qp<|(Qm) ?_
  refine e_conv_uz (Uu 3) (Uu 92) rfl rfl rfl ?_
  refine e_as (show _ = u 18446744073709551604 from rfl) ?_
  refine (Q9 31) ?_
  refine e_as (show _ = u 20 from rfl) ?_
  refine (Qa)<|Qn<|Qs<|Qp<|(Qm)<|(Qm) ?_
  refine e_shl_w rfl rfl rfl (by omega) ?_
  refine (Qm)<|(Qm) ?_
  refine e_sub_u (p := 32) rfl rfl rfl (by omega) ?_
  refine e_as (show _ = u 12 from rfl) ?_
  refine e_shr_w rfl rfl rfl (by omega) ?_
  refine e_or_w rfl rfl rfl  ?_
  refine (Qa)<|Qn<|Qr ?_
  exact ⟨_, rfl, .tmp rfl⟩
set_option maxHeartbeats 400000 in
theorem rotn8_fn (x : Nat) : Fn Tryd.prog G 44 #[uw x, .int .i64 (-8)] (uw (rotl x 24)) := by
  refine Qf1 Tryd.func44 ?_
  refine Qs<|Qp<|(Qa)<|Qn<|Qs<|Qp<|(Qm) ?_
  refine e_conv_uz (Uu 3) (Uu 92) rfl rfl rfl ?_
  refine e_as (show _ = u 18446744073709551608 from rfl) ?_
  refine (Q9 31) ?_
  refine e_as (show _ = u 24 from rfl) ?_
  refine (Qa)<|Qn<|Qs<|Qp<|(Qm)<|(Qm) ?_
  refine e_shl_w rfl rfl rfl (by omega) ?_
  refine (Qm)<|(Qm) ?_
  refine e_sub_u (p := 32) rfl rfl rfl (by omega) ?_
  refine e_as (show _ = u 8 from rfl) ?_
  refine e_shr_w rfl rfl rfl (by omega) ?_
  refine e_or_w rfl rfl rfl  ?_
  refine (Qa)<|Qn<|Qr ?_
  exact ⟨_, rfl, .tmp rfl⟩
set_option maxHeartbeats 400000 in
theorem rotn7_fn (x : Nat) : Fn Tryd.prog G 44 #[uw x, .int .i64 (-7)] (uw (rotl x 25)) := by
  refine Qf1 Tryd.func44 ?_
  refine Qs<|Qp<|(Qa)<|Qn<|Qs<|Qp<|(Qm) ?_
  refine e_conv_uz (Uu 3) (Uu 92) rfl rfl rfl ?_
  refine e_as (show _ = u 18446744073709551609 from rfl) ?_
  refine (Q9 31) ?_
  refine e_as (show _ = u 25 from rfl) ?_
  refine (Qa)<|Qn<|Qs<|Qp<|(Qm)<|(Qm) ?_
  refine e_shl_w rfl rfl rfl (by omega) ?_
  refine (Qm)<|(Qm) ?_
  refine e_sub_u (p := 32) rfl rfl rfl (by omega) ?_
  refine e_as (show _ = u 7 from rfl) ?_
  refine e_shr_w rfl rfl rfl (by omega) ?_
  refine e_or_w rfl rfl rfl  ?_
  refine (Qa)<|Qn<|Qr ?_
  exact ⟨_, rfl, .tmp rfl⟩
set_option maxHeartbeats 2000000 in
theorem mix_st (f : Nat → Nat) (r a b c d x y : Nat) (ha : a < 16) (hb : b < 16) (hc : c < 16) (hd : d < 16) : Fx Tryd.prog G [⟨r, arr .u32 16 f, 85⟩] 43 #[ii a, ii b, ii c, ii d, uw x, uw y, ptr r] (fun v l1 nw => v = .tuple #[] ∧ l1 = [⟨r, arr .u32 16 (mst f a b c d x y), 85⟩] ∧ nw = []) := by
  refine QfW Tryd.func43 ?_
  refine Qs<|(Qg)<|(Qm)<|(Qi)<|(Q1 0)<|(Qm)<|(Qi)<|(Q1 0)<|(Qm) ?_
  refine e_add_w rfl rfl rfl  ?_
  refine e_add_w rfl rfl rfl  ?_
  refine (Qi)<|(Qu 0)<|Qn<|Qs<|(Qg)<|(Qm)<|(Qm)<|(Qi)<|(Q1 0)<|(Qm)<|(Qi)<|(Q1 0) ?_
  refine e_xor_w rfl rfl rfl  ?_
  refine e_call rfl (Un 44) (rotn16_fn _) rfl rfl ?_
  refine (Qi)<|(Qu 0)<|Qn<|Qs<|(Qg)<|(Qm)<|(Qi)<|(Q1 0)<|(Qm)<|(Qi)<|(Q1 0) ?_
  refine e_add_w rfl rfl rfl  ?_
  refine (Qi)<|(Qu 0)<|Qn<|Qs<|(Qg)<|(Qm)<|(Qm)<|(Qi)<|(Q1 0)<|(Qm)<|(Qi)<|(Q1 0) ?_
  refine e_xor_w rfl rfl rfl  ?_
  refine e_call rfl (Un 44) (rotn12_fn _) rfl rfl ?_
  refine (Qi)<|(Qu 0)<|Qn<|Qs<|(Qg)<|(Qm)<|(Qi)<|(Q1 0)<|(Qm)<|(Qi)<|(Q1 0)<|(Qm) ?_
  refine e_add_w rfl rfl rfl  ?_
  refine e_add_w rfl rfl rfl  ?_
  refine (Qi)<|(Qu 0)<|Qn<|Qs<|(Qg)<|(Qm)<|(Qm)<|(Qi)<|(Q1 0)<|(Qm)<|(Qi)<|(Q1 0) ?_
  refine e_xor_w rfl rfl rfl  ?_
  refine e_call rfl (Un 44) (rotn8_fn _) rfl rfl ?_
  refine (Qi)<|(Qu 0)<|Qn<|Qs<|(Qg)<|(Qm)<|(Qi)<|(Q1 0)<|(Qm)<|(Qi)<|(Q1 0) ?_
  refine e_add_w rfl rfl rfl  ?_
  refine (Qi)<|(Qu 0)<|Qn<|(Qg)<|(Qm)<|(Qm)<|(Qi)<|(Q1 0)<|(Qm)<|(Qi)<|(Q1 0) ?_
  refine e_xor_w rfl rfl rfl  ?_
  refine e_call rfl (Un 44) (rotn7_fn _) rfl rfl ?_
  refine (Qi)<|(Qu 0)<|Qn ?_
  exact ⟨rfl, 0, rfl⟩
end Go.Proofs.YthljakcegoohlaaDoor
namespace Go.Proofs.YthljakcegoohlaaDoor
open Go Go.RowKit
theorem mix_fn {G : Mem} (f : Nat → Nat) (r a b c d x y : Nat) (ha : a < 16) (hb : b < 16) (hc : c < 16) (hd : d < 16) (ab : a ≠ b) (ac : a ≠ c) (ad : a ≠ d) (bc : b ≠ c) (bd : b ≠ d) (cd : c ≠ d) : Fx Tryd.prog G [⟨r, arr .u32 16 f, 85⟩] 43 #[ii a, ii b, ii c, ii d, uw x, uw y, ptr r] (fun v l1 nw => v = .tuple #[] ∧ l1 = [⟨r, arr .u32 16 (mat f a b c d x y), 85⟩] ∧ nw = []) := by
  rw [← mst_mat f x y ab ac ad bc bd cd]
  exact mix_st f r a b c d x y ha hb hc hd
abbrev DOR : Blk := ⟨1, arr .i64 160 sgf, 91⟩
variable {G : Mem}
set_option maxHeartbeats 4000000 in
theorem rounds6_fn (f g : Nat → Nat) : Fn Tryd.prog (DOR :: G) 40 #[.agg (arr .u32 16 f), .agg (arr .u32 16 g)] (.agg (arr .u32 16 (rndM g f 10))) := by
  refine Qf1 Tryd.func40 ?_
  refine Qs<|Qp<|(Qh 0) fun r1=>(Qh 1) fun r2=>(QH 2) fun r3=>Qn<|Qs<|Qp<|(QY)<|(Qa)<|Qn<|Qs<|Qs<|Qp<|(Qm)<|Qn<|Qb ?_
  refine QzK [(2, _), (3, _), (4, _), (5, _)] [(1, _), (2, _)] (fun kk E m => ∃ (r : Nat), kk = 10 - r ∧ E = [(10, ii r)] ∧ m = [(0, some ⟨r1, arr .u32 16 (rndM g f r), 85⟩)] ∧ (r ≤ 10)) ⟨0, rfl, rfl, rfl, by omega⟩ ⟨rfl, rfl, rfl, rfl, rfl, trivial⟩ ⟨(blk_arr (rndM_zero g f)), rfl, rfl, trivial⟩ ?_
  rintro kk E m ⟨r, rfl, rfl, rfl, hf0_0⟩
  simp only [catE, catL]
  refine Qs<|Qp<|(Ql)<|Qn<|Qs ?_
  refine e_cond rfl ?_ ?_
  · intro hc0
    have hc0 : r < 10 := by have := of_decide_eq_true hc0; omega
    refine Qk<|Qs<|Qb<|Qs<|Qp<|(Qm)<|(Qa)<|Qn<|Qs<|Qs<|Qp<|(Qm)<|Qn<|Qb ?_
    refine QzK [(2, _), (3, _), (4, _), (5, _), (6, _), (10, _)] [(1, _), (2, _)] (fun kk E m => ∃ (i : Nat), kk = 4 - i ∧ E = [(13, ii i)] ∧ m = [(0, some ⟨r1, arr .u32 16 (colM g r (rndM g f r) i), 85⟩)] ∧ (i ≤ 4)) ⟨0, rfl, rfl, rfl, by omega⟩ ⟨rfl, rfl, rfl, rfl, rfl, rfl, rfl, trivial⟩ ⟨(blk_arr (colM_zero g r (rndM g f r))), rfl, rfl, trivial⟩ ?_
    rintro kk E m ⟨i, rfl, rfl, rfl, hf1_0⟩
    simp only [catE, catL]
    refine Qs<|Qp<|(Ql)<|Qn<|Qs ?_
    refine e_cond rfl ?_ ?_
    · intro hc1
      have hc1 : i < 4 := by have := of_decide_eq_true hc1; omega
      refine Qk<|Qs<|Qb<|Qs<|Qp<|(Qm)<|(Qa)<|Qn<|(Qq ⟨[], 5, [], none⟩)<|(Qm)<|(Qm)<|(Qm) ?_
      refine e_add_i (p := 4) rfl rfl rfl (by omega) ?_
      refine (Qm) ?_
      refine e_add_i (p := 8) rfl rfl rfl (by omega) ?_
      refine (Qm) ?_
      refine e_add_i (p := 12) rfl rfl rfl (by omega) ?_
      refine (Qm)<|(Qm)<|(Q7 2)<|(QB (16 * r))<|(QB (16 * r + 2 * i)) ?_
      refine e_load1g (i := 0) (Uu 3) rfl rfl rfl (arr_get (by omega)) rfl ?_
      refine e_index0 (Uu 85) (Uz 62) rfl rfl (sig_lt r (2 * i)) rfl ?_
      refine e_load1 (i := 1) (Uu 62) rfl rfl rfl (arr_get (sig_lt r (2 * i))) rfl ⟨[], trivial⟩ ?_
      refine (Qm)<|(Qm)<|(Q7 2)<|(Q2 1)<|(QB (16 * r))<|(QB (16 * r + (2 * i + 1))) ?_
      refine e_load1g (i := 0) (Uu 3) rfl rfl rfl (arr_get (by omega)) rfl ?_
      refine e_index0 (Uu 85) (Uz 62) rfl rfl (sig_lt r (2 * i + 1)) rfl ?_
      refine e_load1 (i := 1) (Uu 62) rfl rfl rfl (arr_get (sig_lt r (2 * i + 1))) rfl ⟨[], trivial⟩ ?_
      refine e_callW 0 rfl rfl (Un 43) rfl (by simp) (mix_fn (G := []) (colM g r (rndM g f r) i) r1 i (4 + i) (8 + i) (12 + i) (g (sig r (2 * i))) (g (sig r (2 * i + 1))) (by omega) (by omega) (by omega) (by omega) (by omega) (by omega) (by omega) (by omega) (by omega) (by omega)) rfl rfl ?_
      refine Qn<|Qp<|(Q2 1)<|(Qm)<|Qn ?_
      refine QzL ⟨i + 1, rfl, rfl, rfl, by omega⟩ ⟨rfl, rfl, rfl, rfl, rfl, rfl, rfl, trivial⟩ ⟨(blk_arr (colM_succ g r (rndM g f r) i)), rfl, rfl, trivial⟩ ?_
      omega
    · intro hc1
      have hc1 := of_decide_eq_false hc1
      have hz1 : i = 4 := by omega
      refine Qe<|Qs<|Qp<|(Qm)<|Qn<|Qb ?_
      refine QzK [(2, _), (3, _), (4, _), (5, _), (6, _), (10, _), (13, _)] [(1, _), (2, _)] (fun kk E m => ∃ (j : Nat), kk = 4 - j ∧ E = [(43, ii j)] ∧ m = [(0, some ⟨r1, arr .u32 16 (diaM g r (colM g r (rndM g f r) 4) j), 85⟩)] ∧ (j ≤ 4)) ⟨0, rfl, rfl, rfl, by omega⟩ ⟨rfl, rfl, rfl, rfl, rfl, rfl, rfl, rfl, trivial⟩ ⟨(blk_arr ((congrArg (colM g r (rndM g f r)) hz1).trans (diaM_zero g r (colM g r (rndM g f r) 4)))), rfl, rfl, trivial⟩ ?_
      rintro kk E m ⟨j, rfl, rfl, rfl, hf2_0⟩
      simp only [catE, catL]
      refine Qs<|Qp<|(Ql)<|Qn<|Qs ?_
      refine e_cond rfl ?_ ?_
      · intro hc2
        have hc2 : j < 4 := by have := of_decide_eq_true hc2; omega
        refine Qk<|Qs<|Qb<|Qs<|Qp<|(Qm)<|(Qa)<|Qn<|(Qq ⟨[], 5, [], none⟩)<|(Qm)<|(Qm)<|(Qm)<|(Q2 1)<|(Q4 4) ?_
        refine e_add_i (p := 4) rfl rfl rfl (by omega) ?_
        refine (Qm)<|(Q2 2)<|(Q4 4) ?_
        refine e_add_i (p := 8) rfl rfl rfl (by omega) ?_
        refine (Qm)<|(Q2 3)<|(Q4 4) ?_
        refine e_add_i (p := 12) rfl rfl rfl (by omega) ?_
        refine (Qm)<|(Qm)<|(Q7 2) ?_
        refine e_add_i (p := 8) rfl rfl rfl (by omega) ?_
        refine (QB (16 * r))<|(QB (16 * r + (8 + 2 * j))) ?_
        refine e_load1g (i := 0) (Uu 3) rfl rfl rfl (arr_get (by omega)) rfl ?_
        refine e_index0 (Uu 85) (Uz 62) rfl rfl (sig_lt r (8 + 2 * j)) rfl ?_
        refine e_load1 (i := 1) (Uu 62) rfl rfl rfl (arr_get (sig_lt r (8 + 2 * j))) rfl ⟨[], trivial⟩ ?_
        refine (Qm)<|(Qm)<|(Q7 2) ?_
        refine e_add_i (p := 9) rfl rfl rfl (by omega) ?_
        refine (QB (16 * r))<|(QB (16 * r + (9 + 2 * j))) ?_
        refine e_load1g (i := 0) (Uu 3) rfl rfl rfl (arr_get (by omega)) rfl ?_
        refine e_index0 (Uu 85) (Uz 62) rfl rfl (sig_lt r (9 + 2 * j)) rfl ?_
        refine e_load1 (i := 1) (Uu 62) rfl rfl rfl (arr_get (sig_lt r (9 + 2 * j))) rfl ⟨[], trivial⟩ ?_
        refine e_callW 0 rfl rfl (Un 43) rfl (by simp) (mix_fn (G := []) (diaM g r (colM g r (rndM g f r) 4) j) r1 j (4 + (j + 1) % 4) (8 + (j + 2) % 4) (12 + (j + 3) % 4) (g (sig r (8 + 2 * j))) (g (sig r (9 + 2 * j))) (by omega) (by omega) (by omega) (by omega) (by omega) (by omega) (by omega) (by omega) (by omega) (by omega)) rfl rfl ?_
        refine Qn<|Qp<|(Q2 1)<|(Qm)<|Qn ?_
        refine QzL ⟨j + 1, rfl, rfl, rfl, by omega⟩ ⟨rfl, rfl, rfl, rfl, rfl, rfl, rfl, rfl, trivial⟩ ⟨(blk_arr (diaM_succ g r (colM g r (rndM g f r) 4) j)), rfl, rfl, trivial⟩ ?_
        omega
      · intro hc2
        have hc2 := of_decide_eq_false hc2
        have hz2 : j = 4 := by omega
        refine Qe<|Qp<|(Q2 1)<|(Qm)<|Qn ?_
        refine QzL ⟨r + 1, rfl, rfl, rfl, by omega⟩ ⟨rfl, rfl, rfl, rfl, rfl, trivial⟩ ⟨(blk_arr ((congrArg (diaM g r (colM g r (rndM g f r) 4)) hz2).trans (rndM_succ g f r))), rfl, rfl, trivial⟩ ?_
        omega
  · intro hc0
    have hc0 := of_decide_eq_false hc0
    have hz0 : r = 10 := by omega
    refine Qe<|Qs<|Qp<|(Qd 0)<|(Qt 2)<|Qn<|Qr ?_
    rw [show rndM g f 10 = rndM g f r by rw [hz0]]
    exact ⟨_, rfl, .cell (i := 2) rfl rfl (Uu 85) rfl (Uz 85) (arr_size _ _ _)⟩
set_option maxHeartbeats 2000000 in
theorem words_fn (d : Nat → Nat) (hd : L8 64 d) : Fn Tryd.prog G 42 #[.agg (arr .u8 64 d)] (.agg (arr .u32 16 (wrd ((List.range 64).map d)))) := by
  refine Qf1 Tryd.func42 ?_
  refine Qs<|Qp<|(Qh 0) fun r1=>(QH 1) fun r2=>Qn<|Qs<|Qp<|(QH 2) fun r3=>Qn<|Qs<|Qs<|Qp<|(Qd 0)<|(Qm)<|Qn<|Qb ?_
  refine QzK [(2, _), (3, _), (6, _)] [(0, _), (1, _)] (fun kk E m => ∃ (i : Nat) (s : Nat → Nat), kk = 64 - i ∧ E = [(7, ii i)] ∧ m = [(2, some ⟨r3, arr .u32 16 s, 85⟩)] ∧ (i ≤ 64) ∧ (∀ t, t < 16 → s t = pw d i t)) ⟨0, fun _ => 0, rfl, rfl, rfl, by omega, fun t _ => (pw_none d t).symm⟩ ⟨rfl, rfl, rfl, rfl, trivial⟩ ⟨rfl, rfl, rfl, trivial⟩ ?_
  rintro kk E m ⟨i, s, rfl, rfl, rfl, hf0_0, hf0_1⟩
  simp only [catE, catL]
  refine Qs<|Qp<|(Ql)<|Qn<|Qs ?_
  refine e_cond rfl ?_ ?_
  · intro hc0
    have hc0 : i < 64 := by have := of_decide_eq_true hc0; omega
    refine Qk<|Qs<|Qb<|Qs<|Qp<|(Qm)<|(QX)<|(Qa)<|(Qa)<|Qn<|(Qg)<|(Qm)<|(Q5 4)<|(Qi)<|(Q1 2)<|(Qm) ?_
    refine e_conv_w (Uu 5) (Uu 62) rfl rfl rfl ?_
    refine e_as (congrArg uw (Nat.mod_eq_of_lt (Nat.lt_trans (hd i (by omega)) (by decide)))) ?_
    refine (Qm)<|(Q4 4)<|(Q6 8) ?_
    refine e_shl_w rfl rfl rfl (by omega) ?_
    refine e_or_w rfl rfl rfl  ?_
    refine (Qi)<|(Qu 2)<|Qn<|Qp<|(Q2 1)<|(Qm)<|Qn ?_
    refine QzL ⟨i + 1, upd s (i / 4) _, rfl, rfl, rfl, by omega, words_step hd (by omega) hf0_1⟩ ⟨rfl, rfl, rfl, rfl, trivial⟩ ⟨rfl, rfl, rfl, trivial⟩ ?_
    omega
  · intro hc0
    have hc0 := of_decide_eq_false hc0
    have hz0 : i = 64 := by omega
    subst hz0
    refine Qe<|Qs<|Qp<|(Qd 2)<|(Qt 1)<|Qn<|Qr ?_
    rw [← arr_congr (k := .u32) (n := 16) (words_all d), ← arr_congr (k := .u32) (n := 16) hf0_1]
    exact ⟨_, rfl, .cell (i := 1) rfl rfl (Uu 85) rfl (Uz 85) (arr_size _ _ _)⟩
set_option maxHeartbeats 400000 in
theorem div_fn : Fn Tryd.prog G 34 #[] (.agg (arr .u32 8 ivf)) := by
  refine Qf1 Tryd.func34 ?_
  refine Qs<|Qp<|(QH 0) fun r1=>Qn<|Qs<|Qp ?_
  refine e_build (arr .u32 8 ivf) (Ub 63 rfl) (Uu 63 rfl) (Uz 62 rfl) rfl (by kernel_rfl) rfl ?_
  refine (Qt 0)<|Qn<|Qr ?_
  exact ⟨_, rfl, .cell (i := 0) rfl rfl (Uu 63) rfl (Uz 63) (arr_size _ _ _)⟩
end Go.Proofs.YthljakcegoohlaaDoor
namespace Go.Proofs.YthljakcegoohlaaDoor
open Go Go.RowKit
variable {G : Mem}
set_option maxHeartbeats 2000000 in
theorem spread_true (h d : Nat → Nat) (n ln : Nat) (hl : ln < 4294967296) : Fn Tryd.prog G 41 #[.agg (cells 74 [pI .u32 8 h, pI .u8 64 d, pV (.int .i64 (n : Int)), pV (.int .i64 (ln : Int))]), .bool true] (.agg (arr .u32 16 (w0 h ln true))) := by
  refine Qf1 Tryd.func41 ?_
  refine Qs<|Qp<|(Qh 0) fun r1=>(QH 1) fun r2=>Qn<|Qs<|Qp<|(QH 2) fun r3=>Qn<|Qs<|Qs<|Qp ?_
  refine e_call rfl (Un 34) div_fn rfl rfl ?_
  refine (Qm)<|Qn<|Qb ?_
  refine QzK [(1, _), (2, _), (4, _), (5, _), (8, _)] [(0, _), (1, _)] (fun kk E m => ∃ (i : Nat) (s : Nat → Nat), kk = 8 - i ∧ E = [(9, ii i)] ∧ m = [(2, some ⟨r3, arr .u32 16 s, 85⟩)] ∧ (i ≤ 8) ∧ (∀ t, t < 16 → s t = if t % 8 < i then w00 h t else 0)) ⟨0, fun _ => 0, rfl, rfl, rfl, by omega, fun t _ => by rw [if_neg (by omega)]⟩ ⟨rfl, rfl, rfl, rfl, rfl, rfl, trivial⟩ ⟨rfl, rfl, rfl, trivial⟩ ?_
  rintro kk E m ⟨i, s, rfl, rfl, rfl, hf0_0, hf0_1⟩
  simp only [catE, catL]
  refine Qs<|Qp<|(Ql)<|Qn<|Qs ?_
  refine e_cond rfl ?_ ?_
  · intro hc0
    have hc0 : i < 8 := by have := of_decide_eq_true hc0; omega
    refine Qk<|Qs<|Qb<|Qs<|Qp<|(Qm)<|(QX)<|(Qa)<|(Qa)<|Qn<|Qp<|(Qm)<|(Qm) ?_
    refine e_add_i (p := 8) rfl rfl rfl (by omega) ?_
    refine (Qm)<|(Qf 0)<|(Qi) ?_
    refine e_ldI (i := 0) 0 (i) (Uu 62) rfl rfl rfl rfl (by first | rfl | omega) (by omega) (by omega) rfl ⟨[], trivial⟩ ?_
    refine (Qm)<|(Qi)<|(Qu 2)<|(Qi)<|(Qu 2)<|Qn<|Qp<|(Q2 1)<|(Qm)<|Qn ?_
    refine QzL ⟨i + 1, upd (upd s i _) (8 + i) _, rfl, rfl, rfl, by omega, w00_step (by omega) hf0_1⟩ ⟨rfl, rfl, rfl, rfl, rfl, rfl, trivial⟩ ⟨rfl, rfl, rfl, trivial⟩ ?_
    omega
  · intro hc0
    have hc0 := of_decide_eq_false hc0
    have hz0 : i = 8 := by omega
    subst hz0
    refine Qe<|Qs<|Qp<|(Qj 12)<|(Q1 2)<|(Qf 73)<|(QV 3 0) ?_
    refine e_conv_w (Uu 3) (Uu 62) rfl rfl rfl ?_
    refine e_xor_w rfl rfl rfl  ?_
    refine (Qj 12)<|(Qu 2)<|Qn<|Qs<|Qp<|(Qj 13)<|(Q1 2)<|(Qf 73)<|(QV 3 0) ?_
    refine e_shr_i (s := 32) rfl rfl rfl (by omega) ?_
    refine e_as (congrArg ii (show ln / 2 ^ 32 = 0 by omega)) ?_
    refine e_conv_w (Uu 3) (Uu 62) rfl rfl rfl ?_
    refine e_xor_w rfl rfl rfl  ?_
    refine (Qj 13)<|(Qu 2)<|Qn<|Qs<|Qs<|Qp<|(Qm)<|Qn<|(Qct)<|Qp<|(Qj 14)<|(Q1 2) ?_
    refine e_compl_w rfl rfl ?_
    refine (Qj 14)<|(Qu 2)<|Qn<|Qs<|Qp<|(Qd 2)<|(Qt 1)<|Qn<|Qr ?_
    rw [← arr_congr (spr_true hf0_1)]
    exact ⟨_, rfl, .cell (i := 1) rfl rfl (Uu 85) rfl (Uz 85) (arr_size _ _ _)⟩
set_option maxHeartbeats 2000000 in
theorem spread_false (h d : Nat → Nat) (n ln : Nat) (hl : ln < 4294967296) : Fn Tryd.prog G 41 #[.agg (cells 74 [pI .u32 8 h, pI .u8 64 d, pV (.int .i64 (n : Int)), pV (.int .i64 (ln : Int))]), .bool false] (.agg (arr .u32 16 (w0 h ln false))) := by
  refine Qf1 Tryd.func41 ?_
  refine Qs<|Qp<|(Qh 0) fun r1=>(QH 1) fun r2=>Qn<|Qs<|Qp<|(QH 2) fun r3=>Qn<|Qs<|Qs<|Qp ?_
  refine e_call rfl (Un 34) div_fn rfl rfl ?_
  refine (Qm)<|Qn<|Qb ?_
  refine QzK [(1, _), (2, _), (4, _), (5, _), (8, _)] [(0, _), (1, _)] (fun kk E m => ∃ (i : Nat) (s : Nat → Nat), kk = 8 - i ∧ E = [(9, ii i)] ∧ m = [(2, some ⟨r3, arr .u32 16 s, 85⟩)] ∧ (i ≤ 8) ∧ (∀ t, t < 16 → s t = if t % 8 < i then w00 h t else 0)) ⟨0, fun _ => 0, rfl, rfl, rfl, by omega, fun t _ => by rw [if_neg (by omega)]⟩ ⟨rfl, rfl, rfl, rfl, rfl, rfl, trivial⟩ ⟨rfl, rfl, rfl, trivial⟩ ?_
  rintro kk E m ⟨i, s, rfl, rfl, rfl, hf0_0, hf0_1⟩
  simp only [catE, catL]
  refine Qs<|Qp<|(Ql)<|Qn<|Qs ?_
  refine e_cond rfl ?_ ?_
  · intro hc0
    have hc0 : i < 8 := by have := of_decide_eq_true hc0; omega
    refine Qk<|Qs<|Qb<|Qs<|Qp<|(Qm)<|(QX)<|(Qa)<|(Qa)<|Qn<|Qp<|(Qm)<|(Qm) ?_
    refine e_add_i (p := 8) rfl rfl rfl (by omega) ?_
    refine (Qm)<|(Qf 0)<|(Qi) ?_
    refine e_ldI (i := 0) 0 (i) (Uu 62) rfl rfl rfl rfl (by first | rfl | omega) (by omega) (by omega) rfl ⟨[], trivial⟩ ?_
    refine (Qm)<|(Qi)<|(Qu 2)<|(Qi)<|(Qu 2)<|Qn<|Qp<|(Q2 1)<|(Qm)<|Qn ?_
    refine QzL ⟨i + 1, upd (upd s i _) (8 + i) _, rfl, rfl, rfl, by omega, w00_step (by omega) hf0_1⟩ ⟨rfl, rfl, rfl, rfl, rfl, rfl, trivial⟩ ⟨rfl, rfl, rfl, trivial⟩ ?_
    omega
  · intro hc0
    have hc0 := of_decide_eq_false hc0
    have hz0 : i = 8 := by omega
    subst hz0
    refine Qe<|Qs<|Qp<|(Qj 12)<|(Q1 2)<|(Qf 73)<|(QV 3 0) ?_
    refine e_conv_w (Uu 3) (Uu 62) rfl rfl rfl ?_
    refine e_xor_w rfl rfl rfl  ?_
    refine (Qj 12)<|(Qu 2)<|Qn<|Qs<|Qp<|(Qj 13)<|(Q1 2)<|(Qf 73)<|(QV 3 0) ?_
    refine e_shr_i (s := 32) rfl rfl rfl (by omega) ?_
    refine e_as (congrArg ii (show ln / 2 ^ 32 = 0 by omega)) ?_
    refine e_conv_w (Uu 3) (Uu 62) rfl rfl rfl ?_
    refine e_xor_w rfl rfl rfl  ?_
    refine (Qj 13)<|(Qu 2)<|Qn<|Qs<|Qs<|Qp<|(Qm)<|Qn<|(Qcf)<|Qk<|Qs<|Qp<|(Qd 2)<|(Qt 1)<|Qn<|Qr ?_
    rw [← arr_congr (spr_false hf0_1)]
    exact ⟨_, rfl, .cell (i := 1) rfl rfl (Uu 85) rfl (Uz 85) (arr_size _ _ _)⟩
set_option maxHeartbeats 2000000 in
theorem dbegin6_fn : Fn Tryd.prog G 28 #[] (.agg (cells 74 [pI .u32 8 hbeg, pI .u8 64 (fun _ => 0), pV (.int .i64 0), pV (.int .i64 0)])) := by
  refine Qf1 Tryd.func28 ?_
  refine Qs<|Qp<|(QH 0) fun r1=>Qn<|Qs<|Qp ?_
  refine e_call rfl (Un 34) div_fn rfl rfl ?_
  refine (QH 1) fun r2=>(Qt 1)<|Qn<|Qs<|Qp<|(Qj 0)<|(Q1 1) ?_
  refine e_xor_w (q := 16842784) rfl rfl rfl  ?_
  refine (Qj 0)<|(Qu 1)<|Qn<|Qs<|Qp<|(Qd 1) ?_
  refine e_buildS (cells 74 [pI .u32 8 hbeg, pI .u8 64 (fun _ => 0), pV (.int .i64 0), pV (.int .i64 0)]) (Ub 65 rfl) (Uu 65 rfl) pls65 rfl (by kernel_rfl) rfl ?_
  refine e_storeA (i := 0) (Uz 65) rfl rfl (arrv_size _ _) (cells_one ⟨fun _ => rfl, fun _ => rfl, fun _ => rfl, fun _ => rfl, trivial⟩) rfl cells_sz (.inl rfl) ?_
  refine Qn<|Qr ?_
  exact ⟨_, rfl, .cell (i := 0) rfl rfl (Uu 65) rfl (Uz 65) (arrv_size _ _)⟩
end Go.Proofs.YthljakcegoohlaaDoor
namespace Go.Proofs.YthljakcegoohlaaDoor
open Go Go.RowKit
variable {G : Mem}
set_option maxHeartbeats 2000000 in
theorem dsqz_true (h d : Nat → Nat) (n ln : Nat) (hd : L8 64 d) (hl : ln < 4294967296) : Fn Tryd.prog (DOR :: G) 33 #[.agg (cells 74 [pI .u32 8 h, pI .u8 64 d, pV (.int .i64 (n : Int)), pV (.int .i64 (ln : Int))]), .bool true] (.agg (arr .u32 8 (sqz h ((List.range 64).map d) ln true))) := by
  obtain ⟨v, hv⟩ : ∃ v, v = rndM (wrd ((List.range 64).map d)) (w0 h ln true) 10 := ⟨_, rfl⟩
  have hvb : ∀ t, t < 16 → v t = brs ((List.range 64).map d) (w0 h ln true) 10 t := fun t ht => by rw [hv]; exact rnd_brs (fun _ _ => rfl) 10 t ht
  obtain ⟨z, hz⟩ : ∃ z, z = sqz h ((List.range 64).map d) ln true := ⟨_, rfl⟩
  rw [← hz]
  refine Qf1 Tryd.func33 ?_
  refine Qs<|Qp<|(Qh 0) fun r1=>(QH 1) fun r2=>Qn<|Qs<|(Qg)<|(QD 0)<|(Qm) ?_
  refine e_call rfl (Un 41) (spread_true h d n ln hl) rfl rfl ?_
  refine (Qf 8)<|(Qv 1 0) ?_
  refine e_call rfl (Un 42) (words_fn d hd) rfl rfl ?_
  refine e_call rfl (Un 40) (rounds6_fn (w0 h ln true) (wrd ((List.range 64).map d))) rfl rfl ?_
  refine e_as (congrArg (fun f => Value.agg (arr .u32 16 f)) hv.symm) ?_
  refine (QH 2) fun r3=>(Qt 2)<|Qn<|Qs<|Qs<|Qp<|(Qm)<|Qn<|Qb ?_
  refine QzK [(2, _), (4, _), (5, _)] [(1, _), (2, _)] (fun kk E m => ∃ (q : Nat) (s : Nat → Nat), kk = 8 - q ∧ E = [(14, ii q)] ∧ m = [(0, some ⟨r1, cells 74 [pI .u32 8 s, pI .u8 64 d, pV (.int .i64 (n : Int)), pV (.int .i64 (ln : Int))], 65⟩)] ∧ (q ≤ 8) ∧ (∀ t, t < 8 → s t = if t < q then z t else h t)) ⟨0, h, rfl, rfl, rfl, by omega, fun t _ => by rw [if_neg (by omega)]⟩ ⟨rfl, rfl, rfl, rfl, trivial⟩ ⟨rfl, rfl, rfl, trivial⟩ ?_
  rintro kk E m ⟨q, s, rfl, rfl, rfl, hf0_0, hf0_1⟩
  simp only [catE, catL]
  refine Qs<|Qp<|(Ql)<|Qn<|Qs ?_
  refine e_cond rfl ?_ ?_
  · intro hc0
    have hc0 : q < 8 := by have := of_decide_eq_true hc0; omega
    refine Qk<|Qs<|Qb<|Qs<|Qp<|(Qm)<|(Qa)<|Qn<|(Qg)<|(Qm)<|(Qf 0)<|(Qi) ?_
    refine e_ldI (i := 0) 0 (q) (Uu 62) rfl rfl rfl rfl (by first | rfl | omega) (by omega) (by omega) rfl ⟨[], trivial⟩ ?_
    refine (Qm)<|(Qi)<|(Q1 2)<|(Qm) ?_
    refine e_add_i (p := 8) rfl rfl rfl (by omega) ?_
    refine (Qi)<|(Q1 2) ?_
    refine e_xor_w rfl rfl rfl  ?_
    refine e_xor_w rfl rfl rfl  ?_
    refine (Qf 0)<|(Qi) ?_
    refine e_stI (i := 0) 0 (q) (Uz 62) rfl rfl rfl rfl (by first | rfl | omega) (by omega) (by omega) (.inl rfl) ?_
    refine Qn<|Qp<|(Q2 1)<|(Qm)<|Qn ?_
    refine QzL ⟨q + 1, upd s q _, rfl, rfl, rfl, by omega, sqd_step (by omega) hvb hz hf0_1⟩ ⟨rfl, rfl, rfl, rfl, trivial⟩ ⟨rfl, rfl, rfl, trivial⟩ ?_
    omega
  · intro hc0
    have hc0 := of_decide_eq_false hc0
    have hz0 : q = 8 := by omega
    subst hz0
    refine Qe<|Qs<|Qp<|(Qf 0)<|(Qv 0 0)<|(Qt 1)<|Qn<|Qr ?_
    rw [← arr_congr (k := .u32) (n := 8) (fun t ht => (hf0_1 t ht).trans (if_pos (by omega)))]
    exact ⟨_, rfl, .cell (i := 1) rfl rfl (Uu 63) rfl (Uz 63) (arr_size _ _ _)⟩
set_option maxHeartbeats 2000000 in
theorem dsqz_false (h d : Nat → Nat) (n ln : Nat) (hd : L8 64 d) (hl : ln < 4294967296) : Fn Tryd.prog (DOR :: G) 33 #[.agg (cells 74 [pI .u32 8 h, pI .u8 64 d, pV (.int .i64 (n : Int)), pV (.int .i64 (ln : Int))]), .bool false] (.agg (arr .u32 8 (sqz h ((List.range 64).map d) ln false))) := by
  obtain ⟨v, hv⟩ : ∃ v, v = rndM (wrd ((List.range 64).map d)) (w0 h ln false) 10 := ⟨_, rfl⟩
  have hvb : ∀ t, t < 16 → v t = brs ((List.range 64).map d) (w0 h ln false) 10 t := fun t ht => by rw [hv]; exact rnd_brs (fun _ _ => rfl) 10 t ht
  obtain ⟨z, hz⟩ : ∃ z, z = sqz h ((List.range 64).map d) ln false := ⟨_, rfl⟩
  rw [← hz]
  refine Qf1 Tryd.func33 ?_
  refine Qs<|Qp<|(Qh 0) fun r1=>(QH 1) fun r2=>Qn<|Qs<|(Qg)<|(QD 0)<|(Qm) ?_
  refine e_call rfl (Un 41) (spread_false h d n ln hl) rfl rfl ?_
  refine (Qf 8)<|(Qv 1 0) ?_
  refine e_call rfl (Un 42) (words_fn d hd) rfl rfl ?_
  refine e_call rfl (Un 40) (rounds6_fn (w0 h ln false) (wrd ((List.range 64).map d))) rfl rfl ?_
  refine e_as (congrArg (fun f => Value.agg (arr .u32 16 f)) hv.symm) ?_
  refine (QH 2) fun r3=>(Qt 2)<|Qn<|Qs<|Qs<|Qp<|(Qm)<|Qn<|Qb ?_
  refine QzK [(2, _), (4, _), (5, _)] [(1, _), (2, _)] (fun kk E m => ∃ (q : Nat) (s : Nat → Nat), kk = 8 - q ∧ E = [(14, ii q)] ∧ m = [(0, some ⟨r1, cells 74 [pI .u32 8 s, pI .u8 64 d, pV (.int .i64 (n : Int)), pV (.int .i64 (ln : Int))], 65⟩)] ∧ (q ≤ 8) ∧ (∀ t, t < 8 → s t = if t < q then z t else h t)) ⟨0, h, rfl, rfl, rfl, by omega, fun t _ => by rw [if_neg (by omega)]⟩ ⟨rfl, rfl, rfl, rfl, trivial⟩ ⟨rfl, rfl, rfl, trivial⟩ ?_
  rintro kk E m ⟨q, s, rfl, rfl, rfl, hf0_0, hf0_1⟩
  simp only [catE, catL]
  refine Qs<|Qp<|(Ql)<|Qn<|Qs ?_
  refine e_cond rfl ?_ ?_
  · intro hc0
    have hc0 : q < 8 := by have := of_decide_eq_true hc0; omega
    refine Qk<|Qs<|Qb<|Qs<|Qp<|(Qm)<|(Qa)<|Qn<|(Qg)<|(Qm)<|(Qf 0)<|(Qi) ?_
    refine e_ldI (i := 0) 0 (q) (Uu 62) rfl rfl rfl rfl (by first | rfl | omega) (by omega) (by omega) rfl ⟨[], trivial⟩ ?_
    refine (Qm)<|(Qi)<|(Q1 2)<|(Qm) ?_
    refine e_add_i (p := 8) rfl rfl rfl (by omega) ?_
    refine (Qi)<|(Q1 2) ?_
    refine e_xor_w rfl rfl rfl  ?_
    refine e_xor_w rfl rfl rfl  ?_
    refine (Qf 0)<|(Qi) ?_
    refine e_stI (i := 0) 0 (q) (Uz 62) rfl rfl rfl rfl (by first | rfl | omega) (by omega) (by omega) (.inl rfl) ?_
    refine Qn<|Qp<|(Q2 1)<|(Qm)<|Qn ?_
    refine QzL ⟨q + 1, upd s q _, rfl, rfl, rfl, by omega, sqd_step (by omega) hvb hz hf0_1⟩ ⟨rfl, rfl, rfl, rfl, trivial⟩ ⟨rfl, rfl, rfl, trivial⟩ ?_
    omega
  · intro hc0
    have hc0 := of_decide_eq_false hc0
    have hz0 : q = 8 := by omega
    subst hz0
    refine Qe<|Qs<|Qp<|(Qf 0)<|(Qv 0 0)<|(Qt 1)<|Qn<|Qr ?_
    rw [← arr_congr (k := .u32) (n := 8) (fun t ht => (hf0_1 t ht).trans (if_pos (by omega)))]
    exact ⟨_, rfl, .cell (i := 1) rfl rfl (Uu 63) rfl (Uz 63) (arr_size _ _ _)⟩
end Go.Proofs.YthljakcegoohlaaDoor
namespace Go.Proofs.YthljakcegoohlaaDoor
open Go Go.RowKit
variable {G : Mem}
set_option maxHeartbeats 4000000 in
theorem dadded_fn (h d : Nat → Nat) (n ln : Nat) (v : Value) (l : List Nat) (hv : Shows (DOR :: G) 1 v l.length (l.map by8)) (hlb : ∀ b ∈ l, b < 256) (hd : L8 64 d) (hok : okB n ln d = true) (hz : ln + l.length ≤ 1073741824) : Fn Tryd.prog (DOR :: G) 27 #[.agg (cells 74 [pI .u32 8 h, pI .u8 64 d, pV (.int .i64 (n : Int)), pV (.int .i64 (ln : Int))]), v] (.agg (cells 74 [pI .u32 8 (hacc h (ln - n) (sS d n l) (nblk (sS d n l).length)), pI .u8 64 (fun i => ((sS d n l).drop (64 * nblk (sS d n l).length)).getD i 0), pV (.int .i64 (((sS d n l).drop (64 * nblk (sS d n l).length)).length : Nat)), pV (.int .i64 (ln + l.length : Nat))])) := by
  obtain ⟨_, hnl, hn, hmod, _⟩ := okB_open hok
  refine Qf1 Tryd.func27 ?_
  refine Qs<|Qp<|(Qh 0) fun r1=>(QH 1) fun r2=>Qn<|Qs<|Qb ?_
  refine QzK [(2, _), (4, _)] [(1, _)] (fun kk E m => ∃ (hh : Nat → Nat) (g : Nat → Nat) (nn : Nat) (q : Nat) (bv : Value), kk = ln + l.length - q ∧ E = [(1, bv)] ∧ m = [(0, some ⟨r1, cells 74 [pI .u32 8 hh, pI .u8 64 g, pV (.int .i64 ((nn : Nat) : Int)), pV (.int .i64 ((q : Nat) : Int))], 65⟩)] ∧ (AddInv h d n ln l hh g nn q) ∧ (Shows (DOR :: G) 1 bv (l.drop (q - ln)).length ((l.drop (q - ln)).map by8))) ⟨h, d, n, ln, v, rfl, rfl, rfl, add_first l hok, (by rw [Nat.sub_self]; exact hv)⟩ ⟨rfl, rfl, rfl, trivial⟩ ⟨rfl, rfl, trivial⟩ ?_
  rintro kk E m ⟨hh, g, nn, q, bv, rfl, rfl, rfl, hf0_0, hf0_1⟩
  simp only [catE, catL]
  have hq1 := hf0_0.1
  have hq2 := hf0_0.2.1
  have hnn := add_nn hf0_0
  have hwl : (l.drop (q - ln)).length = l.length - (q - ln) := List.length_drop
  refine Qs<|Qs<|Qp<|(Qm)<|(QC hf0_1)<|(QG)<|Qn ?_
  refine e_cond rfl ?_ ?_
  · intro hc0
    have hw0 : 0 < (l.drop (q - ln)).length := by have := of_decide_eq_true hc0; omega
    refine Qk<|Qb<|Qs<|Qs ?_
    rcases (by omega : nn = 64 ∨ nn < 64) with hN | hN
    · skip
      refine Qp<|(Qf 72)<|(QV 2 0)<|(Qc)<|Qn ?_
      refine e_cond rfl ?_ ?_
      · intro hc1
        refine Qs<|Qp<|(QD 0) ?_
        refine e_call rfl (Un 33) (dsqz_false hh g nn q (add_lt hd hn hlb hf0_0) (by omega)) rfl rfl ?_
        refine (Qf 0) ?_
        refine e_stC (i := 0) 0 (Uz 63) rfl rfl rfl rfl (by decide) (.inl rfl) ?_
        refine Qn<|Qp ?_
        refine e_build0 (Ub 56 rfl) (Uu 56 rfl) sis5 rfl ?_
        refine (Qf 8) ?_
        refine e_stC (i := 0) 1 (Uz 56) rfl rfl rfl rfl (by decide) (.inl rfl) ?_
        refine (Qf 72) ?_
        refine e_stV (i := 0) 2 (Uz 3) rfl rfl rfl rfl rfl (by decide) (.inl rfl) ?_
        refine Qn<|Qs<|Qp<|(Qf 8)<|(Qf 72)<|(QV 2 0) ?_
        refine e_sliceA 0 64 (Uu 56) (Uz 5) rfl rfl rfl ⟨_, rfl⟩ rfl (by omega) (by omega) (by omega) rfl ?_
        refine (Qm) ?_
        refine e_copyCB (i := 0) (o := 8) (L := 64) 1 (0) (Uu 48) (Uz 5) hf0_1 seenG rfl rfl rfl rfl (by omega) (by omega) (by decide) rfl ?_
        refine (Qa)<|Qn<|Qs<|Qp<|(Qf 72)<|(QV 2 0) ?_
        refine e_as (show _ = ii 0 from rfl) ?_
        refine (Qm)<|(Q3)<|(Qf 72) ?_
        refine e_stV (i := 0) 2 (Uz 3) rfl rfl rfl rfl rfl (by decide) (.inl rfl) ?_
        refine Qn<|Qs<|Qp<|(Qf 73)<|(QV 3 0)<|(Qm)<|(Q3)<|(Qf 73) ?_
        refine e_stV (i := 0) 3 (Uz 3) rfl rfl rfl rfl rfl (by decide) (.inl rfl) ?_
        refine Qn<|Qp<|(Qm)<|(Qm) ?_
        refine e_sliceV _ (l.drop (q - ln)).length hf0_1 (Uu 48) (Uz 5) rfl rfl rfl ⟨_, rfl⟩ rfl (by omega) (by omega) rfl ?_
        refine (Qa)<|Qn ?_
        refine QzL ⟨_, _, _, _, _, rfl, rfl, rfl, (by first | exact add_full hnl hf0_0 hN hmod rfl hw0 rfl (fun _ _ => rfl) rfl rfl | exact add_more hf0_0 hN rfl hw0 (fun _ _ => rfl) rfl rfl), (add_shows hf0_1 (by omega) hq1)⟩ ⟨rfl, rfl, rfl, trivial⟩ ⟨rfl, rfl, trivial⟩ ?_
        omega
      · intro hc1
        exact absurd (of_decide_eq_false hc1) (by omega)
    · skip
      refine Qp<|(Qf 72)<|(QV 2 0)<|(Qc)<|Qn ?_
      refine e_cond rfl ?_ ?_
      · intro hc1
        exact absurd (of_decide_eq_true hc1) (by omega)
      · intro hc1
        refine Qk<|Qs<|Qp<|(Qf 8)<|(Qf 72)<|(QV 2 0) ?_
        refine e_sliceA nn 64 (Uu 56) (Uz 5) rfl rfl rfl ⟨_, rfl⟩ rfl (by omega) (by omega) (by omega) rfl ?_
        refine (Qm) ?_
        refine e_copyCB (i := 0) (o := 8) (L := 64) 1 (nn) (Uu 48) (Uz 5) hf0_1 seenG rfl rfl rfl rfl (by omega) (by omega) (by decide) rfl ?_
        refine (Qa)<|Qn<|Qs<|Qp<|(Qf 72)<|(QV 2 0)<|(Qm)<|(Q3)<|(Qf 72) ?_
        refine e_stV (i := 0) 2 (Uz 3) rfl rfl rfl rfl rfl (by decide) (.inl rfl) ?_
        refine Qn<|Qs<|Qp<|(Qf 73)<|(QV 3 0)<|(Qm)<|(Q3)<|(Qf 73) ?_
        refine e_stV (i := 0) 3 (Uz 3) rfl rfl rfl rfl rfl (by decide) (.inl rfl) ?_
        refine Qn<|Qp<|(Qm)<|(Qm) ?_
        refine e_sliceV _ (l.drop (q - ln)).length hf0_1 (Uu 48) (Uz 5) rfl rfl rfl ⟨_, rfl⟩ rfl (by omega) (by omega) rfl ?_
        refine (Qa)<|Qn ?_
        refine QzL ⟨_, _, _, _, _, rfl, rfl, rfl, (by first | exact add_full hnl hf0_0 hN hmod rfl hw0 rfl (fun _ _ => rfl) rfl rfl | exact add_more hf0_0 hN rfl hw0 (fun _ _ => rfl) rfl rfl), (add_shows hf0_1 (by omega) hq1)⟩ ⟨rfl, rfl, rfl, trivial⟩ ⟨rfl, rfl, trivial⟩ ?_
        omega
  · intro hc0
    have hw0 : (l.drop (q - ln)).length = 0 := by have := of_decide_eq_false hc0; omega
    obtain ⟨a1, a2, a3, a4⟩ := add_last hf0_0 hw0
    refine Qe<|Qs<|Qp<|(QD 0) ?_
    refine e_as (Eq.trans (show _ = .agg (cells 74 [pI .u32 8 hh, pI .u8 64 g, pV (.int .i64 ((nn : Nat) : Int)), pV (.int .i64 ((q : Nat) : Int))]) from rfl) (cH_congr a1 a2 a3 a4)) ?_
    refine e_storeA (i := 1) (Uz 65) rfl rfl (arrv_size _ _) (cells_one ⟨fun _ => rfl, fun _ => rfl, fun _ => rfl, fun _ => rfl, trivial⟩) rfl cells_sz (.inl rfl) ?_
    refine Qn<|Qr ?_
    exact ⟨_, rfl, .cell (i := 1) rfl rfl (Uu 65) rfl (Uz 65) (arrv_size _ _)⟩
set_option maxHeartbeats 2000000 in
theorem dended6_fn (h d : Nat → Nat) (n ln : Nat) (hd : L8 64 d) (hl : ln < 4294967296) : Fn Tryd.prog (DOR :: G) 26 #[.agg (cells 74 [pI .u32 8 h, pI .u8 64 d, pV (.int .i64 (n : Int)), pV (.int .i64 (ln : Int))])] (.agg (arr .u8 32 (hsumf (sqz h ((List.range 64).map d) ln true)))) := by
  obtain ⟨w, hw⟩ : ∃ w, w = (sqz h ((List.range 64).map d) ln true) := ⟨_, rfl⟩
  rw [← hw]
  refine Qf1 Tryd.func26 ?_
  refine Qs<|Qp<|(Qh 0) fun r1=>(QH 1) fun r2=>Qn<|Qs<|Qp<|(QD 0) ?_
  refine e_call rfl (Un 33) (dsqz_true h d n ln hd hl) rfl rfl ?_
  refine e_as (congrArg (fun f => Value.agg (arr .u32 8 f)) hw.symm) ?_
  refine (QH 2) fun r3=>(Qt 2)<|Qn<|Qs<|Qp<|(QH 3) fun r4=>Qn<|Qs<|Qs<|Qp<|(Qm)<|Qn<|Qb ?_
  refine QzK [(2, _), (3, _), (4, _)] [(0, _), (1, _), (2, _)] (fun kk E m => ∃ (i : Nat) (s : Nat → Nat), kk = 32 - i ∧ E = [(8, ii i)] ∧ m = [(3, some ⟨r4, arr .u8 32 s, 28⟩)] ∧ (i ≤ 32) ∧ (∀ t, t < i → s t = hsumf w t)) ⟨0, fun _ => 0, rfl, rfl, rfl, by omega, fun t ht => absurd ht (Nat.not_lt_zero t)⟩ ⟨rfl, rfl, rfl, rfl, trivial⟩ ⟨rfl, rfl, rfl, rfl, trivial⟩ ?_
  rintro kk E m ⟨i, s, rfl, rfl, rfl, hf0_0, hf0_1⟩
  simp only [catE, catL]
  refine Qs<|Qp<|(Ql)<|Qn<|Qs ?_
  refine e_cond rfl ?_ ?_
  · intro hc0
    have hc0 : i < 32 := by have := of_decide_eq_true hc0; omega
    refine Qk<|Qs<|Qb<|Qs<|Qp<|(Qm)<|(Qa)<|Qn<|Qp<|(Qm)<|(Qm)<|(Q5 4)<|(Qi)<|(Q1 2)<|(Qm)<|(Q4 4)<|(Q6 8) ?_
    refine e_shr_w rfl rfl rfl (by omega) ?_
    refine e_conv_u8 (Uu 62) (Uu 5) rfl rfl rfl ?_
    refine (Qi)<|(Qu 3)<|Qn<|Qp<|(Q2 1)<|(Qm)<|Qn ?_
    refine QzL ⟨i + 1, upd s i _, rfl, rfl, rfl, by omega, upd_lt hf0_1 (hsum_at w (by omega))⟩ ⟨rfl, rfl, rfl, rfl, trivial⟩ ⟨rfl, rfl, rfl, rfl, trivial⟩ ?_
    omega
  · intro hc0
    have hc0 := of_decide_eq_false hc0
    have hz0 : i = 32 := by omega
    subst hz0
    refine Qe<|Qs<|Qp<|(Qd 3)<|(Qt 1)<|Qn<|Qr ?_
    rw [← arr_congr (k := .u8) (n := 32) hf0_1]
    exact ⟨_, rfl, .cell (i := 1) rfl rfl (Uu 28) rfl (Uz 28) (arr_size _ _ _)⟩
end Go.Proofs.YthljakcegoohlaaDoor
namespace Go.Proofs.YthljakcegoohlaaDoor
open Go Go.RowKit
theorem dadded6_msg {G : Mem} (m : List Nat) (v : Value) (l : List Nat) (hm : ∀ b ∈ m, b < 256) (hv : Shows (DOR :: G) 1 v l.length (l.map by8)) (hlb : ∀ b ∈ l, b < 256) (hz : m.length + l.length ≤ 1073741824) :
    Fn Tryd.prog (DOR :: G) 27 #[stB m, v] (stB (m ++ l)) := by
  have h := dadded_fn (G := G) (hmsg m) (heldB m) (rem64 m).length m.length v l hv hlb (fun j _ => heldB_lt hm j) (ok_heldB m) hz
  rw [sS_heldB, base_of, hmsg_app, rem64_app, ← List.length_append] at h
  exact h
theorem dended6_msg {G : Mem} (m : List Nat) (hm : ∀ b ∈ m, b < 256) (hz : m.length ≤ 1073741824) : Fn Tryd.prog (DOR :: G) 26 #[stB m] (.agg (arr .u8 32 (bsum m))) := by
  have h := dended6_fn (G := G) (hmsg m) (heldB m) (rem64 m).length m.length (fun j _ => heldB_lt hm j) (by omega)
  rw [← bsum_small hz] at h
  exact h
theorem dBegin_msg {G : Mem} : Fn Tryd.prog G 28 #[] (stB []) := by
  rw [← stB_nil]; exact dbegin6_fn
variable {G : Mem}
set_option maxHeartbeats 400000 in
theorem dsum6_fn (v : Value) (l : List Nat) (hv : Shows (DOR :: G) 1 v l.length (l.map by8)) (hlb : ∀ b ∈ l, b < 256) (hz : l.length ≤ 1073741824) : Fn Tryd.prog (DOR :: G) 21 #[v] (.agg (arr .u8 32 (bsum l))) := by
  refine Qf1 Tryd.func21 ?_
  refine Qs<|Qp<|(QH 0) fun r1=>Qn<|Qs<|Qp ?_
  refine e_call rfl (Un 28) dBegin_msg rfl rfl ?_
  refine (Qm) ?_
  refine e_call rfl (Un 27) (dadded6_msg [] v l (by simp) hv hlb (by simpa using hz)) rfl rfl ?_
  refine e_as (show _ = stB l from rfl) ?_
  refine e_call rfl (Un 26) (dended6_msg l hlb hz) rfl rfl ?_
  refine (Qt 0)<|Qn<|Qr ?_
  exact ⟨_, rfl, .cell (i := 0) rfl rfl (Uu 28) rfl (Uz 28) (arr_size _ _ _)⟩
end Go.Proofs.YthljakcegoohlaaDoor
namespace Go.Proofs.YthljakcegoohlaaDoor
open Go Go.RowKit
variable {G : Mem}
set_option maxHeartbeats 2000000 in
theorem djoined_fn (v : Value) (vs : List Value) (ls : List (List Nat)) (hv : Shows G 1 v vs.length vs) (hL : ShowsL G vs ls) (hn : vs.length ≤ 1099511627776) (hm : ls.flatten.length ≤ 1099511627776) : Fx Tryd.prog G [] 17 #[v] (fun v l1 nw => l1 = [] ∧ ∃ v', v = v' ∧ OwnS 5 1 v' ls.flatten.length (ls.flatten.map by8) nw) := by
  have hvl := hL.1
  have hup := upto_le ls
  refine QfN Tryd.func17 ?_
  refine Qs<|Qp<|(Qa)<|Qn<|Qs<|Qp<|(Qa)<|Qn<|Qs<|Qs<|Qp<|(Qm)<|(QC hv)<|(Qm)<|Qn<|Qb ?_
  refine QzK [(2, _), (6, _), (7, _)] [] (fun kk E m => ∃ (j : Nat) (w : Value) (oz : Option Blk), kk = vs.length - j ∧ E = [(3, w), (8, ii j)] ∧ m = [(50, oz)] ∧ (j ≤ vs.length) ∧ (OwnS 5 1 w (upto ls j).length ((upto ls j).map by8) (Option.toList oz))) ⟨0, nilS, none, rfl, rfl, rfl, by omega, (own_nil _ _)⟩ ⟨rfl, rfl, rfl, rfl, rfl, trivial⟩ ⟨rfl, trivial⟩ ?_
  rintro kk E m ⟨j, w, oz, rfl, rfl, rfl, hf0_0, hf0_1⟩
  simp only [catE, catL]
  have hs3 := hup (j + 1)
  have hs4 : j < ls.length → (upto ls (j + 1)).length = (upto ls j).length + (ls.getD j []).length := fun h => by rw [upto_next h, List.length_append]
  refine Qs<|Qp<|(Ql)<|Qn<|Qs ?_
  refine e_cond rfl ?_ ?_
  · intro hc0
    have hc0 : j < vs.length := by have := of_decide_eq_true hc0; omega
    refine Qk<|Qs<|Qb<|Qs<|Qp ?_
    refine e_atV hv (Uu 61) (Uz 48) rfl rfl (by omega) rfl ?_
    refine (QS) ?_
    refine e_loadV hv seenG (Uu 48) rfl rfl (get_getD (by omega)) rfl ?_
    refine (Qa)<|Qn<|Qp<|(Qm)<|(Qm) ?_
    refine e_append 50 hf0_1 (hL.2 j (by omega)) rfl seenG (Uu 48) (Uz 5) (Uy 5) (Ub 5) (by rfl) rfl rfl by8_one (by have := hs4 (by omega); simp only [maxLen]; omega) (by have := hs4 (by omega); omega) rfl fun v2_1 oz2_1 ho2_1 => ?_
    refine (Qa)<|Qn<|Qp<|(Q2 1)<|(Qm)<|Qn ?_
    refine QzL ⟨j + 1, _, _, rfl, rfl, rfl, by omega, (own_fix ho2_1 (by rw [upto_next (by omega), List.length_append]) (by rw [upto_next (by omega), List.map_append]))⟩ ⟨rfl, rfl, rfl, rfl, rfl, trivial⟩ ⟨rfl, trivial⟩ ?_
    omega
  · intro hc0
    have hc0 := of_decide_eq_false hc0
    have hz0 : j = vs.length := by omega
    refine Qe<|Qs<|Qp<|(Qm)<|(Qa)<|Qn<|Qr ?_
    exact ⟨_, _, _, 50, rfl, .tmp rfl, (own_fix hf0_1 (by rw [hz0, hvl, upto_all]) (by rw [hz0, hvl, upto_all])), rfl⟩
set_option maxHeartbeats 2000000 in
theorem dturned_fn (p : List Nat) (x : Nat) (hp : p.length = 64) : Fx Tryd.prog G [] 22 #[.agg (arr .u8 64 (fun j => p.getD j 0)), by8 x] (fun v l1 nw => l1 = [] ∧ ∃ v', v = v' ∧ OwnS 57 1 v' 64 ((xorl p x).map by8) nw) := by
  refine QfN Tryd.func22 ?_
  refine Qs<|Qp<|(Qh 0) fun r1=>(Qa)<|Qn<|Qs<|Qs<|Qp<|(Qm)<|Qn<|Qb ?_
  refine QzK [(1, _), (2, _), (4, _)] [] (fun kk E m => ∃ (i : Nat) (s : Nat → Nat), kk = 64 - i ∧ E = [(6, ii i)] ∧ m = [(0, some ⟨r1, arr .u8 64 s, 57⟩)] ∧ (i ≤ 64) ∧ (∀ t, t < 64 → s t = if t < i then (p.getD t 0 ^^^ x) % 256 else p.getD t 0)) ⟨0, (fun j => p.getD j 0), rfl, rfl, rfl, by omega, tur_first (k := fun j => p.getD j 0)⟩ ⟨rfl, rfl, rfl, rfl, trivial⟩ ⟨rfl, trivial⟩ ?_
  rintro kk E m ⟨i, s, rfl, rfl, rfl, hf0_0, hf0_1⟩
  simp only [catE, catL]
  refine Qs<|Qp<|(Ql)<|Qn<|Qs ?_
  refine e_cond rfl ?_ ?_
  · intro hc0
    have hc0 : i < 64 := by have := of_decide_eq_true hc0; omega
    refine Qk<|Qs<|Qb<|Qs<|Qp<|(Qm)<|(Qa)<|Qn<|Qp<|(Qm)<|(Qi)<|(Q1 0)<|(Qm) ?_
    refine e_xor_b rfl rfl rfl  ?_
    refine (Qi)<|(Qu 0)<|Qn<|Qp<|(Q2 1)<|(Qm)<|Qn ?_
    refine QzL ⟨i + 1, upd s i _, rfl, rfl, rfl, by omega, (tur_next (k := fun j => p.getD j 0) hf0_1 (by omega) rfl)⟩ ⟨rfl, rfl, rfl, rfl, trivial⟩ ⟨rfl, trivial⟩ ?_
    omega
  · intro hc0
    have hc0 := of_decide_eq_false hc0
    have hz0 : i = 64 := by omega
    subst hz0
    refine Qe<|Qs<|Qp ?_
    refine e_sliceA 0 64 (Uu 57) (Uz 5) rfl rfl rfl rfl rfl (by omega) (by omega) (by omega) rfl ?_
    refine (Qa)<|Qn<|Qr ?_
    exact ⟨_, _, _, 0, rfl, .tmp rfl, (own_made ((xorl_len p x).trans hp) (by decide) (tur_last hp hf0_1)), rfl⟩
end Go.Proofs.YthljakcegoohlaaDoor
namespace Go.Proofs.YthljakcegoohlaaDoor
open Go Go.RowKit
variable {G : Mem}
set_option maxHeartbeats 2000000 in
theorem dfit_long (v : Value) (k : List Nat) (hv : Shows (DOR :: G) 1 v k.length (k.map by8)) (hb : ∀ b ∈ k, b < 256) (hz : k.length ≤ 1073741824) (hkl : 64 < k.length) : Fn Tryd.prog (DOR :: G) 20 #[v] (.agg (arr .u8 64 (fun j => (mpad k).getD j 0))) := by
  have hmk : mkey k = (bsl k) := if_pos hkl
  have hkle := mkey_le k
  rw [hmk] at hkle
  refine Qf1 Tryd.func20 ?_
  refine Qs<|Qp<|(QH 0) fun r1=>Qn<|Qs<|Qp<|(QH 1) fun r2=>Qn<|Qs<|Qs<|Qp<|(Qm)<|(QC hv)<|(QG)<|(Qat)<|Qn<|(Qct)<|Qs<|Qp<|(Qm) ?_
  refine e_call rfl (Un 21) (dsum6_fn v k hv hb hz) rfl rfl ?_
  refine (QH 2) fun r3=>(Qt 2)<|Qn<|Qp ?_
  refine e_sliceA 0 32 (Uu 28) (Uz 5) rfl rfl rfl rfl rfl (by omega) (by omega) (by omega) rfl ?_
  refine (Qa)<|Qn<|Qs<|Qp ?_
  refine e_sliceA 0 64 (Uu 57) (Uz 5) rfl rfl rfl rfl rfl (by omega) (by omega) (by omega) rfl ?_
  refine (Qm) ?_
  refine e_copyB (i := 1) (Uu 48) (Uz 5) (show Shows _ 1 _ (bsl k).length ((bsl k).map by8) from shows32 _ (bsum k) _) (seen1 2 rfl ⟨[], trivial⟩) rfl rfl rfl (by omega) rfl ?_
  refine Qn<|Qs<|Qp<|(Qd 1) ?_
  refine e_as (congrArg Value.agg (arr_congr (fit_at hmk hkle rfl))) ?_
  refine (Qt 0)<|Qn<|Qr ?_
  exact ⟨_, rfl, .cell (i := 0) rfl rfl (Uu 57) rfl (Uz 57) (arr_size _ _ _)⟩
set_option maxHeartbeats 2000000 in
theorem dfit_short (v : Value) (k : List Nat) (hv : Shows (DOR :: G) 1 v k.length (k.map by8)) (hkl : ¬ 64 < k.length) : Fn Tryd.prog (DOR :: G) 20 #[v] (.agg (arr .u8 64 (fun j => (mpad k).getD j 0))) := by
  have hmk : mkey k = k := if_neg hkl
  have hkle := mkey_le k
  rw [hmk] at hkle
  refine Qf1 Tryd.func20 ?_
  refine Qs<|Qp<|(QH 0) fun r1=>Qn<|Qs<|Qp<|(QH 1) fun r2=>Qn<|Qs<|Qs<|Qp<|(Qm)<|(QC hv)<|(QG)<|(Qaf)<|Qn<|(Qcf)<|Qk<|Qs<|Qp ?_
  refine e_sliceA 0 64 (Uu 57) (Uz 5) rfl rfl rfl rfl rfl (by omega) (by omega) (by omega) rfl ?_
  refine (Qm) ?_
  refine e_copyB (i := 1) (Uu 48) (Uz 5) hv seenG rfl rfl rfl (by omega) rfl ?_
  refine Qn<|Qs<|Qp<|(Qd 1) ?_
  refine e_as (congrArg Value.agg (arr_congr (fit_at hmk hkle rfl))) ?_
  refine (Qt 0)<|Qn<|Qr ?_
  exact ⟨_, rfl, .cell (i := 0) rfl rfl (Uu 57) rfl (Uz 57) (arr_size _ _ _)⟩
end Go.Proofs.YthljakcegoohlaaDoor
namespace Go.Proofs.YthljakcegoohlaaDoor
open Go Go.RowKit
theorem djoined2 {G : Mem} (r : Nat) (v1 v2 : Value) (a b : List Nat) (h1 : Shows G 1 v1 a.length (a.map by8)) (h2 : Shows G 1 v2 b.length (b.map by8)) (hr : (⟨r, [v1, v2].toArray, 48⟩ : Blk) ∈ G) (hm : a.length + b.length ≤ 1099511627776) :
    Fx Tryd.prog G [] 17 #[.slice (some ⟨r, 0, none⟩) 2 2] (fun v l1 nw => l1 = [] ∧ ∃ v', v = v' ∧ OwnS 5 1 v' (a ++ b).length ((a ++ b).map by8) nw) := by
  have h := djoined_fn (G := G) (.slice (some ⟨r, 0, none⟩) 2 2) [v1, v2] [a, b] ((shows_new (r := r) (len := 2) (z := 1) [v1, v2].toArray 48 rfl).mono (fun x hx => by simp at hx; subst hx; exact hr)) (showsL_cons h1 (showsL_cons h2 (showsL_nil _))) (Nat.le_of_ble_eq_true rfl) (by simp; omega)
  have e : [a, b].flatten = a ++ b := by simp
  rw [e] at h
  exact h
theorem dfit_fn {G : Mem} (v : Value) (k : List Nat) (hv : Shows (DOR :: G) 1 v k.length (k.map by8)) (hb : ∀ b ∈ k, b < 256) (hz : k.length ≤ 1073741824) : Fn Tryd.prog (DOR :: G) 20 #[v] (.agg (arr .u8 64 (fun j => (mpad k).getD j 0))) := by
  by_cases h : 64 < k.length
  · exact dfit_long v k hv hb hz h
  · exact dfit_short v k hv h
theorem dsum7 {G X : Mem} (v : Value) (l : List Nat) (hv : Shows X 1 v l.length (l.map by8)) (hlb : ∀ b ∈ l, b < 256) (hz : l.length ≤ 1073741824) : Fn Tryd.prog ((DOR :: G) ++ X) 21 #[v] (.agg (arr .u8 32 (bsum l))) :=
  dsum6_fn (G := G ++ X) v l (hv.mono fun _ h => List.mem_cons_of_mem _ (List.mem_append_right _ h)) hlb hz
theorem xap_lt {p s : List Nat} {c : Nat} (h : ∀ b ∈ s, b < 256) : ∀ b ∈ xorl p c ++ s, b < 256 := fun b hb => (List.mem_append.1 hb).elim (xorl_lt p c b) (h b)
variable {G : Mem}
set_option maxHeartbeats 4000000 in
theorem dmac7_fn (vk vs : Value) (k s : List Nat) (hvk : Shows (DOR :: G) 1 vk k.length (k.map by8)) (hvs : Shows (DOR :: G) 1 vs s.length (s.map by8)) (hk : ∀ b ∈ k, b < 256) (hb : ∀ b ∈ s, b < 256) (hkm : k.length ≤ 1073741824) (hs : s.length ≤ 1073741760) : Fn Tryd.prog (DOR :: G) 16 #[vk, vs] (.agg (arr .u8 32 (mac k s))) := by
  obtain ⟨P, hPe⟩ : ∃ P, P = mpad k := ⟨_, rfl⟩
  have hP : P.length = 64 := by rw [hPe]; exact mpad_len k
  have hFit := dfit_fn (G := G) vk k hvk hk hkm
  rw [← hPe] at hFit
  obtain ⟨g, hg⟩ : ∃ g, g = bsum (xorl P 54 ++ s) := ⟨_, rfl⟩
  have hgl : bsl (xorl P 54 ++ s) = (List.range 32).map g := by rw [hg]; rfl
  have hmc : bsum (xorl P 92 ++ (List.range 32).map g) = mac k s := by rw [← hgl, hPe]; rfl
  have hgb : ∀ b ∈ (List.range 32).map g, b < 256 := by rw [← hgl]; exact bsl_lt _
  have hg32 : ((List.range 32).map g).length = 32 := by simp
  have hx5 := xorl_len P 54
  have hx9 := xorl_len P 92
  refine Qf1 Tryd.func16 ?_
  refine Qs<|Qp<|(QH 0) fun r1=>Qn<|Qs<|Qp<|(Qm) ?_
  refine e_call rfl (Un 20) hFit rfl rfl ?_
  refine (QH 1) fun r2=>(Qt 1)<|Qn<|Qs<|QR ⟨[], 4, [], none⟩<|(Qd 1) ?_
  refine e_callN 2 (fun v => v) rfl rfl (Un 22) seenG (dturned_fn P 54 hP) (by decide) (by rw [List.length_map, xorl_len, hP]) rfl rfl fun v1_1 oz1_1 ho1_1 => ?_
  refine (Qm) ?_
  refine e_buildSl 3 [v1_1, vs].toArray (Uu 61 rfl) (Uz 48 rfl) (Ub 48 rfl) (by decide) (by decide) rfl (fill_ones [v1_1, vs] 0 _ (by intro v hv; simp only [List.mem_cons, List.not_mem_nil, or_false] at hv; rcases hv with rfl | rfl; exact (shows_one ho1_1.shows); exact (shows_one hvs)) (by simp)) rfl fun r4 => ?_
  refine e_callN 4 (fun v => v) rfl rfl (Un 17) (seen_app seenG (seen_app (seenM 2 rfl ⟨[], trivial⟩) (seen1 3 rfl ⟨[], trivial⟩))) (djoined2 (G := ((DOR :: G) ++ (oz1_1.toList ++ [(⟨r4, [v1_1, vs].toArray, 48⟩ : Blk)]))) r4 v1_1 vs (xorl P 54) s (Shows.mono (own_bytes ho1_1) (fun x h => (List.mem_append_right _ (List.mem_append_left _ h)))) (Shows.mono hvs (fun x h => (List.mem_append_left _ h))) (List.mem_append_right _ (List.mem_append_right _ (List.mem_singleton.2 rfl))) (by rw [xorl_len]; omega)) (by rw [List.length_append]; simp only [maxLen]; omega) (by rw [List.length_map, Nat.mul_one]) rfl rfl fun v1_2 oz1_2 ho1_2 => ?_
  refine e_callS rfl rfl (Un 21) (seen_app seenG (seenM 4 rfl ⟨[], trivial⟩)) (dsum7 (G := G) (X := oz1_2.toList) v1_2 (xorl P 54 ++ s) (own_bytes ho1_2) (xap_lt hb) (by rw [List.length_append, xorl_len]; omega)) rfl rfl ?_
  refine e_as (congrArg (fun f => Value.agg (arr .u8 32 f)) hg.symm) ?_
  refine (QH 5) fun r6=>(Qt 5)<|Qn<|Qs<|(Qq ⟨[], 4, [], none⟩)<|(Qd 1) ?_
  refine e_callN 6 (fun v => v) rfl rfl (Un 22) seenG (dturned_fn P 92 hP) (by decide) (by rw [List.length_map, xorl_len, hP]) rfl rfl fun v1_3 oz1_3 ho1_3 => ?_
  refine e_sliceA 0 32 (Uu 28) (Uz 5) rfl rfl rfl rfl rfl (by omega) (by omega) (by omega) rfl ?_
  refine e_buildSl 7 [v1_3, (.slice (some ⟨r6, 0, none⟩) 32 32)].toArray (Uu 61 rfl) (Uz 48 rfl) (Ub 48 rfl) (by decide) (by decide) rfl (fill_ones [v1_3, (.slice (some ⟨r6, 0, none⟩) 32 32)] 0 _ (by intro v hv; simp only [List.mem_cons, List.not_mem_nil, or_false] at hv; rcases hv with rfl | rfl; exact (shows_one ho1_3.shows); exact rfl) (by simp)) rfl fun r8 => ?_
  refine e_callN 8 (fun v => v) rfl rfl (Un 17) (seen_app seenG (seen_app (seenM 6 rfl ⟨[], trivial⟩) (seen_app (seen1 5 rfl ⟨[], trivial⟩) (seen1 7 rfl ⟨[], trivial⟩)))) (djoined2 (G := ((DOR :: G) ++ (oz1_3.toList ++ ([(⟨r6, arr .u8 32 g, 28⟩ : Blk)] ++ [(⟨r8, [v1_3, (.slice (some ⟨r6, 0, none⟩) 32 32)].toArray, 48⟩ : Blk)])))) r8 v1_3 (.slice (some ⟨r6, 0, none⟩) 32 32) (xorl P 92) ((List.range 32).map g) (Shows.mono (own_bytes ho1_3) (fun x h => (List.mem_append_right _ (List.mem_append_left _ h)))) (Shows.mono (shows32 r6 g 28) (fun x h => (List.mem_append_right _ (List.mem_append_right _ (List.mem_append_left _ h))))) (List.mem_append_right _ (List.mem_append_right _ (List.mem_append_right _ (List.mem_singleton.2 rfl)))) (by rw [xorl_len]; omega)) (by rw [List.length_append]; simp only [maxLen]; omega) (by rw [List.length_map, Nat.mul_one]) rfl rfl fun v1_4 oz1_4 ho1_4 => ?_
  refine e_callS rfl rfl (Un 21) (seen_app seenG (seenM 8 rfl ⟨[], trivial⟩)) (dsum7 (G := G) (X := oz1_4.toList) v1_4 (xorl P 92 ++ (List.range 32).map g) (own_bytes ho1_4) (xap_lt hgb) (by rw [List.length_append, xorl_len]; omega)) rfl rfl ?_
  refine e_as (congrArg (fun f => Value.agg (arr .u8 32 f)) hmc) ?_
  refine (Qt 0)<|Qn<|Qr ?_
  exact ⟨_, rfl, .cell (i := 0) rfl rfl (Uu 28) rfl (Uz 28) (arr_size _ _ _)⟩
end Go.Proofs.YthljakcegoohlaaDoor
namespace Go.Proofs.YthljakcegoohlaaDoor
open Go Go.RowKit
theorem dmac7_at {G X : Mem} (vk vs : Value) (k s : List Nat) (hvk : Shows ((DOR :: G) ++ X) 1 vk k.length (k.map by8)) (hvs : Shows ((DOR :: G) ++ X) 1 vs s.length (s.map by8)) (hk : ∀ b ∈ k, b < 256) (hb : ∀ b ∈ s, b < 256) (hkm : k.length ≤ 1073741824) (hs : s.length ≤ 1073741760) : Fn Tryd.prog ((DOR :: G) ++ X) 16 #[vk, vs] (.agg (arr .u8 32 (mac k s))) :=
  dmac7_fn (G := G ++ X) vk vs k s hvk hvs hk hb hkm hs
theorem shows_b1 (r x : Nat) (t : TypeId) : Shows [⟨r, #[by8 x], t⟩] 1 (.slice (some ⟨r, 0, none⟩) 1 1) [x].length ([x].map by8) := shows_new (r := r) (len := 1) (z := 1) #[by8 x] t rfl
theorem fill_two (a b : Nat → Nat) : Instr.fill (fun i => some (i * 32, 32)) (arr .u8 64 fun _ => 0) [(0, .agg (arr .u8 32 a)), (1, .agg (arr .u8 32 b))] = some (arr .u8 64 (two2 a b)) := by kernel_rfl
theorem thr3_at0 (a b c : Nat → Nat) : ∀ j, j < 32 → thr3 a b c (0 + j) = a j := fun j hj => by rw [Nat.zero_add, thr3, if_pos hj]
theorem thr3_at1 (a b c : Nat → Nat) : ∀ j, j < 32 → thr3 a b c (32 + j) = b j := fun j hj => by rw [thr3, if_neg (by omega), if_pos (by omega), Nat.add_sub_cancel_left]
variable {G : Mem}
set_option maxHeartbeats 4000000 in
theorem dthree_fn (c : Nat → Nat) (v : Value) (s : List Nat) (hc : L8 32 c) (hv : Shows (DOR :: G) 1 v s.length (s.map by8)) (hb : ∀ b ∈ s, b < 256) (hs : s.length ≤ 1073741760) : Fn Tryd.prog (DOR :: G) 13 #[.agg (arr .u8 32 c), v] (.agg (arr .u8 96 (thr3 (kA c s) (kB c s) (kC c s)))) := by
  obtain ⟨f, hf⟩ : ∃ f, f = mac ((List.range 32).map c) s := ⟨_, rfl⟩
  have hT : kT c s = ((List.range 32).map f) := by rw [hf]; rfl
  have hfb : ∀ b ∈ ((List.range 32).map f), b < 256 := by rw [← hT]; exact kT_lt c s
  obtain ⟨fA, hA⟩ : ∃ x, x = kA c s := ⟨_, rfl⟩
  obtain ⟨fB, hB⟩ : ∃ x, x = kB c s := ⟨_, rfl⟩
  obtain ⟨fC, hC⟩ : ∃ x, x = kC c s := ⟨_, rfl⟩
  have eA : mac ((List.range 32).map f) [1] = fA := by rw [hA, kA, hT]
  have eB : mac ((List.range 32).map f) (((List.range 32).map fA) ++ [2]) = fB := by rw [hB, kB, hT, hA]
  have eC : mac ((List.range 32).map f) (((List.range 32).map fB) ++ [3]) = fC := by rw [hC, kC, hT, hB]
  have hfAb : ∀ b ∈ ((List.range 32).map fA), b < 256 := by rw [hA]; exact range_lt fun _ _ => mac_lt _ _ _
  have hfBb : ∀ b ∈ ((List.range 32).map fB), b < 256 := by rw [hB]; exact range_lt fun _ _ => mac_lt _ _ _
  rw [← hA, ← hB, ← hC]
  refine Qf1 Tryd.func13 ?_
  refine Qs<|Qp<|(Qh 0) fun r1=>(QH 1) fun r2=>Qn<|Qs<|Qp ?_
  refine e_sliceA 0 32 (Uu 28) (Uz 5) rfl rfl rfl rfl rfl (by omega) (by omega) (by omega) rfl ?_
  refine (Qm) ?_
  refine e_callS rfl rfl (Un 16) (seen_app seenG (seen1 0 rfl ⟨[], trivial⟩)) (dmac7_at (G := G) (X := [(⟨r1, arr .u8 32 c, 28⟩ : Blk)]) (.slice (some ⟨r1, 0, none⟩) 32 32) v ((List.range 32).map c) s (Shows.mono (shows32 r1 c 28) (fun x h => List.mem_append_right _ h)) (Shows.mono hv (fun x h => List.mem_append_left _ h)) (range_lt hc) hb (by simp) hs) rfl rfl ?_
  refine e_as (congrArg (fun f => Value.agg (arr .u8 32 f)) hf.symm) ?_
  refine (QH 2) fun r3=>(Qt 2)<|Qn<|Qs<|Qp ?_
  refine e_sliceA 0 32 (Uu 28) (Uz 5) rfl rfl rfl rfl rfl (by omega) (by omega) (by omega) rfl ?_
  refine e_buildSl 3 #[by8 1] (Uu 48 rfl) (Uz 5 rfl) (Ub 5 rfl) (by decide) (by decide) rfl (by kernel_rfl) rfl fun r4 => ?_
  refine e_callS rfl rfl (Un 16) (seen_app seenG (seen_app (seen1 2 rfl ⟨[], trivial⟩) (seen1 3 rfl ⟨[], trivial⟩))) (dmac7_at (G := G) (X := ([(⟨r3, arr .u8 32 f, 28⟩ : Blk)] ++ [(⟨r4, #[by8 1], 5⟩ : Blk)])) (.slice (some ⟨r3, 0, none⟩) 32 32) (.slice (some ⟨r4, 0, none⟩) 1 1) ((List.range 32).map f) [1] (Shows.mono (shows32 r3 f 28) (fun x h => List.mem_append_right _ (List.mem_append_left _ h))) (Shows.mono (shows_b1 r4 1 5) (fun x h => List.mem_append_right _ (List.mem_append_right _ h))) hfb (by decide) (by simp) (by decide)) rfl rfl ?_
  refine e_as (congrArg (fun f => Value.agg (arr .u8 32 f)) eA) ?_
  refine (QH 4) fun r5=>(Qt 4)<|Qn<|Qs<|(Qq ⟨[], 4, [], none⟩) ?_
  refine e_sliceA 0 32 (Uu 28) (Uz 5) rfl rfl rfl rfl rfl (by omega) (by omega) (by omega) rfl ?_
  refine e_sliceA 0 32 (Uu 28) (Uz 5) rfl rfl rfl rfl rfl (by omega) (by omega) (by omega) rfl ?_
  refine e_buildSl 5 #[by8 2] (Uu 48 rfl) (Uz 5 rfl) (Ub 5 rfl) (by decide) (by decide) rfl (by kernel_rfl) rfl fun r6 => ?_
  refine e_buildSl 6 [(.slice (some ⟨r5, 0, none⟩) 32 32), (.slice (some ⟨r6, 0, none⟩) 1 1)].toArray (Uu 61 rfl) (Uz 48 rfl) (Ub 48 rfl) (by decide) (by decide) rfl (fill_ones [(.slice (some ⟨r5, 0, none⟩) 32 32), (.slice (some ⟨r6, 0, none⟩) 1 1)] 0 _ (by intro v hv; simp only [List.mem_cons, List.not_mem_nil, or_false] at hv; rcases hv with rfl | rfl; exact rfl; exact rfl) (by simp)) rfl fun r7 => ?_
  refine e_callN 7 (fun v => v) rfl rfl (Un 17) (seen_app seenG (seen_app (seen1 4 rfl ⟨[], trivial⟩) (seen_app (seen1 5 rfl ⟨[], trivial⟩) (seen1 6 rfl ⟨[], trivial⟩)))) (djoined2 (G := ((DOR :: G) ++ ([(⟨r5, arr .u8 32 fA, 28⟩ : Blk)] ++ ([(⟨r6, #[by8 2], 5⟩ : Blk)] ++ [(⟨r7, [(.slice (some ⟨r5, 0, none⟩) 32 32), (.slice (some ⟨r6, 0, none⟩) 1 1)].toArray, 48⟩ : Blk)])))) r7 (.slice (some ⟨r5, 0, none⟩) 32 32) (.slice (some ⟨r6, 0, none⟩) 1 1) ((List.range 32).map fA) [2] (Shows.mono (shows32 r5 fA 28) (fun x h => (List.mem_append_right _ (List.mem_append_left _ h)))) (Shows.mono (shows_b1 r6 2 5) (fun x h => (List.mem_append_right _ (List.mem_append_right _ (List.mem_append_left _ h))))) (List.mem_append_right _ (List.mem_append_right _ (List.mem_append_right _ (List.mem_singleton.2 rfl)))) (by simp)) (by simp [maxLen]) (by rw [List.length_map, Nat.mul_one]) rfl rfl fun v1_1 oz1_1 ho1_1 => ?_
  refine e_callS rfl rfl (Un 16) (seen_app seenG (seen_app (seen1 2 rfl ⟨[], trivial⟩) (seenM 7 rfl ⟨[], trivial⟩))) (dmac7_at (G := G) (X := ([(⟨r3, arr .u8 32 f, 28⟩ : Blk)] ++ oz1_1.toList)) (.slice (some ⟨r3, 0, none⟩) 32 32) v1_1 ((List.range 32).map f) (((List.range 32).map fA) ++ [2]) (Shows.mono (shows32 r3 f 28) (fun x h => List.mem_append_right _ (List.mem_append_left _ h))) (Shows.mono (own_bytes ho1_1) (fun x h => List.mem_append_right _ (List.mem_append_right _ h))) hfb (app_lt hfAb (by decide)) (by simp) (by simp)) rfl rfl ?_
  refine e_as (congrArg (fun f => Value.agg (arr .u8 32 f)) eB) ?_
  refine (QH 8) fun r9=>(Qt 8)<|Qn<|Qs<|(Qq ⟨[], 4, [], none⟩) ?_
  refine e_sliceA 0 32 (Uu 28) (Uz 5) rfl rfl rfl rfl rfl (by omega) (by omega) (by omega) rfl ?_
  refine e_sliceA 0 32 (Uu 28) (Uz 5) rfl rfl rfl rfl rfl (by omega) (by omega) (by omega) rfl ?_
  refine e_buildSl 9 #[by8 3] (Uu 48 rfl) (Uz 5 rfl) (Ub 5 rfl) (by decide) (by decide) rfl (by kernel_rfl) rfl fun r10 => ?_
  refine e_buildSl 10 [(.slice (some ⟨r9, 0, none⟩) 32 32), (.slice (some ⟨r10, 0, none⟩) 1 1)].toArray (Uu 61 rfl) (Uz 48 rfl) (Ub 48 rfl) (by decide) (by decide) rfl (fill_ones [(.slice (some ⟨r9, 0, none⟩) 32 32), (.slice (some ⟨r10, 0, none⟩) 1 1)] 0 _ (by intro v hv; simp only [List.mem_cons, List.not_mem_nil, or_false] at hv; rcases hv with rfl | rfl; exact rfl; exact rfl) (by simp)) rfl fun r11 => ?_
  refine e_callN 11 (fun v => v) rfl rfl (Un 17) (seen_app seenG (seen_app (seen1 8 rfl ⟨[], trivial⟩) (seen_app (seen1 9 rfl ⟨[], trivial⟩) (seen1 10 rfl ⟨[], trivial⟩)))) (djoined2 (G := ((DOR :: G) ++ ([(⟨r9, arr .u8 32 fB, 28⟩ : Blk)] ++ ([(⟨r10, #[by8 3], 5⟩ : Blk)] ++ [(⟨r11, [(.slice (some ⟨r9, 0, none⟩) 32 32), (.slice (some ⟨r10, 0, none⟩) 1 1)].toArray, 48⟩ : Blk)])))) r11 (.slice (some ⟨r9, 0, none⟩) 32 32) (.slice (some ⟨r10, 0, none⟩) 1 1) ((List.range 32).map fB) [3] (Shows.mono (shows32 r9 fB 28) (fun x h => (List.mem_append_right _ (List.mem_append_left _ h)))) (Shows.mono (shows_b1 r10 3 5) (fun x h => (List.mem_append_right _ (List.mem_append_right _ (List.mem_append_left _ h))))) (List.mem_append_right _ (List.mem_append_right _ (List.mem_append_right _ (List.mem_singleton.2 rfl)))) (by simp)) (by simp [maxLen]) (by rw [List.length_map, Nat.mul_one]) rfl rfl fun v1_2 oz1_2 ho1_2 => ?_
  refine e_callS rfl rfl (Un 16) (seen_app seenG (seen_app (seen1 2 rfl ⟨[], trivial⟩) (seenM 11 rfl ⟨[], trivial⟩))) (dmac7_at (G := G) (X := ([(⟨r3, arr .u8 32 f, 28⟩ : Blk)] ++ oz1_2.toList)) (.slice (some ⟨r3, 0, none⟩) 32 32) v1_2 ((List.range 32).map f) (((List.range 32).map fB) ++ [3]) (Shows.mono (shows32 r3 f 28) (fun x h => List.mem_append_right _ (List.mem_append_left _ h))) (Shows.mono (own_bytes ho1_2) (fun x h => List.mem_append_right _ (List.mem_append_right _ h))) hfb (app_lt hfBb (by decide)) (by simp) (by simp)) rfl rfl ?_
  refine e_as (congrArg (fun f => Value.agg (arr .u8 32 f)) eC) ?_
  refine (QH 12) fun r13=>(Qt 12)<|Qn<|Qs<|Qp<|(Qd 4)<|(Qd 8)<|(Qd 12) ?_
  refine e_buildZ (arr .u8 96 (thr3 fA fB fC)) (Ub 46 rfl) (Uu 46 rfl) (Uz 28 rfl) rfl (fill_three fA fB fC) rfl ?_
  refine (Qt 1)<|Qn<|Qr ?_
  exact ⟨_, rfl, .cell (i := 1) rfl rfl (Uu 46) rfl (Uz 46) (arr_size _ _ _)⟩
set_option maxHeartbeats 4000000 in
theorem dtwo_fn (c : Nat → Nat) (v : Value) (s : List Nat) (hc : L8 32 c) (hv : Shows (DOR :: G) 1 v s.length (s.map by8)) (hb : ∀ b ∈ s, b < 256) (hs : s.length ≤ 1073741760) : Fn Tryd.prog (DOR :: G) 10 #[.agg (arr .u8 32 c), v] (.agg (arr .u8 64 (two2 (kA c s) (kB c s)))) := by
  have h3 := dthree_fn (G := G) c v s hc hv hb hs
  obtain ⟨fA, hA⟩ : ∃ x, x = kA c s := ⟨_, rfl⟩
  obtain ⟨fB, hB⟩ : ∃ x, x = kB c s := ⟨_, rfl⟩
  obtain ⟨fC, hC⟩ : ∃ x, x = kC c s := ⟨_, rfl⟩
  rw [← hA, ← hB, ← hC] at h3
  rw [← hA, ← hB]
  refine Qf1 Tryd.func10 ?_
  refine Qs<|Qp<|(Qh 0) fun r1=>(QH 1) fun r2=>Qn<|Qs<|Qp<|(Qd 0)<|(Qm) ?_
  refine e_call rfl (Un 13) h3 rfl rfl ?_
  refine (QH 2) fun r3=>(Qt 2)<|Qn<|Qs<|Qp<|(QA 0 0) ?_
  refine e_loadS (i := 2) (Uu 28) rfl (Uz 28) rfl rfl (by omega) rfl ⟨[], trivial⟩ ?_
  refine e_as (congrArg Value.agg (arr_congr (thr3_at0 fA fB fC))) ?_
  refine (QA 32 1) ?_
  refine e_loadS (i := 2) (Uu 28) rfl (Uz 28) rfl rfl (by omega) rfl ⟨[], trivial⟩ ?_
  refine e_as (congrArg Value.agg (arr_congr (thr3_at1 fA fB fC))) ?_
  refine e_buildZ (arr .u8 64 (two2 fA fB)) (Ub 43 rfl) (Uu 43 rfl) (Uz 28 rfl) rfl (fill_two fA fB) rfl ?_
  refine (Qt 1)<|Qn<|Qr ?_
  exact ⟨_, rfl, .cell (i := 1) rfl rfl (Uu 43) rfl (Uz 43) (arr_size _ _ _)⟩
end Go.Proofs.YthljakcegoohlaaDoor
namespace Go.Proofs.YthljakcegoohlaaDoor
open Go Go.RowKit
theorem two_at0 (a b : Nat → Nat) : ∀ j, j < 32 → two2 a b (0 + j) = a j := fun j hj => by rw [Nat.zero_add, two2, if_pos hj]
theorem two_at1 (a b : Nat → Nat) : ∀ j, j < 32 → two2 a b (32 + j) = b j := fun j hj => by rw [two2, if_neg (by omega), Nat.add_sub_cancel_left]
variable {G : Mem}
end Go.Proofs.YthljakcegoohlaaDoor
namespace Go.Proofs.YthljakcegoohlaaDoor
open Go Go.RowKit
variable {G : Mem}
set_option maxHeartbeats 2000000 in
theorem dsplit9_fn (has : Bool) (k : Nat → Nat) (n : Nat) (ch h : Nat → Nat) (hc : L8 32 ch) : Fn Tryd.prog (DOR :: G) 8 #[SV has k n ch h] (.agg (cells 68 [pV (.bool true), pI .u8 32 (kA ch []), pV (u 0), pV (.bool true), pI .u8 32 (kB ch []), pV (u 0)])) := by
  have hT := dtwo_fn (G := G) ch nilS [] hc (shows_nil _ 1) (by simp) (by decide)
  obtain ⟨fa, hfa⟩ : ∃ fa, fa = kA ch [] := ⟨_, rfl⟩
  obtain ⟨fb, hfb⟩ : ∃ fb, fb = kB ch [] := ⟨_, rfl⟩
  rw [← hfa, ← hfb] at hT ⊢
  refine Qf1 Tryd.func8 ?_
  refine Qs<|Qp<|(Qh 0) fun r1=>(QH 1) fun r2=>Qn<|Qs<|Qp<|(Qf 34)<|(Qv 3 0) ?_
  refine e_call rfl (Un 10) hT rfl rfl ?_
  refine (QH 2) fun r3=>(Qt 2)<|Qn<|Qs<|(Qg)<|(QA 0 0) ?_
  refine e_loadS (i := 2) (Uu 28) rfl (Uz 28) rfl rfl (by omega) rfl ⟨[], trivial⟩ ?_
  refine e_as (congrArg Value.agg (arr_congr (two_at0 fa fb))) ?_
  refine e_call rfl (Un 11) (dbeg8_fn fa) rfl rfl ?_
  refine (QA 32 1) ?_
  refine e_loadS (i := 2) (Uu 28) rfl (Uz 28) rfl rfl (by omega) rfl ⟨[], trivial⟩ ?_
  refine e_as (congrArg Value.agg (arr_congr (two_at1 fa fb))) ?_
  refine e_call rfl (Un 11) (dbeg8_fn fb) rfl rfl ?_
  refine e_buildZ (cells 68 [pV (.bool true), pI .u8 32 fa, pV (u 0), pV (.bool true), pI .u8 32 fb, pV (u 0)]) (Ub 38 rfl) (Uu 38 rfl) (Uz 31 rfl) rfl (by kernel_rfl) rfl ?_
  refine e_storeA (i := 1) (Uz 38) rfl rfl (arrv_size _ _) (cells_one ⟨fun _ => rfl, fun _ => rfl, fun _ => rfl, fun _ => rfl, fun _ => rfl, fun _ => rfl, trivial⟩) rfl cells_sz (.inl rfl) ?_
  refine Qn<|Qr ?_
  exact ⟨_, rfl, .cell (i := 1) rfl rfl (Uu 38) rfl (Uz 38) (arrv_size _ _)⟩
end Go.Proofs.YthljakcegoohlaaDoor
namespace Go.Proofs.YthljakcegoohlaaDoor
open Go Go.RowKit
variable {G : Mem}
set_option maxHeartbeats 2000000 in
theorem split_no (b : List Nat) (l : Bool) (vp v0 v1 vt : Value) (fi : Bool) (tn : Int) (dd : Bool) (y : SY) (r : RS) (ow : Nat → Nat) (vk : Value) (us : Int) (tvs : List Value) (hvt : Shows G 1 vt tvs.length tvs) (hd : (doneP dd tvs.length tn) = false) : Fn Tryd.prog G 5 #[.agg (shC b l vp v0 v1 vt fi tn dd y ow r vk us)] (.tuple #[.agg (cells 68 [pV (.bool false), pI .u8 32 (fun _ => 0), pV (.int .u64 0), pV (.bool false), pI .u8 32 (fun _ => 0), pV (.int .u64 0)]), ii 9]) := by
  refine Qf2 Tryd.func5 ?_
  refine Qs<|Qp<|(Qh 0) fun r1=>(QH 1) fun r2=>(Qa)<|Qn<|Qs<|Qs<|Qp<|(QD 0) ?_
  refine e_call rfl (Un 4) (done_fn b l vp v0 v1 vt fi tn dd y r ow vk us tvs hvt) rfl rfl ?_
  refine e_as (congrArg Value.bool hd) ?_
  refine (Q0)<|Qn<|(Qct)<|Qs<|Qp ?_
  refine e_build0 (Ub 38 rfl) (Uu 38 rfl) sis31 rfl ?_
  refine e_storeA (i := 1) (Uz 38) rfl rfl (arrv_size _ _) (cells_one ⟨fun _ => rfl, fun _ => rfl, fun _ => rfl, fun _ => rfl, fun _ => rfl, fun _ => rfl, trivial⟩) rfl cells_sz (.inl rfl) ?_
  refine (Qa)<|Qn<|Qr ?_
  exact ⟨_, _, rfl, .cell (i := 1) rfl rfl (Uu 38) rfl (Uz 38) (arrv_size _ _), .tmp rfl⟩
set_option maxHeartbeats 4000000 in
theorem split11_ok (hO : DOR ∈ G) (b : List Nat) (l : Bool) (vp v0 v1 vt : Value) (fi : Bool) (tn : Int) (dd : Bool) (y : SY) (r : RS) (ow : Nat → Nat) (vk : Value) (us : Int) (tvs : List Value) (hvt : Shows G 1 vt tvs.length tvs) (hy : okY y) (hd : (doneP dd tvs.length tn) = true) : Fn Tryd.prog G 5 #[.agg (shC b l vp v0 v1 vt fi tn dd y ow r vk us)] (.tuple #[.agg (cells 68 [pV (.bool true), pI .u8 32 (kA y.2.2.2.1 []), pV (u 0), pV (.bool true), pI .u8 32 (kB y.2.2.2.1 []), pV (u 0)]), ii 0]) := by
  have hS := (dsplit9_fn (G := G) y.1 y.2.1 y.2.2.1 y.2.2.2.1 y.2.2.2.2 hy.2.2.1).more (in1 hO)
  obtain ⟨fa, hfa⟩ : ∃ f, f = kA y.2.2.2.1 [] := ⟨_, rfl⟩
  obtain ⟨fb, hfb⟩ : ∃ f, f = kB y.2.2.2.1 [] := ⟨_, rfl⟩
  rw [← hfa, ← hfb] at hS ⊢
  refine Qf2 Tryd.func5 ?_
  refine Qs<|Qp<|(Qh 0) fun r1=>(QH 1) fun r2=>(Qa)<|Qn<|Qs<|Qs<|Qp<|(QD 0) ?_
  refine e_call rfl (Un 4) (done_fn b l vp v0 v1 vt fi tn dd y r ow vk us tvs hvt) rfl rfl ?_
  refine e_as (congrArg Value.bool hd) ?_
  refine (Q0)<|Qn<|(Qcf)<|Qk<|Qs<|Qp<|(Qf 9) ?_
  refine e_ldK (i := 0) 9 5 (Uu 33 rfl) rfl (Uz 33 rfl) rfl rfl rfl rfl (by decide) rfl ⟨[], trivial⟩ ?_
  refine e_as (show _ = SVy y from rfl) ?_
  refine e_call rfl (Un 8) hS rfl rfl ?_
  refine e_storeA (i := 1) (Uz 38) rfl rfl (arrv_size _ _) (cells_one ⟨fun _ => rfl, fun _ => rfl, fun _ => rfl, fun _ => rfl, fun _ => rfl, fun _ => rfl, trivial⟩) rfl cells_sz (.inl rfl) ?_
  refine (Qa)<|Qn<|Qr ?_
  exact ⟨_, _, rfl, .cell (i := 1) rfl rfl (Uu 38) rfl (Uz 38) (arrv_size _ _), .tmp rfl⟩
end Go.Proofs.YthljakcegoohlaaDoor
namespace Go.Proofs.YthljakcegoohlaaDoor
open Go Go.RowKit
variable {G : Mem}
set_option maxHeartbeats 4000000 in
theorem shakeSplits_ok (hI : IVB ∈ G) (hO : DOR ∈ G) (b : List Nat) (l : Bool) (vp v0 v1 vt : Value) (fi : Bool) (tn : Int) (dd : Bool) (y : SY) (r : RS) (ow : Nat → Nat) (vk : Value) (us : Int) (tvs : List Value) (hvt : Shows G 1 vt tvs.length tvs) (hy : okY y) (hd : (doneP dd tvs.length tn) = true) : Fn Tryd.prog G 3 #[.agg (shC b l vp v0 v1 vt fi tn dd y ow r vk us)] (.bool true) := by
  obtain ⟨fa, hfa⟩ : ∃ f, f = kA y.2.2.2.1 [] := ⟨_, rfl⟩
  obtain ⟨fb, hfb⟩ : ∃ f, f = kB y.2.2.2.1 [] := ⟨_, rfl⟩
  have hA := split11_ok hO b l vp v0 v1 vt fi tn dd y r ow vk us tvs hvt hy hd
  have hB := rsplit_ok hI b l vp v0 v1 vt fi tn dd y r ow vk us tvs hvt hy hd
  rw [← hfa, ← hfb] at hA hB
  refine Qf1 Tryd.func3 ?_
  refine Qs<|Qp<|(Qh 0) fun r1=>(Qa)<|Qn<|Qs<|Qp<|(QD 0) ?_
  refine e_call rfl (Un 4) (done_fn b l vp v0 v1 vt fi tn dd y r ow vk us tvs hvt) rfl rfl ?_
  refine (Qa)<|Qn<|Qs<|Qp<|(QD 0) ?_
  refine e_call rfl (Un 5) hA rfl rfl ?_
  refine (Qm)<|(Qx)<|(Qx)<|(QH 1) fun r2=>?_
  refine e_storeA (i := 1) (Uz 38) rfl rfl (arrv_size _ _) (cells_one ⟨fun _ => rfl, fun _ => rfl, fun _ => rfl, fun _ => rfl, fun _ => rfl, fun _ => rfl, trivial⟩) rfl cells_sz (.inl rfl) ?_
  refine (Qa)<|Qn<|Qs<|Qp<|(QD 0) ?_
  refine e_call rfl (Un 6) (rdone_fn b l vp v0 v1 vt fi tn dd y r ow vk us tvs hvt) rfl rfl ?_
  refine (Qa)<|Qn<|Qs<|Qp<|(QD 0) ?_
  refine e_call rfl (Un 7) hB rfl rfl ?_
  refine (Qm)<|(Qx)<|(Qx)<|(QH 2) fun r3=>?_
  refine e_storeA (i := 2) (Uz 38) rfl rfl (arrv_size _ _) (cells_one ⟨fun _ => rfl, fun _ => rfl, fun _ => rfl, fun _ => rfl, fun _ => rfl, fun _ => rfl, trivial⟩) rfl cells_sz (.inl rfl) ?_
  refine (Qa)<|Qn<|Qs<|Qp<|(Qm)<|(Qm) ?_
  refine e_eqB (Uu 4) rfl rfl rfl ?_
  refine e_as (congrArg Value.bool (beq_self_eq_true _)) ?_
  refine (Qm)<|(Qy)<|(QD 1)<|(Qy)<|(QD 2)<|(Qy) ?_
  refine e_eqSame sam38 eqg38 rfl rfl rfl ?_
  refine (QT)<|(Qm)<|(Qy)<|(Qm)<|(Qy)<|(Qm)<|(Qy)<|(Qc)<|(Qar)<|(QT)<|(Qa)<|Qn<|Qr ?_
  exact ⟨_, rfl, .tmp rfl⟩
set_option maxHeartbeats 4000000 in
theorem shakeSplits_no (b : List Nat) (l : Bool) (vp v0 v1 vt : Value) (fi : Bool) (tn : Int) (dd : Bool) (y : SY) (r : RS) (ow : Nat → Nat) (vk : Value) (us : Int) (tvs : List Value) (hvt : Shows G 1 vt tvs.length tvs) (hd : (doneP dd tvs.length tn) = false) : Fn Tryd.prog G 3 #[.agg (shC b l vp v0 v1 vt fi tn dd y ow r vk us)] (.bool true) := by
  refine Qf1 Tryd.func3 ?_
  refine Qs<|Qp<|(Qh 0) fun r1=>(Qa)<|Qn<|Qs<|Qp<|(QD 0) ?_
  refine e_call rfl (Un 4) (done_fn b l vp v0 v1 vt fi tn dd y r ow vk us tvs hvt) rfl rfl ?_
  refine (Qa)<|Qn<|Qs<|Qp<|(QD 0) ?_
  refine e_call rfl (Un 5) (split_no b l vp v0 v1 vt fi tn dd y r ow vk us tvs hvt hd) rfl rfl ?_
  refine (Qm)<|(Qx)<|(Qx)<|(QH 1) fun r2=>?_
  refine e_storeA (i := 1) (Uz 38) rfl rfl (arrv_size _ _) (cells_one ⟨fun _ => rfl, fun _ => rfl, fun _ => rfl, fun _ => rfl, fun _ => rfl, fun _ => rfl, trivial⟩) rfl cells_sz (.inl rfl) ?_
  refine (Qa)<|Qn<|Qs<|Qp<|(QD 0) ?_
  refine e_call rfl (Un 6) (rdone_fn b l vp v0 v1 vt fi tn dd y r ow vk us tvs hvt) rfl rfl ?_
  refine (Qa)<|Qn<|Qs<|Qp<|(QD 0) ?_
  refine e_call rfl (Un 7) (rsplit_no b l vp v0 v1 vt fi tn dd y r ow vk us tvs hvt hd) rfl rfl ?_
  refine (Qm)<|(Qx)<|(Qx)<|(QH 2) fun r3=>?_
  refine e_storeA (i := 2) (Uz 38) rfl rfl (arrv_size _ _) (cells_one ⟨fun _ => rfl, fun _ => rfl, fun _ => rfl, fun _ => rfl, fun _ => rfl, fun _ => rfl, trivial⟩) rfl cells_sz (.inl rfl) ?_
  refine (Qa)<|Qn<|Qs<|Qp<|(Qm)<|(Qm) ?_
  refine e_eqB (Uu 4) rfl rfl rfl ?_
  refine e_as (congrArg Value.bool (beq_self_eq_true _)) ?_
  refine (Qm)<|(Qy)<|(QD 1)<|(Qy)<|(QD 2)<|(Qy) ?_
  refine e_eqSame sam38 eqg38 rfl rfl rfl ?_
  refine (QT)<|(Qm)<|(Qy)<|(Qm)<|(Qy)<|(Qm)<|(Qy)<|(Qc)<|(Qar)<|(QT)<|(Qa)<|Qn<|Qr ?_
  exact ⟨_, rfl, .tmp rfl⟩
end Go.Proofs.YthljakcegoohlaaDoor
namespace Go.Proofs.YthljakcegoohlaaDoor
open Go.ChangeShapes Go.WideShapes Go.ChangeAt Go.RowKit
theorem laid_signet_blake_orders_rin {W : World} (h : VarT Tryd.prog W "signet/blake.orders" Rows.laid_signet_blake_orders) : RIn W (⟨1, arr .i64 160 sgf, 91⟩ : Blk) :=
  rin_tab (by kernel_rfl) (by kernel_rfl) (by decide) h fun cs hc r hr => by
    have h1 := rd_rows (M := 10) (N := 16) (rs := [[0, 1, 2, 3, 4, 5, 6, 7, 8, 9, 10, 11, 12, 13, 14, 15], [14, 10, 4, 8, 9, 15, 13, 6, 1, 12, 0, 2, 11, 7, 5, 3], [11, 8, 12, 0, 5, 2, 15, 13, 10, 14, 3, 6, 7, 1, 9, 4], [7, 9, 3, 1, 13, 12, 11, 14, 2, 6, 5, 10, 4, 0, 15, 8], [9, 0, 5, 7, 2, 4, 10, 15, 14, 1, 11, 12, 6, 8, 3, 13], [2, 12, 6, 10, 0, 11, 8, 3, 4, 13, 7, 5, 15, 14, 1, 9], [12, 5, 1, 15, 14, 13, 4, 10, 0, 7, 6, 3, 9, 2, 8, 11], [13, 11, 7, 14, 12, 1, 3, 9, 5, 0, 15, 4, 8, 6, 2, 10], [6, 15, 14, 9, 11, 3, 0, 8, 12, 2, 13, 7, 1, 4, 10, 5], [10, 2, 8, 4, 7, 6, 1, 5, 15, 11, 9, 14, 3, 12, 13, 0]]) (show Tryd.prog.underlying 91 = some (.array 10 90) by kernel_rfl) (show Tryd.prog.underlying 90 = some (.array 16 3) by kernel_rfl) (show Tryd.prog.underlying 3 = some (.int .i64) by kernel_rfl) (show Tryd.prog.cellsOf 3 = 1 by kernel_rfl) (show Tryd.prog.cellsOf 90 = 16 by kernel_rfl) hc r hr
    rw [h1]
    have h2 : ((List.range 160).all fun r => (([[0, 1, 2, 3, 4, 5, 6, 7, 8, 9, 10, 11, 12, 13, 14, 15], [14, 10, 4, 8, 9, 15, 13, 6, 1, 12, 0, 2, 11, 7, 5, 3], [11, 8, 12, 0, 5, 2, 15, 13, 10, 14, 3, 6, 7, 1, 9, 4], [7, 9, 3, 1, 13, 12, 11, 14, 2, 6, 5, 10, 4, 0, 15, 8], [9, 0, 5, 7, 2, 4, 10, 15, 14, 1, 11, 12, 6, 8, 3, 13], [2, 12, 6, 10, 0, 11, 8, 3, 4, 13, 7, 5, 15, 14, 1, 9], [12, 5, 1, 15, 14, 13, 4, 10, 0, 7, 6, 3, 9, 2, 8, 11], [13, 11, 7, 14, 12, 1, 3, 9, 5, 0, 15, 4, 8, 6, 2, 10], [6, 15, 14, 9, 11, 3, 0, 8, 12, 2, 13, 7, 1, 4, 10, 5], [10, 2, 8, 4, 7, 6, 1, 5, 15, 11, 9, 14, 3, 12, 13, 0]] : List (List Int)).getD (r / 16) []).getD (r % 16) 0 == (sgf r : Int)) = true := by decide +kernel
    have h3 := (List.all_eq_true.1 h2) r (List.mem_range.2 hr)
    rw [eq_of_beq h3]
theorem laid_signet_signetref_iv_rin {W : World} (h : VarT Tryd.prog W "signet/signetref.iv" Rows.laid_signet_signetref_iv) : RIn W (⟨0, arr .u32 8 ivf, 63⟩ : Blk) :=
  rin_tab (by kernel_rfl) (by kernel_rfl) (by decide) h fun cs hc r hr => by
    have h1 := rd_ints (zs := [1779033703, 3144134277, 1013904242, 2773480762, 1359893119, 2600822924, 528734635, 1541459225]) (show Tryd.prog.underlying 63 = some (.array 8 62) by kernel_rfl) (show Tryd.prog.underlying 62 = some (.int .u32) by kernel_rfl) (show Tryd.prog.cellsOf 62 = 1 by kernel_rfl) hc r hr
    rw [h1]
    have h2 : ((List.range 8).all fun r => ([1779033703, 3144134277, 1013904242, 2773480762, 1359893119, 2600822924, 528734635, 1541459225] : List Int).getD r 0 == (ivf r : Int)) = true := by decide +kernel
    have h3 := (List.all_eq_true.1 h2) r (List.mem_range.2 hr)
    rw [eq_of_beq h3]
end Go.Proofs.YthljakcegoohlaaDoor
