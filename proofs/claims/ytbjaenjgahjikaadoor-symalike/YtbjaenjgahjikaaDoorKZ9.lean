import Derived.Test.YtbjaenjgahjikaaDoorKZ8
namespace Go.Proofs.YtbjaenjgahjikaaDoor
open Go Go.RowKit
theorem hashOf_fn {G : Mem} (l : List Nat) (hb : ∀ b ∈ l, b < 256) (hl : l.length ≤ 4611686018427387904) : Fn Tryd.prog (IVB :: G) 28 #[sv l] (.agg (arr .u8 32 (bsum l))) := by
  by_cases hz : l.length ≤ 1073741824
  · exact hashOf_a l hb hz
  · exact hashOf_b l hb hl hz
variable {G : Mem}
set_option maxHeartbeats 400000 in
theorem text_fn (f : Nat → Nat) : Fn Tryd.prog G 32 #[.agg (arr .u8 32 f)] (sv ((List.range 32).map f)) := by
  refine Qf1 Tryd.func32 ?_
  refine Qs<|Qp<|(Qh 0) fun r1=>?_
  refine e_assign (v := sv []) rfl rfl ?_
  refine Qn<|Qs<|Qp ?_
  refine e_sliceA 0 32 (Uu 23) (Uz 5) rfl rfl rfl rfl rfl (by omega) (by omega) (by omega) rfl ?_
  refine e_conv_str (i := 0) (Uu 33) (Uu 5) (Uu 9) rfl rfl (by omega) rfl rfl ⟨[], trivial⟩ ?_
  refine e_as (conv_all f 32) ?_
  refine (Qa)<|Qn<|Qr ?_
  exact ⟨_, rfl, .tmp rfl⟩
set_option maxHeartbeats 4000000 in
theorem mac_long (k s : List Nat) (hk : ∀ b ∈ k, b < 256) (hb : ∀ b ∈ s, b < 256) (hkl : 64 < k.length) (hkm : k.length ≤ 4611686018427387904) (hs : s.length ≤ 2305843009213693952) : Fn Tryd.prog (IVB :: G) 41 #[sv k, sv s] (.agg (arr .u8 32 (mac k s))) := by
  have hmk : mkey k = bsl k := if_pos hkl
  have hkle := mkey_le k
  rw [hmk] at hkle
  obtain ⟨P, hPe⟩ : ∃ P, P = mpad k := ⟨_, rfl⟩
  have hP : P.length = 64 := by rw [hPe]; exact mpad_len k
  have hPl : ∀ b ∈ P, b < 256 := by rw [hPe]; exact mpad_lt hk
  refine Qf1 Tryd.func41 ?_
  refine Qs<|Qp<|(QH 0) fun r1=>Qn<|Qs<|Qs<|Qp<|(Qm)<|(QU)<|(QG)<|(Qat)<|Qn<|(Qct)<|Qp<|(Qm) ?_
  refine e_call rfl (Un 28) (hashOf_fn k hk hkm) rfl rfl ?_
  refine e_call rfl (Un 32) (text_fn _) rfl rfl ?_
  refine e_as (show _ = sv (bsl k) from rfl) ?_
  refine (Qa)<|Qn<|Qs<|Qp<|(Qm)<|(Qm)<|(QU) ?_
  refine e_sub_in (p := 64) rfl rfl rfl (by omega) (by omega) ?_
  refine e_call rfl (Un 58) (noughts_fn (64 - (bsl k).length) (by omega)) rfl rfl ?_
  refine e_catS rfl rfl rfl (by rw [zrs_len]; omega) ?_
  refine e_as (congrArg sv (show (bsl k) ++ zrs (64 - (bsl k).length) = P by rw [hPe, mpad, hmk])) ?_
  refine (Qa)<|Qn<|Qs<|QR ⟨[], 1, [33], none⟩<|(Qm) ?_
  refine e_conv_own 1 (Uu 9) (Uu 33) (Uu 5) rfl hPl (by simp only [maxLen]; omega) rfl rfl fun v2_1 oz2_1 ho2_1 => ?_
  refine (Qm) ?_
  refine e_conv_own 2 (Uu 9) (Uu 33) (Uu 5) rfl hPl (by simp only [maxLen]; omega) rfl rfl fun v2_2 oz2_2 ho2_2 => ?_
  refine (Qa)<|(Qa)<|Qn<|Qs<|Qs<|Qp<|(Qm)<|(QC ho2_1.shows) ?_
  refine e_as (congrArg ii hP) ?_
  refine (Qm)<|Qn<|Qb ?_
  refine QzK [(1, _), (4, _), (5, _), (6, _), (25, _)] [(0, _)] (fun kk E m => ∃ (i : Nat) (oa : Option Blk) (ob : Option Blk), kk = 64 - i ∧ E = [(26, ii i)] ∧ m = [(1, oa), (2, ob)] ∧ (i ≤ 64) ∧ (OwnS 5 1 v2_1 P.length ((xst P 54 i).map by8) (Option.toList oa)) ∧ (OwnS 5 1 v2_2 P.length ((xst P 92 i).map by8) (Option.toList ob))) ⟨0, oz2_1, oz2_2, rfl, rfl, rfl, by omega, own_fix ho2_1 rfl (by rw [← xst_zero]), own_fix ho2_2 rfl (by rw [← xst_zero])⟩ ⟨rfl, rfl, rfl, rfl, rfl, rfl, trivial⟩ ⟨rfl, rfl, rfl, trivial⟩ ?_
  rintro kk E m ⟨i, oa, ob, rfl, rfl, rfl, hf0_0, hf0_1, hf0_2⟩
  simp only [catE, catL]
  have hx1 := xst_len P 54 (i := i) (by omega)
  have hx2 := xst_len P 92 (i := i) (by omega)
  refine Qs<|Qp<|(Ql)<|Qn<|Qs ?_
  refine e_cond rfl ?_ ?_
  · intro hc1
    have hc1 : i < 64 := by have := of_decide_eq_true hc1; omega
    refine Qk<|Qs<|Qb<|Qs<|Qp<|(Qm)<|(Qa)<|Qn<|Qs<|Qp<|(Qm)<|(Qm) ?_
    refine e_atV hf0_1.shows (Uu 33) (Uz 5) rfl rfl (by omega) rfl ?_
    refine (QS) ?_
    refine e_loadV hf0_1.shows (seenM 1 rfl ⟨[], trivial⟩) (Uu 5) rfl rfl (nth_at (by omega)) rfl ?_
    refine e_xor_b (q := 54) rfl rfl rfl  ?_
    refine e_atV hf0_1.shows (Uu 33) (Uz 5) rfl rfl (by omega) rfl ?_
    refine (QS) ?_
    refine e_stOwn (i := 1) hf0_1 (Uz 5) rfl rfl rfl rfl (by omega) rfl fun oz3_3 ho3_3 => ?_
    refine Qn<|Qp<|(Qm)<|(Qm) ?_
    refine e_atV hf0_2.shows (Uu 33) (Uz 5) rfl rfl (by omega) rfl ?_
    refine (QS) ?_
    refine e_loadV hf0_2.shows (seenM 2 rfl ⟨[], trivial⟩) (Uu 5) rfl rfl (nth_at (by omega)) rfl ?_
    refine e_xor_b (q := 92) rfl rfl rfl  ?_
    refine e_atV hf0_2.shows (Uu 33) (Uz 5) rfl rfl (by omega) rfl ?_
    refine (QS) ?_
    refine e_stOwn (i := 2) hf0_2 (Uz 5) rfl rfl rfl rfl (by omega) rfl fun oz3_4 ho3_4 => ?_
    refine Qn<|Qp<|(Q2 1)<|(Qm)<|Qn ?_
    refine QzL ⟨i + 1, _, _, rfl, rfl, rfl, by omega, own_fix (own_setB ho3_3) rfl (by rw [xst_next P 54 (by omega)]), own_fix (own_setB ho3_4) rfl (by rw [xst_next P 92 (by omega)])⟩ ⟨rfl, rfl, rfl, rfl, rfl, rfl, trivial⟩ ⟨rfl, rfl, rfl, trivial⟩ ?_
    omega
  · intro hc1
    have hc1 := of_decide_eq_false hc1
    have hz0 : i = 64 := by omega
    refine Qe<|Qs<|(Qg)<|(Qm) ?_
    refine e_conv_strV (l := (xst P 92 i)) (own_bytes hf0_2) (seenM 2 rfl ⟨[], trivial⟩) (Uu 33) (Uu 5) (Uu 9) rfl rfl rfl ?_
    refine e_as (congrArg sv (show xst P 92 i = xorl P 92 by rw [hz0, ← hP, xst_all])) ?_
    refine (Qm) ?_
    refine e_conv_strV (l := (xst P 54 i)) (own_bytes hf0_1) (seenM 1 rfl ⟨[], trivial⟩) (Uu 33) (Uu 5) (Uu 9) rfl rfl rfl ?_
    refine e_as (congrArg sv (show xst P 54 i = xorl P 54 by rw [hz0, ← hP, xst_all])) ?_
    refine (Qm) ?_
    refine e_catS rfl rfl rfl (by rw [xorl_len]; omega) ?_
    refine e_call rfl (Un 28) (hashOf_fn (xorl P 54 ++ s) (fun b h => (List.mem_append.1 h).elim (xorl_lt P 54 b) (hb b)) (by rw [List.length_append, xorl_len]; omega)) rfl rfl ?_
    refine e_call rfl (Un 32) (text_fn _) rfl rfl ?_
    refine e_as (show _ = sv (bsl (xorl P 54 ++ s)) from rfl) ?_
    refine e_catS rfl rfl rfl (by rw [xorl_len, bsl_len]; omega) ?_
    refine e_call rfl (Un 28) (hashOf_fn (xorl P 92 ++ bsl (xorl P 54 ++ s)) (fun b h => (List.mem_append.1 h).elim (xorl_lt P 92 b) (bsl_lt _ b)) (by rw [List.length_append, xorl_len, bsl_len]; omega)) rfl rfl ?_
    refine e_as (congrArg (fun f => Value.agg (arr .u8 32 f)) (show bsum (xorl P 92 ++ bsl (xorl P 54 ++ s)) = mac k s by rw [hPe]; rfl)) ?_
    refine (Qt 0)<|Qn<|Qr ?_
    exact ⟨_, rfl, .cell (i := 0) rfl rfl (Uu 23) rfl (Uz 23) (arr_size _ _ _)⟩
set_option maxHeartbeats 4000000 in
theorem mac_short (k s : List Nat) (hk : ∀ b ∈ k, b < 256) (hb : ∀ b ∈ s, b < 256) (hkl : ¬ 64 < k.length) (hs : s.length ≤ 2305843009213693952) : Fn Tryd.prog (IVB :: G) 41 #[sv k, sv s] (.agg (arr .u8 32 (mac k s))) := by
  have hmk : mkey k = k := if_neg hkl
  have hkle := mkey_le k
  rw [hmk] at hkle
  obtain ⟨P, hPe⟩ : ∃ P, P = mpad k := ⟨_, rfl⟩
  have hP : P.length = 64 := by rw [hPe]; exact mpad_len k
  have hPl : ∀ b ∈ P, b < 256 := by rw [hPe]; exact mpad_lt hk
  refine Qf1 Tryd.func41 ?_
  refine Qs<|Qp<|(QH 0) fun r1=>Qn<|Qs<|Qs<|Qp<|(Qm)<|(QU)<|(QG)<|(Qaf)<|Qn<|(Qcf)<|Qk<|Qs<|Qp<|(Qm)<|(Qm)<|(QU) ?_
  refine e_sub_in (p := 64) rfl rfl rfl (by omega) (by omega) ?_
  refine e_call rfl (Un 58) (noughts_fn (64 - k.length) (by omega)) rfl rfl ?_
  refine e_catS rfl rfl rfl (by rw [zrs_len]; omega) ?_
  refine e_as (congrArg sv (show k ++ zrs (64 - k.length) = P by rw [hPe, mpad, hmk])) ?_
  refine (Qa)<|Qn<|Qs<|QR ⟨[], 1, [33], none⟩<|(Qm) ?_
  refine e_conv_own 1 (Uu 9) (Uu 33) (Uu 5) rfl hPl (by simp only [maxLen]; omega) rfl rfl fun v2_1 oz2_1 ho2_1 => ?_
  refine (Qm) ?_
  refine e_conv_own 2 (Uu 9) (Uu 33) (Uu 5) rfl hPl (by simp only [maxLen]; omega) rfl rfl fun v2_2 oz2_2 ho2_2 => ?_
  refine (Qa)<|(Qa)<|Qn<|Qs<|Qs<|Qp<|(Qm)<|(QC ho2_1.shows) ?_
  refine e_as (congrArg ii hP) ?_
  refine (Qm)<|Qn<|Qb ?_
  refine QzK [(1, _), (4, _), (5, _), (6, _), (25, _)] [(0, _)] (fun kk E m => ∃ (i : Nat) (oa : Option Blk) (ob : Option Blk), kk = 64 - i ∧ E = [(26, ii i)] ∧ m = [(1, oa), (2, ob)] ∧ (i ≤ 64) ∧ (OwnS 5 1 v2_1 P.length ((xst P 54 i).map by8) (Option.toList oa)) ∧ (OwnS 5 1 v2_2 P.length ((xst P 92 i).map by8) (Option.toList ob))) ⟨0, oz2_1, oz2_2, rfl, rfl, rfl, by omega, own_fix ho2_1 rfl (by rw [← xst_zero]), own_fix ho2_2 rfl (by rw [← xst_zero])⟩ ⟨rfl, rfl, rfl, rfl, rfl, rfl, trivial⟩ ⟨rfl, rfl, rfl, trivial⟩ ?_
  rintro kk E m ⟨i, oa, ob, rfl, rfl, rfl, hf0_0, hf0_1, hf0_2⟩
  simp only [catE, catL]
  have hx1 := xst_len P 54 (i := i) (by omega)
  have hx2 := xst_len P 92 (i := i) (by omega)
  refine Qs<|Qp<|(Ql)<|Qn<|Qs ?_
  refine e_cond rfl ?_ ?_
  · intro hc1
    have hc1 : i < 64 := by have := of_decide_eq_true hc1; omega
    refine Qk<|Qs<|Qb<|Qs<|Qp<|(Qm)<|(Qa)<|Qn<|Qs<|Qp<|(Qm)<|(Qm) ?_
    refine e_atV hf0_1.shows (Uu 33) (Uz 5) rfl rfl (by omega) rfl ?_
    refine (QS) ?_
    refine e_loadV hf0_1.shows (seenM 1 rfl ⟨[], trivial⟩) (Uu 5) rfl rfl (nth_at (by omega)) rfl ?_
    refine e_xor_b (q := 54) rfl rfl rfl  ?_
    refine e_atV hf0_1.shows (Uu 33) (Uz 5) rfl rfl (by omega) rfl ?_
    refine (QS) ?_
    refine e_stOwn (i := 1) hf0_1 (Uz 5) rfl rfl rfl rfl (by omega) rfl fun oz3_3 ho3_3 => ?_
    refine Qn<|Qp<|(Qm)<|(Qm) ?_
    refine e_atV hf0_2.shows (Uu 33) (Uz 5) rfl rfl (by omega) rfl ?_
    refine (QS) ?_
    refine e_loadV hf0_2.shows (seenM 2 rfl ⟨[], trivial⟩) (Uu 5) rfl rfl (nth_at (by omega)) rfl ?_
    refine e_xor_b (q := 92) rfl rfl rfl  ?_
    refine e_atV hf0_2.shows (Uu 33) (Uz 5) rfl rfl (by omega) rfl ?_
    refine (QS) ?_
    refine e_stOwn (i := 2) hf0_2 (Uz 5) rfl rfl rfl rfl (by omega) rfl fun oz3_4 ho3_4 => ?_
    refine Qn<|Qp<|(Q2 1)<|(Qm)<|Qn ?_
    refine QzL ⟨i + 1, _, _, rfl, rfl, rfl, by omega, own_fix (own_setB ho3_3) rfl (by rw [xst_next P 54 (by omega)]), own_fix (own_setB ho3_4) rfl (by rw [xst_next P 92 (by omega)])⟩ ⟨rfl, rfl, rfl, rfl, rfl, rfl, trivial⟩ ⟨rfl, rfl, rfl, trivial⟩ ?_
    omega
  · intro hc1
    have hc1 := of_decide_eq_false hc1
    have hz0 : i = 64 := by omega
    refine Qe<|Qs<|(Qg)<|(Qm) ?_
    refine e_conv_strV (l := (xst P 92 i)) (own_bytes hf0_2) (seenM 2 rfl ⟨[], trivial⟩) (Uu 33) (Uu 5) (Uu 9) rfl rfl rfl ?_
    refine e_as (congrArg sv (show xst P 92 i = xorl P 92 by rw [hz0, ← hP, xst_all])) ?_
    refine (Qm) ?_
    refine e_conv_strV (l := (xst P 54 i)) (own_bytes hf0_1) (seenM 1 rfl ⟨[], trivial⟩) (Uu 33) (Uu 5) (Uu 9) rfl rfl rfl ?_
    refine e_as (congrArg sv (show xst P 54 i = xorl P 54 by rw [hz0, ← hP, xst_all])) ?_
    refine (Qm) ?_
    refine e_catS rfl rfl rfl (by rw [xorl_len]; omega) ?_
    refine e_call rfl (Un 28) (hashOf_fn (xorl P 54 ++ s) (fun b h => (List.mem_append.1 h).elim (xorl_lt P 54 b) (hb b)) (by rw [List.length_append, xorl_len]; omega)) rfl rfl ?_
    refine e_call rfl (Un 32) (text_fn _) rfl rfl ?_
    refine e_as (show _ = sv (bsl (xorl P 54 ++ s)) from rfl) ?_
    refine e_catS rfl rfl rfl (by rw [xorl_len, bsl_len]; omega) ?_
    refine e_call rfl (Un 28) (hashOf_fn (xorl P 92 ++ bsl (xorl P 54 ++ s)) (fun b h => (List.mem_append.1 h).elim (xorl_lt P 92 b) (bsl_lt _ b)) (by rw [List.length_append, xorl_len, bsl_len]; omega)) rfl rfl ?_
    refine e_as (congrArg (fun f => Value.agg (arr .u8 32 f)) (show bsum (xorl P 92 ++ bsl (xorl P 54 ++ s)) = mac k s by rw [hPe]; rfl)) ?_
    refine (Qt 0)<|Qn<|Qr ?_
    exact ⟨_, rfl, .cell (i := 0) rfl rfl (Uu 23) rfl (Uz 23) (arr_size _ _ _)⟩
end Go.Proofs.YtbjaenjgahjikaaDoor
namespace Go.Proofs.YtbjaenjgahjikaaDoor
open Go Go.RowKit
theorem fill_three (a b c : Nat → Nat) : Instr.fill (fun i => some (i * 32, 32)) (arr .u8 96 fun _ => 0) [(0, .agg (arr .u8 32 a)), (1, .agg (arr .u8 32 b)), (2, .agg (arr .u8 32 c))] = some (arr .u8 96 (thr3 a b c)) := by kernel_rfl
theorem mac_fn {G : Mem} (k s : List Nat) (hk : ∀ b ∈ k, b < 256) (hb : ∀ b ∈ s, b < 256) (hkm : k.length ≤ 4611686018427387904) (hs : s.length ≤ 2305843009213693952) : Fn Tryd.prog (IVB :: G) 41 #[sv k, sv s] (.agg (arr .u8 32 (mac k s))) := by
  by_cases h : 64 < k.length
  · exact mac_long k s hk hb h hkm hs
  · exact mac_short k s hk hb h hs
variable {G : Mem}
set_option maxHeartbeats 4000000 in
theorem keysOf_fn (c : Nat → Nat) (s : List Nat) (hc : L8 32 c) (hb : ∀ b ∈ s, b < 256) (hs : s.length ≤ 2305843009213693952) : Fn Tryd.prog (IVB :: G) 29 #[.agg (arr .u8 32 c), sv s] (.agg (arr .u8 96 (thr3 (kA c s) (kB c s) (kC c s)))) := by
  have hTl := kT_len c s
  have hTb := kT_lt c s
  have hAb : ∀ b ∈ (List.range 32).map (kA c s), b < 256 := range_lt fun _ _ => mac_lt _ _ _
  have hBb : ∀ b ∈ (List.range 32).map (kB c s), b < 256 := range_lt fun _ _ => mac_lt _ _ _
  have hl3 : ∀ f : Nat → Nat, ((List.range 32).map f).length = 32 := fun f => by simp
  refine Qf1 Tryd.func29 ?_
  refine Qs<|Qp<|(Qh 0) fun r1=>(QH 1) fun r2=>Qn<|Qs<|Qp<|(Qd 0) ?_
  refine e_call rfl (Un 32) (text_fn _) rfl rfl ?_
  refine (Qm) ?_
  refine e_call rfl (Un 41) (mac_fn ((List.range 32).map c) s (range_lt hc) hb (by simp) hs) rfl rfl ?_
  refine e_call rfl (Un 32) (text_fn _) rfl rfl ?_
  refine e_as (show _ = sv (kT c s) from rfl) ?_
  refine (Qa)<|Qn<|Qs<|Qp<|(Qm) ?_
  refine e_call rfl (Un 41) (mac_fn (kT c s) [1] hTb (by decide) (by omega) (by decide)) rfl rfl ?_
  refine e_as (show _ = Value.agg (arr .u8 32 (kA c s)) from rfl) ?_
  refine (QH 2) fun r3=>(Qt 2)<|Qn<|Qs<|Qp<|(Qm)<|(Qd 2) ?_
  refine e_call rfl (Un 32) (text_fn _) rfl rfl ?_
  refine e_catS (k := [2]) rfl rfl rfl (by simp) ?_
  refine e_call rfl (Un 41) (mac_fn (kT c s) ((List.range 32).map (kA c s) ++ [2]) hTb (app_lt hAb (by decide)) (by omega) (by simp)) rfl rfl ?_
  refine e_as (show _ = Value.agg (arr .u8 32 (kB c s)) from rfl) ?_
  refine (QH 3) fun r4=>(Qt 3)<|Qn<|Qs<|(Qg)<|(Qd 2)<|(Qd 3)<|(Qm)<|(Qd 3) ?_
  refine e_call rfl (Un 32) (text_fn _) rfl rfl ?_
  refine e_catS (k := [3]) rfl rfl rfl (by simp) ?_
  refine e_call rfl (Un 41) (mac_fn (kT c s) ((List.range 32).map (kB c s) ++ [3]) hTb (app_lt hBb (by decide)) (by omega) (by simp)) rfl rfl ?_
  refine e_as (show _ = Value.agg (arr .u8 32 (kC c s)) from rfl) ?_
  refine e_buildZ (arr .u8 96 (thr3 (kA c s) (kB c s) (kC c s))) (Ub 53 rfl) (Uu 53 rfl) (Uz 23 rfl) rfl (fill_three (kA c s) (kB c s) (kC c s)) rfl ?_
  refine (Qt 1)<|Qn<|Qr ?_
  exact ⟨_, rfl, .cell (i := 1) rfl rfl (Uu 53) rfl (Uz 53) (arr_size _ _ _)⟩
end Go.Proofs.YtbjaenjgahjikaaDoor
namespace Go.Proofs.YtbjaenjgahjikaaDoor
open Go Go.RowKit
theorem dmac7_at {G X : Mem} (vk vs : Value) (k s : List Nat) (hvk : Shows ((DOR :: G) ++ X) 1 vk k.length (k.map by8)) (hvs : Shows ((DOR :: G) ++ X) 1 vs s.length (s.map by8)) (hk : ∀ b ∈ k, b < 256) (hb : ∀ b ∈ s, b < 256) (hkm : k.length ≤ 1073741824) (hs : s.length ≤ 1073741760) : Fn Tryd.prog ((DOR :: G) ++ X) 43 #[vk, vs] (.agg (arr .u8 32 (mac k s))) :=
  dmac7_fn (G := G ++ X) vk vs k s hvk hvs hk hb hkm hs
theorem shows_b1 (r x : Nat) (t : TypeId) : Shows [⟨r, #[by8 x], t⟩] 1 (.slice (some ⟨r, 0, none⟩) 1 1) [x].length ([x].map by8) := shows_new (r := r) (len := 1) (z := 1) #[by8 x] t rfl
theorem fill_two (a b : Nat → Nat) : Instr.fill (fun i => some (i * 32, 32)) (arr .u8 64 fun _ => 0) [(0, .agg (arr .u8 32 a)), (1, .agg (arr .u8 32 b))] = some (arr .u8 64 (two2 a b)) := by kernel_rfl
theorem thr3_at0 (a b c : Nat → Nat) : ∀ j, j < 32 → thr3 a b c (0 + j) = a j := fun j hj => by rw [Nat.zero_add, thr3, if_pos hj]
theorem thr3_at1 (a b c : Nat → Nat) : ∀ j, j < 32 → thr3 a b c (32 + j) = b j := fun j hj => by rw [thr3, if_neg (by omega), if_pos (by omega), Nat.add_sub_cancel_left]
variable {G : Mem}
set_option maxHeartbeats 4000000 in
theorem dthree_fn (c : Nat → Nat) (v : Value) (s : List Nat) (hc : L8 32 c) (hv : Shows (DOR :: G) 1 v s.length (s.map by8)) (hb : ∀ b ∈ s, b < 256) (hs : s.length ≤ 1073741760) : Fn Tryd.prog (DOR :: G) 31 #[.agg (arr .u8 32 c), v] (.agg (arr .u8 96 (thr3 (kA c s) (kB c s) (kC c s)))) := by
  obtain ⟨f, hf⟩ : ∃ f, f = mac ((List.range 32).map c) s := ⟨_, rfl⟩
  have hT : kT c s = ((List.range 32).map f) := by rw [hf]; rfl
  have hfb : ∀ b ∈ ((List.range 32).map f), b < 256 := by rw [← hT]; exact kT_lt c s
  obtain ⟨fA, hA⟩ : ∃ x, x = kA c s := ⟨_, rfl⟩
  obtain ⟨fB, hB⟩ : ∃ x, x = kB c s := ⟨_, rfl⟩
  obtain ⟨fC, hC⟩ : ∃ x, x = kC c s := ⟨_, rfl⟩
  have eA : mac ((List.range 32).map f) [1] = fA := by rw [hA, kA, hT]
  have eB : mac ((List.range 32).map f) (((List.range 32).map fA) ++ [2]) = fB := by rw [hB, kB, hT, hA]
  have eC : mac ((List.range 32).map f) (((List.range 32).map fB) ++ [3]) = fC := by rw [hC, kC, hT, hB]
  have hfAb : ∀ b ∈ ((List.range 32).map fA), b < 256 := by rw [hA]; exact range_lt fun _ _ => mac_lt _ _ _
  have hfBb : ∀ b ∈ ((List.range 32).map fB), b < 256 := by rw [hB]; exact range_lt fun _ _ => mac_lt _ _ _
  rw [← hA, ← hB, ← hC]
  refine Qf1 Tryd.func31 ?_
  refine Qs<|Qp<|(Qh 0) fun r1=>(QH 1) fun r2=>Qn<|Qs<|Qp ?_
  refine e_sliceA 0 32 (Uu 23) (Uz 5) rfl rfl rfl rfl rfl (by omega) (by omega) (by omega) rfl ?_
  refine (Qm) ?_
  refine e_callS rfl rfl (Un 43) (seen_app seenG (seen1 0 rfl ⟨[], trivial⟩)) (dmac7_at (G := G) (X := [(⟨r1, arr .u8 32 c, 23⟩ : Blk)]) (.slice (some ⟨r1, 0, none⟩) 32 32) v ((List.range 32).map c) s (Shows.mono (shows32 r1 c 23) (fun x h => List.mem_append_right _ h)) (Shows.mono hv (fun x h => List.mem_append_left _ h)) (range_lt hc) hb (by simp) hs) rfl rfl ?_
  refine e_as (congrArg (fun f => Value.agg (arr .u8 32 f)) hf.symm) ?_
  refine (QH 2) fun r3=>(Qt 2)<|Qn<|Qs<|Qp ?_
  refine e_sliceA 0 32 (Uu 23) (Uz 5) rfl rfl rfl rfl rfl (by omega) (by omega) (by omega) rfl ?_
  refine e_buildSl 3 #[by8 1] (Uu 33 rfl) (Uz 5 rfl) (Ub 5 rfl) (by decide) (by decide) rfl (by kernel_rfl) rfl fun r4 => ?_
  refine e_callS rfl rfl (Un 43) (seen_app seenG (seen_app (seen1 2 rfl ⟨[], trivial⟩) (seen1 3 rfl ⟨[], trivial⟩))) (dmac7_at (G := G) (X := ([(⟨r3, arr .u8 32 f, 23⟩ : Blk)] ++ [(⟨r4, #[by8 1], 5⟩ : Blk)])) (.slice (some ⟨r3, 0, none⟩) 32 32) (.slice (some ⟨r4, 0, none⟩) 1 1) ((List.range 32).map f) [1] (Shows.mono (shows32 r3 f 23) (fun x h => List.mem_append_right _ (List.mem_append_left _ h))) (Shows.mono (shows_b1 r4 1 5) (fun x h => List.mem_append_right _ (List.mem_append_right _ h))) hfb (by decide) (by simp) (by decide)) rfl rfl ?_
  refine e_as (congrArg (fun f => Value.agg (arr .u8 32 f)) eA) ?_
  refine (QH 4) fun r5=>(Qt 4)<|Qn<|Qs<|(Qq ⟨[], 4, [], none⟩) ?_
  refine e_sliceA 0 32 (Uu 23) (Uz 5) rfl rfl rfl rfl rfl (by omega) (by omega) (by omega) rfl ?_
  refine e_sliceA 0 32 (Uu 23) (Uz 5) rfl rfl rfl rfl rfl (by omega) (by omega) (by omega) rfl ?_
  refine e_buildSl 5 #[by8 2] (Uu 33 rfl) (Uz 5 rfl) (Ub 5 rfl) (by decide) (by decide) rfl (by kernel_rfl) rfl fun r6 => ?_
  refine e_buildSl 6 [(.slice (some ⟨r5, 0, none⟩) 32 32), (.slice (some ⟨r6, 0, none⟩) 1 1)].toArray (Uu 88 rfl) (Uz 33 rfl) (Ub 33 rfl) (by decide) (by decide) rfl (fill_ones [(.slice (some ⟨r5, 0, none⟩) 32 32), (.slice (some ⟨r6, 0, none⟩) 1 1)] 0 _ (by intro v hv; simp only [List.mem_cons, List.not_mem_nil, or_false] at hv; rcases hv with rfl | rfl; exact rfl; exact rfl) (by simp)) rfl fun r7 => ?_
  refine e_callN 7 (fun v => v) rfl rfl (Un 44) (seen_app seenG (seen_app (seen1 4 rfl ⟨[], trivial⟩) (seen_app (seen1 5 rfl ⟨[], trivial⟩) (seen1 6 rfl ⟨[], trivial⟩)))) (djoined2 (G := ((DOR :: G) ++ ([(⟨r5, arr .u8 32 fA, 23⟩ : Blk)] ++ ([(⟨r6, #[by8 2], 5⟩ : Blk)] ++ [(⟨r7, [(.slice (some ⟨r5, 0, none⟩) 32 32), (.slice (some ⟨r6, 0, none⟩) 1 1)].toArray, 33⟩ : Blk)])))) r7 (.slice (some ⟨r5, 0, none⟩) 32 32) (.slice (some ⟨r6, 0, none⟩) 1 1) ((List.range 32).map fA) [2] (Shows.mono (shows32 r5 fA 23) (fun x h => (List.mem_append_right _ (List.mem_append_left _ h)))) (Shows.mono (shows_b1 r6 2 5) (fun x h => (List.mem_append_right _ (List.mem_append_right _ (List.mem_append_left _ h))))) (List.mem_append_right _ (List.mem_append_right _ (List.mem_append_right _ (List.mem_singleton.2 rfl)))) (by simp)) (by simp [maxLen]) (by rw [List.length_map, Nat.mul_one]) rfl rfl fun v1_1 oz1_1 ho1_1 => ?_
  refine e_callS rfl rfl (Un 43) (seen_app seenG (seen_app (seen1 2 rfl ⟨[], trivial⟩) (seenM 7 rfl ⟨[], trivial⟩))) (dmac7_at (G := G) (X := ([(⟨r3, arr .u8 32 f, 23⟩ : Blk)] ++ oz1_1.toList)) (.slice (some ⟨r3, 0, none⟩) 32 32) v1_1 ((List.range 32).map f) (((List.range 32).map fA) ++ [2]) (Shows.mono (shows32 r3 f 23) (fun x h => List.mem_append_right _ (List.mem_append_left _ h))) (Shows.mono (own_bytes ho1_1) (fun x h => List.mem_append_right _ (List.mem_append_right _ h))) hfb (app_lt hfAb (by decide)) (by simp) (by simp)) rfl rfl ?_
  refine e_as (congrArg (fun f => Value.agg (arr .u8 32 f)) eB) ?_
  refine (QH 8) fun r9=>(Qt 8)<|Qn<|Qs<|(Qq ⟨[], 4, [], none⟩) ?_
  refine e_sliceA 0 32 (Uu 23) (Uz 5) rfl rfl rfl rfl rfl (by omega) (by omega) (by omega) rfl ?_
  refine e_sliceA 0 32 (Uu 23) (Uz 5) rfl rfl rfl rfl rfl (by omega) (by omega) (by omega) rfl ?_
  refine e_buildSl 9 #[by8 3] (Uu 33 rfl) (Uz 5 rfl) (Ub 5 rfl) (by decide) (by decide) rfl (by kernel_rfl) rfl fun r10 => ?_
  refine e_buildSl 10 [(.slice (some ⟨r9, 0, none⟩) 32 32), (.slice (some ⟨r10, 0, none⟩) 1 1)].toArray (Uu 88 rfl) (Uz 33 rfl) (Ub 33 rfl) (by decide) (by decide) rfl (fill_ones [(.slice (some ⟨r9, 0, none⟩) 32 32), (.slice (some ⟨r10, 0, none⟩) 1 1)] 0 _ (by intro v hv; simp only [List.mem_cons, List.not_mem_nil, or_false] at hv; rcases hv with rfl | rfl; exact rfl; exact rfl) (by simp)) rfl fun r11 => ?_
  refine e_callN 11 (fun v => v) rfl rfl (Un 44) (seen_app seenG (seen_app (seen1 8 rfl ⟨[], trivial⟩) (seen_app (seen1 9 rfl ⟨[], trivial⟩) (seen1 10 rfl ⟨[], trivial⟩)))) (djoined2 (G := ((DOR :: G) ++ ([(⟨r9, arr .u8 32 fB, 23⟩ : Blk)] ++ ([(⟨r10, #[by8 3], 5⟩ : Blk)] ++ [(⟨r11, [(.slice (some ⟨r9, 0, none⟩) 32 32), (.slice (some ⟨r10, 0, none⟩) 1 1)].toArray, 33⟩ : Blk)])))) r11 (.slice (some ⟨r9, 0, none⟩) 32 32) (.slice (some ⟨r10, 0, none⟩) 1 1) ((List.range 32).map fB) [3] (Shows.mono (shows32 r9 fB 23) (fun x h => (List.mem_append_right _ (List.mem_append_left _ h)))) (Shows.mono (shows_b1 r10 3 5) (fun x h => (List.mem_append_right _ (List.mem_append_right _ (List.mem_append_left _ h))))) (List.mem_append_right _ (List.mem_append_right _ (List.mem_append_right _ (List.mem_singleton.2 rfl)))) (by simp)) (by simp [maxLen]) (by rw [List.length_map, Nat.mul_one]) rfl rfl fun v1_2 oz1_2 ho1_2 => ?_
  refine e_callS rfl rfl (Un 43) (seen_app seenG (seen_app (seen1 2 rfl ⟨[], trivial⟩) (seenM 11 rfl ⟨[], trivial⟩))) (dmac7_at (G := G) (X := ([(⟨r3, arr .u8 32 f, 23⟩ : Blk)] ++ oz1_2.toList)) (.slice (some ⟨r3, 0, none⟩) 32 32) v1_2 ((List.range 32).map f) (((List.range 32).map fB) ++ [3]) (Shows.mono (shows32 r3 f 23) (fun x h => List.mem_append_right _ (List.mem_append_left _ h))) (Shows.mono (own_bytes ho1_2) (fun x h => List.mem_append_right _ (List.mem_append_right _ h))) hfb (app_lt hfBb (by decide)) (by simp) (by simp)) rfl rfl ?_
  refine e_as (congrArg (fun f => Value.agg (arr .u8 32 f)) eC) ?_
  refine (QH 12) fun r13=>(Qt 12)<|Qn<|Qs<|Qp<|(Qd 4)<|(Qd 8)<|(Qd 12) ?_
  refine e_buildZ (arr .u8 96 (thr3 fA fB fC)) (Ub 53 rfl) (Uu 53 rfl) (Uz 23 rfl) rfl (fill_three fA fB fC) rfl ?_
  refine (Qt 1)<|Qn<|Qr ?_
  exact ⟨_, rfl, .cell (i := 1) rfl rfl (Uu 53) rfl (Uz 53) (arr_size _ _ _)⟩
set_option maxHeartbeats 4000000 in
theorem dtwo_fn (c : Nat → Nat) (v : Value) (s : List Nat) (hc : L8 32 c) (hv : Shows (DOR :: G) 1 v s.length (s.map by8)) (hb : ∀ b ∈ s, b < 256) (hs : s.length ≤ 1073741760) : Fn Tryd.prog (DOR :: G) 25 #[.agg (arr .u8 32 c), v] (.agg (arr .u8 64 (two2 (kA c s) (kB c s)))) := by
  have h3 := dthree_fn (G := G) c v s hc hv hb hs
  obtain ⟨fA, hA⟩ : ∃ x, x = kA c s := ⟨_, rfl⟩
  obtain ⟨fB, hB⟩ : ∃ x, x = kB c s := ⟨_, rfl⟩
  obtain ⟨fC, hC⟩ : ∃ x, x = kC c s := ⟨_, rfl⟩
  rw [← hA, ← hB, ← hC] at h3
  rw [← hA, ← hB]
  refine Qf1 Tryd.func25 ?_
  refine Qs<|Qp<|(Qh 0) fun r1=>(QH 1) fun r2=>Qn<|Qs<|Qp<|(Qd 0)<|(Qm) ?_
  refine e_call rfl (Un 31) h3 rfl rfl ?_
  refine (QH 2) fun r3=>(Qt 2)<|Qn<|Qs<|Qp<|(QA 0 0) ?_
  refine e_loadS (i := 2) (Uu 23) rfl (Uz 23) rfl rfl (by omega) rfl ⟨[], trivial⟩ ?_
  refine e_as (congrArg Value.agg (arr_congr (thr3_at0 fA fB fC))) ?_
  refine (QA 32 1) ?_
  refine e_loadS (i := 2) (Uu 23) rfl (Uz 23) rfl rfl (by omega) rfl ⟨[], trivial⟩ ?_
  refine e_as (congrArg Value.agg (arr_congr (thr3_at1 fA fB fC))) ?_
  refine e_buildZ (arr .u8 64 (two2 fA fB)) (Ub 50 rfl) (Uu 50 rfl) (Uz 23 rfl) rfl (fill_two fA fB) rfl ?_
  refine (Qt 1)<|Qn<|Qr ?_
  exact ⟨_, rfl, .cell (i := 1) rfl rfl (Uu 50) rfl (Uz 50) (arr_size _ _ _)⟩
end Go.Proofs.YtbjaenjgahjikaaDoor
namespace Go.Proofs.YtbjaenjgahjikaaDoor
open Go Go.RowKit
theorem dconcat2 {G : Mem} (r : Nat) (v1 v2 : Value) (a b : List Nat) (h1 : Shows G 1 v1 a.length (a.map by8)) (h2 : Shows G 1 v2 b.length (b.map by8)) (hr : (⟨r, [v1, v2].toArray, 33⟩ : Blk) ∈ G) (hm : a.length + b.length ≤ 1099511627776) :
    Fx Tryd.prog G [] 42 #[.slice (some ⟨r, 0, none⟩) 2 2] (fun v l1 nw => l1 = [] ∧ ∃ v', v = v' ∧ OwnS 5 1 v' (a ++ b).length ((a ++ b).map by8) nw) := by
  have h := concat_fn (G := G) (.slice (some ⟨r, 0, none⟩) 2 2) [v1, v2] [a, b] ((shows_new (r := r) (len := 2) (z := 1) [v1, v2].toArray 33 rfl).mono (fun x hx => by simp at hx; subst hx; exact hr)) (showsL_cons h1 (showsL_cons h2 (showsL_nil _))) (Nat.le_of_ble_eq_true rfl) (by simp; omega)
  have e : [a, b].flatten = a ++ b := by simp
  rw [e] at h
  exact h
theorem two_at0 (a b : Nat → Nat) : ∀ j, j < 32 → two2 a b (0 + j) = a j := fun j hj => by rw [Nat.zero_add, two2, if_pos hj]
theorem two_at1 (a b : Nat → Nat) : ∀ j, j < 32 → two2 a b (32 + j) = b j := fun j hj => by rw [two2, if_neg (by omega), Nat.add_sub_cancel_left]
theorem shows_thr1 (r : Nat) (a b c : Nat → Nat) (t : TypeId) : Shows [⟨r, arr .u8 96 (thr3 a b c), t⟩] 1 (.slice (some ⟨r, 32, none⟩) 32 32) ((List.range 32).map b).length (((List.range 32).map b).map by8) := by
  have h := arr_shows r 96 (thr3 a b c) t 32 32 32 (by decide) (by decide)
  have e : (List.range 32).map (fun j => thr3 a b c (32 + j)) = (List.range 32).map b := List.map_congr_left fun j hj => thr3_1 a b c j (List.mem_range.1 hj)
  rw [e] at h
  exact h
variable {G : Mem}
set_option maxHeartbeats 2000000 in
theorem dfn_short (l : List Nat) (hb : ∀ b ∈ l, b < 256) (h : ¬ 32 < l.length) : Fn Tryd.prog (DOR :: G) 24 #[sv l] (.agg (arr .u8 32 (sbeg l))) := by
  obtain ⟨g, hg⟩ : ∃ g, g = sbeg l := ⟨_, rfl⟩
  rw [← hg]
  refine Qf1 Tryd.func24 ?_
  refine Qs<|Qp<|(QH 0) fun r1=>Qn<|Qs<|Qp<|(QH 1) fun r2=>Qn<|Qs<|Qs<|Qp<|(Qm)<|(QU)<|(QG)<|(Qaf)<|Qn<|(Qcf)<|Qk<|Qs<|Qp ?_
  refine e_sliceA 0 32 (Uu 23) (Uz 5) rfl rfl rfl rfl rfl (by omega) (by omega) (by omega) rfl ?_
  refine (Qm) ?_
  refine e_copyStr (i := 1) (Uu 33) (Uz 5) rfl rfl hb rfl (by omega) rfl ?_
  refine Qn<|Qs<|Qp<|(Qd 1) ?_
  refine e_as (congrArg Value.agg (arr_congr (fun j hj => (key_pad l j hj).trans (show l.getD j 0 = g j by rw [hg, sbeg_short h])))) ?_
  refine (Qt 0)<|Qn<|Qr ?_
  exact ⟨_, rfl, .cell (i := 0) rfl rfl (Uu 23) rfl (Uz 23) (arr_size _ _ _)⟩
set_option maxHeartbeats 2000000 in
theorem dfn_long (l : List Nat) (hb : ∀ b ∈ l, b < 256) (h : 32 < l.length) (hz : l.length ≤ 1073741824) : Fn Tryd.prog (DOR :: G) 24 #[sv l] (.agg (arr .u8 32 (sbeg l))) := by
  obtain ⟨g, hg⟩ : ∃ g, g = sbeg l := ⟨_, rfl⟩
  rw [← hg]
  refine Qf1 Tryd.func24 ?_
  refine Qs<|Qp<|(QH 0) fun r1=>Qn<|Qs<|Qp<|(QH 1) fun r2=>Qn<|Qs<|Qs<|Qp<|(Qm)<|(QU)<|(QG)<|(Qat)<|Qn<|(Qct)<|Qs<|QR ⟨[], 1, [33], none⟩<|(Qm) ?_
  refine e_conv_own 2 (Uu 9) (Uu 33) (Uu 5) rfl hb (by simp only [maxLen]; omega) rfl rfl fun v2_1 oz2_1 ho2_1 => ?_
  refine e_callS rfl rfl (Un 37) (seen_app seenG (seenM 2 rfl ⟨[], trivial⟩)) (dsum7 (G := G) (X := oz2_1.toList) _ l (own_bytes ho2_1) hb hz) rfl rfl ?_
  refine e_as (congrArg (fun f => Value.agg (arr .u8 32 f)) (show bsum l = g by rw [hg, sbeg_long h])) ?_
  refine (Qt 0)<|Qn<|Qr ?_
  exact ⟨_, rfl, .cell (i := 0) rfl rfl (Uu 23) rfl (Uz 23) (arr_size _ _ _)⟩
set_option maxHeartbeats 2000000 in
theorem dbehind_fn (h : Nat → Nat) (v : Value) (l : List Nat) (hh : L8 32 h) (hv : Shows (DOR :: G) 1 v l.length (l.map by8)) (hb : ∀ b ∈ l, b < 256) (hz : l.length ≤ 1073741792) : Fn Tryd.prog (DOR :: G) 30 #[.agg (arr .u8 32 h), v] (.agg (arr .u8 32 (hx h l))) := by
  refine Qf1 Tryd.func30 ?_
  refine Qs<|Qp<|(Qh 0) fun r1=>(QH 1) fun r2=>Qn<|Qs<|QR ⟨[], 4, [], none⟩ ?_
  refine e_sliceA 0 32 (Uu 23) (Uz 5) rfl rfl rfl rfl rfl (by omega) (by omega) (by omega) rfl ?_
  refine (Qm) ?_
  refine e_buildSl 2 [(.slice (some ⟨r1, 0, none⟩) 32 32), v].toArray (Uu 88 rfl) (Uz 33 rfl) (Ub 33 rfl) (by decide) (by decide) rfl (fill_ones [(.slice (some ⟨r1, 0, none⟩) 32 32), v] 0 _ (by intro v hv; simp only [List.mem_cons, List.not_mem_nil, or_false] at hv; rcases hv with rfl | rfl; exact rfl; exact (shows_one hv)) (by simp)) rfl fun r3 => ?_
  refine e_callN 3 (fun v => v) rfl rfl (Un 42) (seen_app seenG (seen_app (seen1 0 rfl ⟨[], trivial⟩) (seen1 2 rfl ⟨[], trivial⟩))) (dconcat2 (G := ((DOR :: G) ++ ([(⟨r1, arr .u8 32 h, 23⟩ : Blk)] ++ [(⟨r3, [(.slice (some ⟨r1, 0, none⟩) 32 32), v].toArray, 33⟩ : Blk)]))) r3 (.slice (some ⟨r1, 0, none⟩) 32 32) v ((List.range 32).map h) l (Shows.mono (shows32 r1 h 23) (fun x h => (List.mem_append_right _ (List.mem_append_left _ h)))) (Shows.mono hv (fun x h => (List.mem_append_left _ h))) (List.mem_append_right _ (List.mem_append_right _ (List.mem_singleton.2 rfl))) (by simp; omega)) (by simp [maxLen]; omega) (by rw [List.length_map, Nat.mul_one]) rfl rfl fun v1_1 oz1_1 ho1_1 => ?_
  refine e_callS rfl rfl (Un 37) (seen_app seenG (seenM 3 rfl ⟨[], trivial⟩)) (dsum7 (G := G) (X := oz1_1.toList) v1_1 (((List.range 32).map h) ++ l) (own_bytes ho1_1) (apps_lt (range_lt hh) hb) (by simp; omega)) rfl rfl ?_
  refine (Qt 1)<|Qn<|Qr ?_
  exact ⟨_, rfl, .cell (i := 1) rfl rfl (Uu 23) rfl (Uz 23) (arr_size _ _ _)⟩
end Go.Proofs.YtbjaenjgahjikaaDoor
namespace Go.Proofs.YtbjaenjgahjikaaDoor
open Go Go.RowKit
theorem dfn_fn {G : Mem} (l : List Nat) (hb : ∀ b ∈ l, b < 256) (hz : l.length ≤ 1073741824) : Fn Tryd.prog (DOR :: G) 24 #[sv l] (.agg (arr .u8 32 (sbeg l))) := by
  by_cases h : 32 < l.length
  · exact dfn_long l hb h hz
  · exact dfn_short l hb h
variable {G : Mem}
set_option maxHeartbeats 2000000 in
theorem dbegin9_fn (l : List Nat) (hb : ∀ b ∈ l, b < 256) (hz : l.length ≤ 1073741824) : Fn Tryd.prog (DOR :: G) 7 #[sv l] (.agg (cells 98 [pV (.bool false), pI .u8 32 (fun _ => 0), pV (.int .u64 0), pI .u8 32 (sbeg l), pI .u8 32 (sbeg l)])) := by
  have hF := dfn_fn (G := G) l hb hz
  obtain ⟨g, hg⟩ : ∃ g, g = sbeg l := ⟨_, rfl⟩
  rw [← hg] at hF ⊢
  refine Qf1 Tryd.func7 ?_
  refine Qs<|Qp<|(QH 0) fun r1=>Qn<|Qs<|Qp<|(Qm) ?_
  refine e_call rfl (Un 24) hF rfl rfl ?_
  refine (QH 1) fun r2=>(Qt 1)<|Qn<|Qs<|Qp<|(Qd 1)<|(Qd 1) ?_
  refine e_buildS (cells 98 [pV (.bool false), pI .u8 32 (fun _ => 0), pV (.int .u64 0), pI .u8 32 g, pI .u8 32 g]) (Ub 28 rfl) (Uu 28 rfl) pls28 rfl (by kernel_rfl) rfl ?_
  refine e_storeA (i := 0) (Uz 28) rfl rfl (arrv_size _ _) (cells_one ⟨fun _ => rfl, fun _ => rfl, fun _ => rfl, fun _ => rfl, fun _ => rfl, trivial⟩) rfl cells_sz (.inl rfl) ?_
  refine Qn<|Qr ?_
  exact ⟨_, rfl, .cell (i := 0) rfl rfl (Uu 28) rfl (Uz 28) (arrv_size _ _)⟩
set_option maxHeartbeats 2000000 in
theorem dhash9_fn (has : Bool) (k : Nat → Nat) (n : Nat) (ch h : Nat → Nat) (v : Value) (l : List Nat) (hv : Shows (DOR :: G) 1 v l.length (l.map by8)) (hb : ∀ b ∈ l, b < 256) (hh : L8 32 h) (hz : l.length ≤ 1073741792) : Fn Tryd.prog (DOR :: G) 12 #[SV has k n ch h, v] (SV has k n ch (hx h l)) := by
  have hB := dbehind_fn (G := G) h v l hh hv hb hz
  obtain ⟨g, hg⟩ : ∃ g, g = hx h l := ⟨_, rfl⟩
  rw [← hg] at hB ⊢
  refine Qf1 Tryd.func12 ?_
  refine Qs<|Qp<|(Qh 0) fun r1=>(QH 1) fun r2=>Qn<|Qs<|Qp<|(Qf 66)<|(Qv 4 0)<|(Qm) ?_
  refine e_call rfl (Un 30) hB rfl rfl ?_
  refine (Qf 66) ?_
  refine e_stC (i := 0) 4 (Uz 23) rfl rfl rfl rfl (by decide) (.inl rfl) ?_
  refine Qn<|Qs<|Qp<|(QD 0) ?_
  refine e_as (show _ = SV has k n ch g from rfl) ?_
  refine e_storeA (i := 1) (Uz 28) rfl rfl (arrv_size _ _) (cells_one ⟨fun _ => rfl, fun _ => rfl, fun _ => rfl, fun _ => rfl, fun _ => rfl, trivial⟩) rfl cells_sz (.inl rfl) ?_
  refine Qn<|Qr ?_
  exact ⟨_, rfl, .cell (i := 1) rfl rfl (Uu 28) rfl (Uz 28) (arrv_size _ _)⟩
set_option maxHeartbeats 2000000 in
theorem dkey9_fn (has : Bool) (k : Nat → Nat) (n : Nat) (ch h : Nat → Nat) (v : Value) (l : List Nat) (hv : Shows (DOR :: G) 1 v l.length (l.map by8)) (hb : ∀ b ∈ l, b < 256) (hc : L8 32 ch) (hz : l.length ≤ 1073741760) : Fn Tryd.prog (DOR :: G) 11 #[SV has k n ch h, v] (SV true (kB ch l) 0 (kA ch l) h) := by
  have hT := dtwo_fn (G := G) ch v l hc hv hb hz
  obtain ⟨fa, hfa⟩ : ∃ fa, fa = kA ch l := ⟨_, rfl⟩
  obtain ⟨fb, hfb⟩ : ∃ fb, fb = kB ch l := ⟨_, rfl⟩
  rw [← hfa, ← hfb] at hT ⊢
  refine Qf1 Tryd.func11 ?_
  refine Qs<|Qp<|(Qh 0) fun r1=>(QH 1) fun r2=>Qn<|Qs<|Qp<|(Qf 34)<|(Qv 3 0)<|(Qm) ?_
  refine e_call rfl (Un 25) hT rfl rfl ?_
  refine (QH 2) fun r3=>(Qt 2)<|Qn<|Qs<|Qp<|(QA 0 0) ?_
  refine e_loadS (i := 2) (Uu 23) rfl (Uz 23) rfl rfl (by omega) rfl ⟨[], trivial⟩ ?_
  refine e_as (congrArg Value.agg (arr_congr (two_at0 fa fb))) ?_
  refine (Qf 34) ?_
  refine e_stC (i := 0) 3 (Uz 23) rfl rfl rfl rfl (by decide) (.inl rfl) ?_
  refine Qn<|Qs<|Qp<|(QA 32 1) ?_
  refine e_loadS (i := 2) (Uu 23) rfl (Uz 23) rfl rfl (by omega) rfl ⟨[], trivial⟩ ?_
  refine e_as (congrArg Value.agg (arr_congr (two_at1 fa fb))) ?_
  refine e_call rfl (Un 26) (dbeg8_fn fb) rfl rfl ?_
  refine (Qf 0) ?_
  refine e_stK (i := 0) 0 3 (Uz 26 rfl) rfl rfl ⟨fun _ => rfl, fun _ => rfl, fun _ => rfl, trivial⟩ rfl rfl rfl rfl (by decide) (.inl rfl) ?_
  refine Qn<|Qs<|Qp<|(QD 0) ?_
  refine e_as (show _ = SV true fb 0 fa h from rfl) ?_
  refine e_storeA (i := 1) (Uz 28) rfl rfl (arrv_size _ _) (cells_one ⟨fun _ => rfl, fun _ => rfl, fun _ => rfl, fun _ => rfl, fun _ => rfl, trivial⟩) rfl cells_sz (.inl rfl) ?_
  refine Qn<|Qr ?_
  exact ⟨_, rfl, .cell (i := 1) rfl rfl (Uu 28) rfl (Uz 28) (arrv_size _ _)⟩
set_option maxHeartbeats 2000000 in
theorem dsplit9_fn (has : Bool) (k : Nat → Nat) (n : Nat) (ch h : Nat → Nat) (hc : L8 32 ch) : Fn Tryd.prog (DOR :: G) 8 #[SV has k n ch h] (.agg (cells 68 [pV (.bool true), pI .u8 32 (kA ch []), pV (u 0), pV (.bool true), pI .u8 32 (kB ch []), pV (u 0)])) := by
  have hT := dtwo_fn (G := G) ch nilS [] hc (shows_nil _ 1) (by simp) (by decide)
  obtain ⟨fa, hfa⟩ : ∃ fa, fa = kA ch [] := ⟨_, rfl⟩
  obtain ⟨fb, hfb⟩ : ∃ fb, fb = kB ch [] := ⟨_, rfl⟩
  rw [← hfa, ← hfb] at hT ⊢
  refine Qf1 Tryd.func8 ?_
  refine Qs<|Qp<|(Qh 0) fun r1=>(QH 1) fun r2=>Qn<|Qs<|Qp<|(Qf 34)<|(Qv 3 0) ?_
  refine e_call rfl (Un 25) hT rfl rfl ?_
  refine (QH 2) fun r3=>(Qt 2)<|Qn<|Qs<|(Qg)<|(QA 0 0) ?_
  refine e_loadS (i := 2) (Uu 23) rfl (Uz 23) rfl rfl (by omega) rfl ⟨[], trivial⟩ ?_
  refine e_as (congrArg Value.agg (arr_congr (two_at0 fa fb))) ?_
  refine e_call rfl (Un 26) (dbeg8_fn fa) rfl rfl ?_
  refine (QA 32 1) ?_
  refine e_loadS (i := 2) (Uu 23) rfl (Uz 23) rfl rfl (by omega) rfl ⟨[], trivial⟩ ?_
  refine e_as (congrArg Value.agg (arr_congr (two_at1 fa fb))) ?_
  refine e_call rfl (Un 26) (dbeg8_fn fb) rfl rfl ?_
  refine e_buildZ (cells 68 [pV (.bool true), pI .u8 32 fa, pV (u 0), pV (.bool true), pI .u8 32 fb, pV (u 0)]) (Ub 30 rfl) (Uu 30 rfl) (Uz 26 rfl) rfl (by kernel_rfl) rfl ?_
  refine e_storeA (i := 1) (Uz 30) rfl rfl (arrv_size _ _) (cells_one ⟨fun _ => rfl, fun _ => rfl, fun _ => rfl, fun _ => rfl, fun _ => rfl, fun _ => rfl, trivial⟩) rfl cells_sz (.inl rfl) ?_
  refine Qn<|Qr ?_
  exact ⟨_, rfl, .cell (i := 1) rfl rfl (Uu 30) rfl (Uz 30) (arrv_size _ _)⟩
end Go.Proofs.YtbjaenjgahjikaaDoor
namespace Go.Proofs.YtbjaenjgahjikaaDoor
open Go Go.RowKit
theorem dhash9_at {G X : Mem} (has : Bool) (k : Nat → Nat) (n : Nat) (ch h : Nat → Nat) (v : Value) (l : List Nat) (hv : Shows ((DOR :: G) ++ X) 1 v l.length (l.map by8)) (hb : ∀ b ∈ l, b < 256) (hh : ∀ j, j < 32 → h j < 256) (hz : l.length ≤ 1073741792) : Fn Tryd.prog ((DOR :: G) ++ X) 12 #[SV has k n ch h, v] (SV has k n ch (hx h l)) := dhash9_fn (G := G ++ X) has k n ch h v l hv hb hh hz
variable {G : Mem}
set_option maxHeartbeats 2000000 in
theorem dboth9_fn (has : Bool) (k : Nat → Nat) (n : Nat) (ch h : Nat → Nat) (v : Value) (l : List Nat) (hv : Shows (DOR :: G) 1 v l.length (l.map by8)) (hb : ∀ b ∈ l, b < 256) (hc : L8 32 ch) (hh : L8 32 h) (hz : l.length ≤ 1073741760) : Fn Tryd.prog (DOR :: G) 13 #[SV has k n ch h, v] (SV true (kC ch l) 0 (kA ch l) (hx h ((List.range 32).map (kB ch l)))) := by
  have hT := dthree_fn (G := G) ch v l hc hv hb hz
  obtain ⟨fa, hfa⟩ : ∃ fa, fa = kA ch l := ⟨_, rfl⟩
  obtain ⟨fb, hfb⟩ : ∃ fb, fb = kB ch l := ⟨_, rfl⟩
  obtain ⟨fc, hfc⟩ : ∃ fc, fc = kC ch l := ⟨_, rfl⟩
  have hfb2 : ∀ j, j < 32 → fb j < 256 := fun j _ => by rw [hfb]; exact mac_lt _ _ _
  obtain ⟨g, hg⟩ : ∃ g, g = hx h ((List.range 32).map (kB ch l)) := ⟨_, rfl⟩
  rw [← hfa, ← hfc, ← hg]
  rw [← hfa, ← hfb, ← hfc] at hT
  refine Qf1 Tryd.func13 ?_
  refine Qs<|Qp<|(Qh 0) fun r1=>(QH 1) fun r2=>Qn<|Qs<|Qp<|(Qf 34)<|(Qv 3 0)<|(Qm) ?_
  refine e_call rfl (Un 31) hT rfl rfl ?_
  refine (QH 2) fun r3=>(Qt 2)<|Qn<|Qs<|Qp<|(QA 0 0) ?_
  refine e_loadS (i := 2) (Uu 23) rfl (Uz 23) rfl rfl (by omega) rfl ⟨[], trivial⟩ ?_
  refine e_as (congrArg Value.agg (arr_congr (thr3_0 fa fb fc))) ?_
  refine (Qf 34) ?_
  refine e_stC (i := 0) 3 (Uz 23) rfl rfl rfl rfl (by decide) (.inl rfl) ?_
  refine Qn<|Qs<|(Qg)<|(QD 0) ?_
  refine e_as (show _ = SV has k n fa h from rfl) ?_
  refine (QA 32 1) ?_
  refine e_sliceA 0 32 (Uu 23) (Uz 5) rfl rfl rfl rfl rfl (by omega) (by omega) (by omega) rfl ?_
  refine e_callS rfl rfl (Un 12) (seen_app seenG (seen1 2 rfl ⟨[], trivial⟩)) (dhash9_at (G := G) (X := [(⟨r3, arr .u8 96 (thr3 fa fb fc), 53⟩ : Blk)]) has k n fa h _ ((List.range 32).map fb) (Shows.mono (shows_thr1 _ fa fb fc _) (fun x h => List.mem_append_right _ h)) (range_lt hfb2) hh (by simp)) rfl rfl ?_
  refine e_as (congrArg (fun f => SV has k n fa f) (show hx h ((List.range 32).map fb) = g by rw [hg, hfb])) ?_
  refine e_storeA (i := 0) (Uz 28) rfl rfl (arrv_size _ _) (cells_one ⟨fun _ => rfl, fun _ => rfl, fun _ => rfl, fun _ => rfl, fun _ => rfl, trivial⟩) rfl cells_sz (.inl rfl) ?_
  refine Qn<|Qs<|Qp<|(QA 64 2) ?_
  refine e_loadS (i := 2) (Uu 23) rfl (Uz 23) rfl rfl (by omega) rfl ⟨[], trivial⟩ ?_
  refine e_as (congrArg Value.agg (arr_congr (thr3_2 fa fb fc))) ?_
  refine e_call rfl (Un 26) (dbeg8_fn fc) rfl rfl ?_
  refine (Qf 0) ?_
  refine e_stK (i := 0) 0 3 (Uz 26 rfl) rfl rfl ⟨fun _ => rfl, fun _ => rfl, fun _ => rfl, trivial⟩ rfl rfl rfl rfl (by decide) (.inl rfl) ?_
  refine Qn<|Qs<|Qp<|(QD 0) ?_
  refine e_as (show _ = SV true fc 0 fa g from rfl) ?_
  refine e_storeA (i := 1) (Uz 28) rfl rfl (arrv_size _ _) (cells_one ⟨fun _ => rfl, fun _ => rfl, fun _ => rfl, fun _ => rfl, fun _ => rfl, trivial⟩) rfl cells_sz (.inl rfl) ?_
  refine Qn<|Qr ?_
  exact ⟨_, rfl, .cell (i := 1) rfl rfl (Uu 28) rfl (Uz 28) (arrv_size _ _)⟩
set_option maxHeartbeats 2000000 in
theorem dtold_fn (has : Bool) (k : Nat → Nat) (n : Nat) (ch h : Nat → Nat) (h2 : Bool) (k2 : Nat → Nat) (n2 : Nat) (v : Value) (l : List Nat) (hv : Shows (DOR :: G) 1 v l.length (l.map by8)) (hb : ∀ b ∈ l, b < 256) (hh : L8 32 h) (hz : l.length ≤ 1073741792) : Fn Tryd.prog (DOR :: G) 34 #[SV has k n ch h, CV h2 k2 n2, v] (SV h2 k2 n2 ch (hx h l)) := by
  refine Qf1 Tryd.func34 ?_
  refine Qs<|Qp<|(Qh 0) fun r1=>(Qh 1) fun r2=>(QH 2) fun r3=>Qn<|Qs<|Qp<|(QD 1) ?_
  refine e_as (show _ = CV h2 k2 n2 from rfl) ?_
  refine (Qf 0) ?_
  refine e_stK (i := 0) 0 3 (Uz 26 rfl) rfl rfl ⟨fun _ => rfl, fun _ => rfl, fun _ => rfl, trivial⟩ rfl rfl rfl rfl (by decide) (.inl rfl) ?_
  refine Qn<|Qs<|Qp<|(QD 0) ?_
  refine e_as (show _ = SV h2 k2 n2 ch h from rfl) ?_
  refine (Qm) ?_
  refine e_call rfl (Un 12) (dhash9_fn h2 k2 n2 ch h v l hv hb hh hz) rfl rfl ?_
  refine e_storeA (i := 2) (Uz 28) rfl rfl (arrv_size _ _) (cells_one ⟨fun _ => rfl, fun _ => rfl, fun _ => rfl, fun _ => rfl, fun _ => rfl, trivial⟩) rfl cells_sz (.inl rfl) ?_
  refine Qn<|Qr ?_
  exact ⟨_, rfl, .cell (i := 2) rfl rfl (Uu 28) rfl (Uz 28) (arrv_size _ _)⟩
end Go.Proofs.YtbjaenjgahjikaaDoor
namespace Go.Proofs.YtbjaenjgahjikaaDoor
open Go Go.RowKit
theorem dtold_at {G X : Mem} (has : Bool) (k : Nat → Nat) (n : Nat) (ch h : Nat → Nat) (h2 : Bool) (k2 : Nat → Nat) (n2 : Nat) (v : Value) (l : List Nat) (hv : Shows ((DOR :: G) ++ X) 1 v l.length (l.map by8)) (hb : ∀ b ∈ l, b < 256) (hh : ∀ j, j < 32 → h j < 256) (hz : l.length ≤ 1073741792) : Fn Tryd.prog ((DOR :: G) ++ X) 34 #[SV has k n ch h, CV h2 k2 n2, v] (SV h2 k2 n2 ch (hx h l)) := dtold_fn (G := G ++ X) has k n ch h h2 k2 n2 v l hv hb hh hz
variable {G : Mem}
set_option maxHeartbeats 2000000 in
theorem dsSeal_err (has : Bool) (k : Nat → Nat) (n : Nat) (ch h : Nat → Nat) (vt : Value) (tx : List Nat) (hvt : Shows (DOR :: G) 1 vt tx.length (tx.map by8)) (e : Nat) (he : e ≠ 0) (hE : ∀ (G2 : Mem) (va : Value), Shows G2 1 va ((List.range 32).map h).length (((List.range 32).map h).map by8) → Sh G2 vt tx → Fn Tryd.prog G2 33 #[CV has k n, va, vt] (.tuple #[CZ, nilS, ii e])) : Fn Tryd.prog (DOR :: G) 17 #[SV has k n ch h, vt] (.tuple #[(.agg (cells 98 [pV (.bool false), pI .u8 32 (fun _ => 0), pV (.int .u64 0), pI .u8 32 (fun _ => 0), pI .u8 32 (fun _ => 0)])), nilS, ii e]) := by
  refine Qf3 Tryd.func17 ?_
  refine Qs<|Qp<|(Qh 0) fun r1=>(QH 1) fun r2=>(Qa)<|(Qa)<|Qn<|Qs<|(Qg)<|(Qf 0) ?_
  refine e_ldK (i := 0) 0 3 (Uu 26 rfl) rfl (Uz 26 rfl) rfl rfl rfl rfl (by decide) rfl ⟨[], trivial⟩ ?_
  refine e_as (show _ = CV has k n from rfl) ?_
  refine (Qf 66) ?_
  refine e_sliceA 0 32 (Uu 23) (Uz 5) rfl rfl rfl rfl rfl (by omega) (by omega) (by omega) rfl ?_
  refine (Qm) ?_
  refine e_callS rfl rfl (Un 33) (seen_app (seen1 0 rfl ⟨[], trivial⟩) seenG) (hE ([⟨r1, cS has k n ch h, 28⟩] ++ (DOR :: G)) _ ((cells_shows r1 4 28 h rfl (Nat.le_of_ble_eq_true rfl) (Nat.le_of_ble_eq_true rfl)).mono (fun x h => List.mem_append_left _ h)) (hvt.mono (fun x h => List.mem_append_right _ h))) rfl rfl ?_
  refine (Qm)<|(Qx)<|(Qx)<|(Qx)<|(QH 2) fun r3=>?_
  refine e_storeA (i := 2) (Uz 26) rfl rfl (arrv_size _ _) (cells_one ⟨fun _ => rfl, fun _ => rfl, fun _ => rfl, trivial⟩) rfl cells_sz (.inl rfl) ?_
  refine (Qa)<|(Qa)<|Qn<|Qs<|Qs<|Qp<|(Qm)<|(QN)<|(Qat)<|Qn ?_
  refine e_cond rfl ?_ ?_
  · intro hc0
    refine Qs<|Qp ?_
    refine e_buildS (cells 98 [pV (.bool false), pI .u8 32 (fun _ => 0), pV (.int .u64 0), pI .u8 32 (fun _ => 0), pI .u8 32 (fun _ => 0)]) (Ub 28 rfl) (Uu 28 rfl) pls28 rfl (by kernel_rfl) rfl ?_
    refine (Qm) ?_
    refine e_storeA (i := 1) (Uz 28) rfl rfl (arrv_size _ _) (cells_one ⟨fun _ => rfl, fun _ => rfl, fun _ => rfl, fun _ => rfl, fun _ => rfl, trivial⟩) rfl cells_sz (.inl rfl) ?_
    refine (Qa)<|(Qa)<|Qn<|Qr ?_
    exact ⟨_, _, _, rfl, .cell (i := 1) rfl rfl (Uu 28) rfl (Uz 28) (arrv_size _ _), .tmp rfl, .tmp rfl⟩
  · intro hc0
    exact absurd hc0 (by decide)
set_option maxHeartbeats 2000000 in
theorem dsSeal_ok (has : Bool) (k : Nat → Nat) (n : Nat) (ch h : Nat → Nat) (vt : Value) (tx out : List Nat) (hvt : Shows (DOR :: G) 1 vt tx.length (tx.map by8)) (hob : (∀ b ∈ out, b < 256)) (hol : out.length ≤ 1000) (hh : L8 32 h) (h2 : Bool) (k2 : Nat → Nat) (n2 : Nat) (hE : ∀ (G2 : Mem) (va : Value), Shows G2 1 va ((List.range 32).map h).length (((List.range 32).map h).map by8) → Sh G2 vt tx → Fx Tryd.prog G2 [] 33 #[CV has k n, va, vt] (fun v l1 nw => l1 = [] ∧ ∃ v', v = .tuple #[CV h2 k2 n2, v', ii 0] ∧ OwnS 5 1 v' out.length (out.map by8) nw)) : Fx Tryd.prog (DOR :: G) [] 17 #[SV has k n ch h, vt] (fun v l1 nw => l1 = [] ∧ ∃ v', v = .tuple #[SV h2 k2 n2 ch (hx h out), v', ii 0] ∧ OwnS 5 1 v' out.length (out.map by8) nw) := by
  refine QfO Tryd.func17 ?_
  refine Qs<|Qp<|(Qh 0) fun r1=>(QH 1) fun r2=>(Qa)<|(Qa)<|Qn<|Qs<|(Qq ⟨[], 4, [], none⟩)<|(Qf 0) ?_
  refine e_ldK (i := 0) 0 3 (Uu 26 rfl) rfl (Uz 26 rfl) rfl rfl rfl rfl (by decide) rfl ⟨[], trivial⟩ ?_
  refine e_as (show _ = CV has k n from rfl) ?_
  refine (Qf 66) ?_
  refine e_sliceA 0 32 (Uu 23) (Uz 5) rfl rfl rfl rfl rfl (by omega) (by omega) (by omega) rfl ?_
  refine (Qm) ?_
  refine e_callN 2 (fun v => .tuple #[CV h2 k2 n2, v, ii 0]) rfl rfl (Un 33) (seen_app (seen1 0 rfl ⟨[], trivial⟩) seenG) (hE ([⟨r1, cS has k n ch h, 28⟩] ++ (DOR :: G)) _ ((cells_shows r1 4 28 h rfl (Nat.le_of_ble_eq_true rfl) (Nat.le_of_ble_eq_true rfl)).mono (fun x h => List.mem_append_left _ h)) (hvt.mono (fun x h => List.mem_append_right _ h))) (by simp only [maxLen]; omega) (by rw [List.length_map, Nat.mul_one]) rfl rfl fun v1_1 oz1_1 ho1_1 => ?_
  refine (Qm)<|(Qx)<|(Qx)<|(Qx)<|(QH 3) fun r4=>?_
  refine e_storeA (i := 3) (Uz 26) rfl rfl (arrv_size _ _) (cells_one ⟨fun _ => rfl, fun _ => rfl, fun _ => rfl, trivial⟩) rfl cells_sz (.inl rfl) ?_
  refine (Qa)<|(Qa)<|Qn<|Qs<|Qs<|Qp<|(Qm)<|(QN) ?_
  refine e_as (congrArg Value.bool (decide_eq_false (fun h => h rfl))) ?_
  refine Qn ?_
  refine e_cond rfl ?_ ?_
  · intro hc0
    exact absurd hc0 (by decide)
  · intro hc0
    refine Qk<|Qs<|Qp<|(QD 0) ?_
    refine e_as (show _ = SV has k n ch h from rfl) ?_
    refine (QD 3) ?_
    refine e_as (show _ = CV h2 k2 n2 from rfl) ?_
    refine (Qm) ?_
    refine e_callS rfl rfl (Un 34) (seen_app seenG (seenM 2 rfl ⟨[], trivial⟩)) (dtold_at (G := G) (X := oz1_1.toList) has k n ch h h2 k2 n2 _ out (Shows.mono (own_bytes ho1_1) (fun x h => List.mem_append_right _ h)) hob hh (by omega)) rfl rfl ?_
    refine (Qm) ?_
    refine e_storeA (i := 1) (Uz 28) rfl rfl (arrv_size _ _) (cells_one ⟨fun _ => rfl, fun _ => rfl, fun _ => rfl, fun _ => rfl, fun _ => rfl, trivial⟩) rfl cells_sz (.inl rfl) ?_
    refine (Qa)<|(Qa)<|Qn<|Qr ?_
    exact ⟨_, _, _, _, _, 2, rfl, .cell (i := 1) rfl rfl (Uu 28) rfl (Uz 28) (arrv_size _ _), .tmp rfl, .tmp rfl, ho1_1, rfl⟩
set_option maxHeartbeats 2000000 in
theorem dsOpen_err (has : Bool) (k : Nat → Nat) (n : Nat) (ch h : Nat → Nat) (vt : Value) (tx : List Nat) (hvt : Shows (DOR :: G) 1 vt tx.length (tx.map by8)) (e : Nat) (he : e ≠ 0) (hE : ∀ (G2 : Mem) (va : Value), Shows G2 1 va ((List.range 32).map h).length (((List.range 32).map h).map by8) → Sh G2 vt tx → Fn Tryd.prog G2 35 #[CV has k n, va, vt] (.tuple #[CZ, nilS, ii e])) : Fn Tryd.prog (DOR :: G) 18 #[SV has k n ch h, vt] (.tuple #[(.agg (cells 98 [pV (.bool false), pI .u8 32 (fun _ => 0), pV (.int .u64 0), pI .u8 32 (fun _ => 0), pI .u8 32 (fun _ => 0)])), nilS, ii e]) := by
  refine Qf3 Tryd.func18 ?_
  refine Qs<|Qp<|(Qh 0) fun r1=>(QH 1) fun r2=>(Qa)<|(Qa)<|Qn<|Qs<|(Qg)<|(Qf 0) ?_
  refine e_ldK (i := 0) 0 3 (Uu 26 rfl) rfl (Uz 26 rfl) rfl rfl rfl rfl (by decide) rfl ⟨[], trivial⟩ ?_
  refine e_as (show _ = CV has k n from rfl) ?_
  refine (Qf 66) ?_
  refine e_sliceA 0 32 (Uu 23) (Uz 5) rfl rfl rfl rfl rfl (by omega) (by omega) (by omega) rfl ?_
  refine (Qm) ?_
  refine e_callS rfl rfl (Un 35) (seen_app (seen1 0 rfl ⟨[], trivial⟩) seenG) (hE ([⟨r1, cS has k n ch h, 28⟩] ++ (DOR :: G)) _ ((cells_shows r1 4 28 h rfl (Nat.le_of_ble_eq_true rfl) (Nat.le_of_ble_eq_true rfl)).mono (fun x h => List.mem_append_left _ h)) (hvt.mono (fun x h => List.mem_append_right _ h))) rfl rfl ?_
  refine (Qm)<|(Qx)<|(Qx)<|(Qx)<|(QH 2) fun r3=>?_
  refine e_storeA (i := 2) (Uz 26) rfl rfl (arrv_size _ _) (cells_one ⟨fun _ => rfl, fun _ => rfl, fun _ => rfl, trivial⟩) rfl cells_sz (.inl rfl) ?_
  refine (Qa)<|(Qa)<|Qn<|Qs<|Qs<|Qp<|(Qm)<|(QN)<|(Qat)<|Qn ?_
  refine e_cond rfl ?_ ?_
  · intro hc0
    refine Qs<|Qp ?_
    refine e_buildS (cells 98 [pV (.bool false), pI .u8 32 (fun _ => 0), pV (.int .u64 0), pI .u8 32 (fun _ => 0), pI .u8 32 (fun _ => 0)]) (Ub 28 rfl) (Uu 28 rfl) pls28 rfl (by kernel_rfl) rfl ?_
    refine (Qm) ?_
    refine e_storeA (i := 1) (Uz 28) rfl rfl (arrv_size _ _) (cells_one ⟨fun _ => rfl, fun _ => rfl, fun _ => rfl, fun _ => rfl, fun _ => rfl, trivial⟩) rfl cells_sz (.inl rfl) ?_
    refine (Qa)<|(Qa)<|Qn<|Qr ?_
    exact ⟨_, _, _, rfl, .cell (i := 1) rfl rfl (Uu 28) rfl (Uz 28) (arrv_size _ _), .tmp rfl, .tmp rfl⟩
  · intro hc0
    exact absurd hc0 (by decide)
set_option maxHeartbeats 2000000 in
theorem dsOpen_ok (has : Bool) (k : Nat → Nat) (n : Nat) (ch h : Nat → Nat) (vt : Value) (tx out : List Nat) (hvt : Shows (DOR :: G) 1 vt tx.length (tx.map by8)) (htb : (∀ b ∈ tx, b < 256)) (htl : tx.length ≤ 1000) (hol : out.length ≤ 1000) (hh : L8 32 h) (h2 : Bool) (k2 : Nat → Nat) (n2 : Nat) (hE : ∀ (G2 : Mem) (va : Value), Shows G2 1 va ((List.range 32).map h).length (((List.range 32).map h).map by8) → Sh G2 vt tx → Fx Tryd.prog G2 [] 35 #[CV has k n, va, vt] (fun v l1 nw => l1 = [] ∧ ∃ v', v = .tuple #[CV h2 k2 n2, v', ii 0] ∧ OwnS 5 1 v' out.length (out.map by8) nw)) : Fx Tryd.prog (DOR :: G) [] 18 #[SV has k n ch h, vt] (fun v l1 nw => l1 = [] ∧ ∃ v', v = .tuple #[SV h2 k2 n2 ch (hx h tx), v', ii 0] ∧ OwnS 5 1 v' out.length (out.map by8) nw) := by
  refine QfO Tryd.func18 ?_
  refine Qs<|Qp<|(Qh 0) fun r1=>(QH 1) fun r2=>(Qa)<|(Qa)<|Qn<|Qs<|(Qq ⟨[], 4, [], none⟩)<|(Qf 0) ?_
  refine e_ldK (i := 0) 0 3 (Uu 26 rfl) rfl (Uz 26 rfl) rfl rfl rfl rfl (by decide) rfl ⟨[], trivial⟩ ?_
  refine e_as (show _ = CV has k n from rfl) ?_
  refine (Qf 66) ?_
  refine e_sliceA 0 32 (Uu 23) (Uz 5) rfl rfl rfl rfl rfl (by omega) (by omega) (by omega) rfl ?_
  refine (Qm) ?_
  refine e_callN 2 (fun v => .tuple #[CV h2 k2 n2, v, ii 0]) rfl rfl (Un 35) (seen_app (seen1 0 rfl ⟨[], trivial⟩) seenG) (hE ([⟨r1, cS has k n ch h, 28⟩] ++ (DOR :: G)) _ ((cells_shows r1 4 28 h rfl (Nat.le_of_ble_eq_true rfl) (Nat.le_of_ble_eq_true rfl)).mono (fun x h => List.mem_append_left _ h)) (hvt.mono (fun x h => List.mem_append_right _ h))) (by simp only [maxLen]; omega) (by rw [List.length_map, Nat.mul_one]) rfl rfl fun v1_1 oz1_1 ho1_1 => ?_
  refine (Qm)<|(Qx)<|(Qx)<|(Qx)<|(QH 3) fun r4=>?_
  refine e_storeA (i := 3) (Uz 26) rfl rfl (arrv_size _ _) (cells_one ⟨fun _ => rfl, fun _ => rfl, fun _ => rfl, trivial⟩) rfl cells_sz (.inl rfl) ?_
  refine (Qa)<|(Qa)<|Qn<|Qs<|Qs<|Qp<|(Qm)<|(QN) ?_
  refine e_as (congrArg Value.bool (decide_eq_false (fun h => h rfl))) ?_
  refine Qn ?_
  refine e_cond rfl ?_ ?_
  · intro hc0
    exact absurd hc0 (by decide)
  · intro hc0
    refine Qk<|Qs<|Qp<|(QD 0) ?_
    refine e_as (show _ = SV has k n ch h from rfl) ?_
    refine (QD 3) ?_
    refine e_as (show _ = CV h2 k2 n2 from rfl) ?_
    refine (Qm) ?_
    refine e_call rfl (Un 34) (dtold_fn has k n ch h h2 k2 n2 vt tx hvt htb hh (by omega)) rfl rfl ?_
    refine (Qm) ?_
    refine e_storeA (i := 1) (Uz 28) rfl rfl (arrv_size _ _) (cells_one ⟨fun _ => rfl, fun _ => rfl, fun _ => rfl, fun _ => rfl, fun _ => rfl, trivial⟩) rfl cells_sz (.inl rfl) ?_
    refine (Qa)<|(Qa)<|Qn<|Qr ?_
    exact ⟨_, _, _, _, _, 2, rfl, .cell (i := 1) rfl rfl (Uu 28) rfl (Uz 28) (arrv_size _ _), .tmp rfl, .tmp rfl, ho1_1, rfl⟩
end Go.Proofs.YtbjaenjgahjikaaDoor
namespace Go.Proofs.YtbjaenjgahjikaaDoor
open Go Go.RowKit
variable {G : Mem}
set_option maxHeartbeats 400000 in
theorem sealed_big2 (k nn : Nat → Nat) (va vt : Value) (ad tx : List Nat) (hva : Sh G va ad) (hvt : Sh G vt tx) (h : ad.length ≤ 200) (h2 : 800 < tx.length) : Fn Tryd.prog G 51 #[.agg (arr .u8 32 k), .agg (arr .u8 12 nn), va, vt] (.tuple #[nilS, ii 1]) := by
  refine Qf2 Tryd.func51 ?_
  refine Qs<|Qp<|(Qh 0) fun r1=>(Qh 1) fun r2=>(Qa)<|(Qa)<|Qn<|Qs<|Qs<|Qp<|(Qm)<|(QC hva)<|(QG)<|(Qaf)<|(Qm)<|(Qy)<|(Qm)<|(Qy)<|(QC hvt)<|(Qy)<|(QG)<|(Qat)<|(QF)<|Qn<|(Qct)<|Qs<|Qp<|(Qa)<|(Qa)<|Qn<|Qr ?_
  exact ⟨_, _, rfl, .tmp rfl, .tmp rfl⟩
set_option maxHeartbeats 2000000 in
theorem sealed_ok (k nn : Nat → Nat) (va vt : Value) (ad tx : List Nat) (hk : L8 32 k) (hn : L8 12 nn) (hva : Sh G va ad) (hvt : Sh G vt tx) (hab : (∀ b ∈ ad, b < 256)) (h : ad.length ≤ 200) (h2 : tx.length ≤ 800) : Fx Tryd.prog G [] 51 #[.agg (arr .u8 32 k), .agg (arr .u8 12 nn), va, vt] (fun v l1 nw => l1 = [] ∧ ∃ v', v = .tuple #[v', ii 0] ∧ OwnS 5 1 v' (sealL k nn ad tx).length ((sealL k nn ad tx).map by8) nw) := by
  have hsl := strl_len k 1 nn tx 0
  have hse := sealL_len k nn ad tx
  refine QfM Tryd.func51 ?_
  refine Qs<|Qp<|(Qh 0) fun r1=>(Qh 1) fun r2=>(Qa)<|(Qa)<|Qn<|Qs<|Qs<|Qp<|(Qm)<|(QC hva)<|(QG)<|(Qaf)<|(Qm)<|(Qy)<|(Qm)<|(Qy)<|(QC hvt)<|(Qy)<|(QG)<|(Qaf)<|(QF)<|Qn<|(Qcf)<|Qk<|Qs<|QR ⟨[], 4, [], none⟩<|(Qd 0)<|(Qd 1)<|(Qm) ?_
  refine e_callN 2 (fun v => .tuple #[v, ii 0]) rfl rfl (Un 69) seenG (streamed_ok k 1 nn vt tx hvt hk hn (by decide) (by omega) (by omega)) (by simp only [maxLen]; omega) (by rw [List.length_map, strl_len, Nat.mul_one]) rfl rfl fun v2_1 oz2_1 ho2_1 => ?_
  refine (Qm)<|(Qx)<|(Qx)<|(Qa)<|(Qa)<|Qn<|Qs<|(Qq ⟨[], 1, [33], none⟩)<|(Qm) ?_
  refine e_conv_strV (l := (strl k 1 nn tx 0)) (own_bytes ho2_1) (seenM 2 rfl ⟨[], trivial⟩) (Uu 33) (Uu 5) (Uu 9) rfl rfl rfl ?_
  refine (Qd 0)<|(Qd 1)<|(Qm) ?_
  refine e_conv_strV (l := ad) hva seenG (Uu 33) (Uu 5) (Uu 9) rfl rfl rfl ?_
  refine (Qm) ?_
  refine e_conv_strV (l := (strl k 1 nn tx 0)) (own_bytes ho2_1) (seenM 2 rfl ⟨[], trivial⟩) (Uu 33) (Uu 5) (Uu 9) rfl rfl rfl ?_
  refine e_call rfl (Un 68) (tagOf_fn k nn ad (strl k 1 nn tx 0) hk hn hab (strl_lt _ _ _ _ _) (by omega) (by omega)) rfl rfl ?_
  refine e_catS rfl rfl rfl (by rw [tagl_len]; omega) ?_
  refine e_as (show _ = sv (sealL k nn ad tx) from rfl) ?_
  refine e_conv_own 3 (Uu 9) (Uu 33) (Uu 5) rfl (sealL_lt k nn ad tx) (by simp only [maxLen]; omega) rfl rfl fun v2_2 oz2_2 ho2_2 => ?_
  refine (Qa)<|(Qa)<|Qn<|Qr ?_
  exact ⟨_, _, _, _, 3, rfl, .tmp rfl, .tmp rfl, ho2_2, rfl⟩
set_option maxHeartbeats 400000 in
theorem unsealed_big2 (k nn : Nat → Nat) (va vt : Value) (ad tx : List Nat) (hva : Sh G va ad) (hvt : Sh G vt tx) (h : ad.length ≤ 200) (h2 : 816 < tx.length) : Fn Tryd.prog G 49 #[.agg (arr .u8 32 k), .agg (arr .u8 12 nn), va, vt] (.tuple #[nilS, ii 1]) := by
  refine Qf2 Tryd.func49 ?_
  refine Qs<|Qp<|(Qh 0) fun r1=>(Qh 1) fun r2=>(Qa)<|(Qa)<|Qn<|Qs<|Qs<|Qp<|(Qm)<|(QC hva)<|(QG)<|(Qaf)<|(Qm)<|(Qy)<|(Qm)<|(Qy)<|(QC hvt)<|(Qy)<|(QG)<|(Qat)<|(QF)<|Qn<|(Qct)<|Qs<|Qp<|(Qa)<|(Qa)<|Qn<|Qr ?_
  exact ⟨_, _, rfl, .tmp rfl, .tmp rfl⟩
set_option maxHeartbeats 400000 in
theorem unsealed_short (k nn : Nat → Nat) (va vt : Value) (ad tx : List Nat) (hva : Sh G va ad) (hvt : Sh G vt tx) (h : ad.length ≤ 200) (h2 : tx.length < 16) : Fn Tryd.prog G 49 #[.agg (arr .u8 32 k), .agg (arr .u8 12 nn), va, vt] (.tuple #[nilS, ii 4]) := by
  refine Qf2 Tryd.func49 ?_
  refine Qs<|Qp<|(Qh 0) fun r1=>(Qh 1) fun r2=>(Qa)<|(Qa)<|Qn<|Qs<|Qs<|Qp<|(Qm)<|(QC hva)<|(QG)<|(Qaf)<|(Qm)<|(Qy)<|(Qm)<|(Qy)<|(QC hvt)<|(Qy)<|(QG)<|(Qaf)<|(QF)<|Qn<|(Qcf)<|Qk<|Qs<|Qs<|Qp<|(Qm)<|(QC hvt)<|(Ql)<|(Qat)<|Qn<|(Qct)<|Qs<|Qp<|(Qa)<|(Qa)<|Qn<|Qr ?_
  exact ⟨_, _, rfl, .tmp rfl, .tmp rfl⟩
set_option maxHeartbeats 2000000 in
theorem unsealed_auth (k nn : Nat → Nat) (va vt : Value) (ad tx : List Nat) (hk : L8 32 k) (hn : L8 12 nn) (hva : Sh G va ad) (hvt : Sh G vt tx) (hab : (∀ b ∈ ad, b < 256)) (htb : (∀ b ∈ tx, b < 256)) (h : ad.length ≤ 200) (h2 : 16 ≤ tx.length) (h3 : tx.length ≤ 816) (ho : ¬ opensL k nn ad tx) : Fn Tryd.prog G 49 #[.agg (arr .u8 32 k), .agg (arr .u8 12 nn), va, vt] (.tuple #[nilS, ii 10]) := by
  have hv1 : Shows G 1 (slPart 1 vt 0 (tx.length - 16)) (tx.take (tx.length - 16)).length ((tx.take (tx.length - 16)).map by8) := hvt.cut (by omega) (by omega) (by simp)
  have hv2 : Shows G 1 (slPart 1 vt (tx.length - 16) tx.length) (tx.drop (tx.length - 16)).length ((tx.drop (tx.length - 16)).map by8) := hvt.cut (by omega) (by omega) (by rw [List.take_of_length_le (by simp)])
  refine Qf2 Tryd.func49 ?_
  refine Qs<|Qp<|(Qh 0) fun r1=>(Qh 1) fun r2=>(Qa)<|(Qa)<|Qn<|Qs<|Qs<|Qp<|(Qm)<|(QC hva)<|(QG)<|(Qaf)<|(Qm)<|(Qy)<|(Qm)<|(Qy)<|(QC hvt)<|(Qy)<|(QG)<|(Qaf)<|(QF)<|Qn<|(Qcf)<|Qk<|Qs<|Qs<|Qp<|(Qm)<|(QC hvt)<|(Ql)<|(Qaf)<|Qn<|(Qcf)<|Qk<|Qs<|Qp<|(Qm)<|(QC hvt) ?_
  refine e_sub_in (q := 16) rfl rfl rfl (by omega) (by omega) ?_
  refine (Qa)<|Qn<|Qs<|Qs<|(Qg)<|(Qd 0)<|(Qd 1)<|(Qm) ?_
  refine e_conv_strV (l := ad) hva seenG (Uu 33) (Uu 5) (Uu 9) rfl rfl rfl ?_
  refine (Qm)<|(Qm) ?_
  refine e_sliceV 0 (tx.length - 16) hvt (Uu 33) (Uz 5) rfl rfl rfl rfl ⟨_, rfl⟩ (by omega) (by omega) rfl ?_
  refine e_conv_strV (l := (tx.take (tx.length - 16))) hv1 seenG (Uu 33) (Uu 5) (Uu 9) rfl rfl rfl ?_
  refine e_call rfl (Un 68) (tagOf_fn k nn ad (tx.take (tx.length - 16)) hk hn hab (fun x hx => htb x (List.mem_of_mem_take hx)) (by omega) (by simp; omega)) rfl rfl ?_
  refine (Qm)<|(Qm) ?_
  refine e_sliceV (tx.length - 16) tx.length hvt (Uu 33) (Uz 5) rfl rfl rfl ⟨_, rfl⟩ rfl (by omega) (by omega) rfl ?_
  refine e_conv_strV (l := (tx.drop (tx.length - 16))) hv2 seenG (Uu 33) (Uu 5) (Uu 9) rfl rfl rfl ?_
  refine e_neStr rfl rfl rfl (tagl_lt _ _ _ _) (fun x hx => htb x (List.mem_of_mem_drop hx)) ?_
  refine e_as (congrArg Value.bool (decide_eq_true ho)) ?_
  refine Qn<|(Qct)<|Qs<|Qp<|(Qa)<|(Qa)<|Qn<|Qr ?_
  exact ⟨_, _, rfl, .tmp rfl, .tmp rfl⟩
set_option maxHeartbeats 2000000 in
theorem unsealed_ok (k nn : Nat → Nat) (va vt : Value) (ad tx : List Nat) (hk : L8 32 k) (hn : L8 12 nn) (hva : Sh G va ad) (hvt : Sh G vt tx) (hab : (∀ b ∈ ad, b < 256)) (htb : (∀ b ∈ tx, b < 256)) (h : ad.length ≤ 200) (h2 : 16 ≤ tx.length) (h3 : tx.length ≤ 816) (ho : opensL k nn ad tx) : Fx Tryd.prog G [] 49 #[.agg (arr .u8 32 k), .agg (arr .u8 12 nn), va, vt] (fun v l1 nw => l1 = [] ∧ ∃ v', v = .tuple #[v', ii 0] ∧ OwnS 5 1 v' (openL k nn tx).length ((openL k nn tx).map by8) nw) := by
  have hv1 : Shows G 1 (slPart 1 vt 0 (tx.length - 16)) (tx.take (tx.length - 16)).length ((tx.take (tx.length - 16)).map by8) := hvt.cut (by omega) (by omega) (by simp)
  have hv2 : Shows G 1 (slPart 1 vt (tx.length - 16) tx.length) (tx.drop (tx.length - 16)).length ((tx.drop (tx.length - 16)).map by8) := hvt.cut (by omega) (by omega) (by rw [List.take_of_length_le (by simp)])
  have htl : (tx.take (tx.length - 16)).length = tx.length - 16 := by simp
  have hol := openL_len k nn tx
  refine QfM Tryd.func49 ?_
  refine Qs<|Qp<|(Qh 0) fun r1=>(Qh 1) fun r2=>(Qa)<|(Qa)<|Qn<|Qs<|Qs<|Qp<|(Qm)<|(QC hva)<|(QG)<|(Qaf)<|(Qm)<|(Qy)<|(Qm)<|(Qy)<|(QC hvt)<|(Qy)<|(QG)<|(Qaf)<|(QF)<|Qn<|(Qcf)<|Qk<|Qs<|Qs<|Qp<|(Qm)<|(QC hvt)<|(Ql)<|(Qaf)<|Qn<|(Qcf)<|Qk<|Qs<|Qp<|(Qm)<|(QC hvt) ?_
  refine e_sub_in (q := 16) rfl rfl rfl (by omega) (by omega) ?_
  refine (Qa)<|Qn<|Qs<|Qs<|(Qg)<|(Qd 0)<|(Qd 1)<|(Qm) ?_
  refine e_conv_strV (l := ad) hva seenG (Uu 33) (Uu 5) (Uu 9) rfl rfl rfl ?_
  refine (Qm)<|(Qm) ?_
  refine e_sliceV 0 (tx.length - 16) hvt (Uu 33) (Uz 5) rfl rfl rfl rfl ⟨_, rfl⟩ (by omega) (by omega) rfl ?_
  refine e_conv_strV (l := (tx.take (tx.length - 16))) hv1 seenG (Uu 33) (Uu 5) (Uu 9) rfl rfl rfl ?_
  refine e_call rfl (Un 68) (tagOf_fn k nn ad (tx.take (tx.length - 16)) hk hn hab (fun x hx => htb x (List.mem_of_mem_take hx)) (by omega) (by simp; omega)) rfl rfl ?_
  refine (Qm)<|(Qm) ?_
  refine e_sliceV (tx.length - 16) tx.length hvt (Uu 33) (Uz 5) rfl rfl rfl ⟨_, rfl⟩ rfl (by omega) (by omega) rfl ?_
  refine e_conv_strV (l := (tx.drop (tx.length - 16))) hv2 seenG (Uu 33) (Uu 5) (Uu 9) rfl rfl rfl ?_
  refine e_neStr rfl rfl rfl (tagl_lt _ _ _ _) (fun x hx => htb x (List.mem_of_mem_drop hx)) ?_
  refine e_as (congrArg Value.bool (decide_eq_false (fun h => h ho))) ?_
  refine Qn<|(Qcf)<|Qk<|Qs<|(Qq ⟨[], 4, [], none⟩)<|(Qd 0)<|(Qd 1)<|(Qm)<|(Qm) ?_
  refine e_sliceV 0 (tx.length - 16) hvt (Uu 33) (Uz 5) rfl rfl rfl rfl ⟨_, rfl⟩ (by omega) (by omega) rfl ?_
  refine e_callN 2 (fun v => .tuple #[v, ii 0]) rfl rfl (Un 69) seenG (streamed_ok k 1 nn _ (tx.take (tx.length - 16)) hv1 hk hn (by decide) (by omega) (by omega)) (by simp only [maxLen]; omega) (by rw [List.length_map, strl_len, Nat.mul_one]) rfl rfl fun v4_1 oz4_1 ho4_1 => ?_
  refine (Qx)<|(Qx)<|(Qa)<|(Qa)<|Qn<|Qr ?_
  exact ⟨_, _, _, _, 2, rfl, .tmp rfl, .tmp rfl, (own_fix ho4_1 (by rw [htl, hol]; omega) rfl), rfl⟩
end Go.Proofs.YtbjaenjgahjikaaDoor
namespace Go.Proofs.YtbjaenjgahjikaaDoor
open Go Go.RowKit
variable {G : Mem}
set_option maxHeartbeats 400000 in
theorem nonceOf_fn (n : Nat) (hn : n < 18446744073709551616) : Fn Tryd.prog G 50 #[u n] (.agg (arr .u8 12 (nonU n))) := by
  refine Qf1 Tryd.func50 ?_
  refine Qs<|Qp<|(QH 0) fun r1=>Qn<|Qs<|Qp<|(QH 1) fun r2=>Qn<|Qs<|(Qg) ?_
  refine e_sliceA 4 12 (Uu 80) (Uz 5) rfl rfl rfl ⟨_, rfl⟩ rfl (by omega) (by omega) (by omega) rfl ?_
  refine (Qm) ?_
  refine e_call rfl (Un 57) (low_fn n 8 hn (by decide)) rfl rfl ?_
  refine e_copyStr (i := 1) (Uu 33) (Uz 5) rfl rfl (lowl_lt _ _) rfl (by omega) rfl ?_
  refine Qn<|Qs<|Qp<|(Qd 1) ?_
  refine e_as (congrArg Value.agg (arr_congr (nonU_copy n))) ?_
  refine (Qt 0)<|Qn<|Qr ?_
  exact ⟨_, rfl, .cell (i := 0) rfl rfl (Uu 80) rfl (Uz 80) (arr_size _ _ _)⟩
set_option maxHeartbeats 2000000 in
theorem cfault_fn (has : Bool) (k : Nat → Nat) (n : Nat) : Fn Tryd.prog G 48 #[CV has k n] (ii (if okC has k n = true then 0 else 9)) := by
  refine Qf1 Tryd.func48 ?_
  refine Qs<|Qp<|(Qh 0) fun r1=>(Qa)<|Qn<|Qs<|Qs ?_
  rcases ccases has k n with ⟨hk0, hko⟩ | ⟨hk0, hk1, hko⟩ | ⟨hk0, hk1, hk2, hko⟩ | ⟨hk0, hk1, hk2, hko⟩
  · skip
    refine Qp<|(Qf 0)<|(QV 0 0)<|(Q0) ?_
    refine e_as (congrArg (fun z => Value.bool (!z)) hk0) ?_
    refine (Qm)<|(Qo)<|(Qo)<|(Qo)<|(Qo)<|(Qw)<|(Qw)<|(Qw)<|(Qw)<|(Qo)<|(QF)<|Qn ?_
    refine e_cond rfl ?_ ?_
    · intro hc0
      exact absurd hc0 (by decide)
    · intro hc0
      refine Qk<|Qs<|Qp<|(Qa)<|Qn<|Qr ?_
      rw [hko]
      exact ⟨_, rfl, .tmp rfl⟩
  · skip
    refine Qp<|(Qf 0)<|(QV 0 0)<|(Q0) ?_
    refine e_as (congrArg (fun z => Value.bool (!z)) hk0) ?_
    refine (Qm)<|(Qy)<|(Qf 33)<|(Qy)<|(QV 2 0)<|(Qy)<|(QN)<|(Qat)<|(Qy)<|(Qm)<|(Qo)<|(Qo)<|(Qo)<|(Qo)<|(Qy)<|(QT)<|(QT)<|Qn ?_
    refine e_cond rfl ?_ ?_
    · intro hc0
      refine Qs<|Qp<|(Qa)<|Qn<|Qr ?_
      rw [hko]
      exact ⟨_, rfl, .tmp rfl⟩
    · intro hc0
      exact absurd hc0 (by decide)
  · skip
    refine Qp<|(Qf 0)<|(QV 0 0)<|(Q0) ?_
    refine e_as (congrArg (fun z => Value.bool (!z)) hk0) ?_
    refine (Qm)<|(Qy)<|(Qf 33)<|(Qy)<|(QV 2 0)<|(Qy)<|(QN)<|(Qaf)<|(Qy)<|(Qm)<|(Qy)<|(Qf 1)<|(Qy)<|(Qv 1 0)<|(Qy) ?_
    refine e_build0 (Ub 23 rfl) (Uu 23 rfl) sis5 rfl ?_
    refine (Qy) ?_
    refine e_neA (Uu 23) (Uu 5) (Uz 5) eqg23 rfl rfl rfl ?_
    refine e_as (congrArg (fun z => Value.bool (!z)) hk2) ?_
    refine (Qy)<|(QF)<|(QT)<|Qn ?_
    refine e_cond rfl ?_ ?_
    · intro hc0
      refine Qs<|Qp<|(Qa)<|Qn<|Qr ?_
      rw [hko]
      exact ⟨_, rfl, .tmp rfl⟩
    · intro hc0
      exact absurd hc0 (by decide)
  · skip
    refine Qp<|(Qf 0)<|(QV 0 0)<|(Q0) ?_
    refine e_as (congrArg (fun z => Value.bool (!z)) hk0) ?_
    refine (Qm)<|(Qy)<|(Qf 33)<|(Qy)<|(QV 2 0)<|(Qy)<|(QN)<|(Qaf)<|(Qy)<|(Qm)<|(Qy)<|(Qf 1)<|(Qy)<|(Qv 1 0)<|(Qy) ?_
    refine e_build0 (Ub 23 rfl) (Uu 23 rfl) sis5 rfl ?_
    refine (Qy) ?_
    refine e_neA (Uu 23) (Uu 5) (Uz 5) eqg23 rfl rfl rfl ?_
    refine e_as (congrArg (fun z => Value.bool (!z)) hk2) ?_
    refine (Qy)<|(QF)<|(QT)<|Qn ?_
    refine e_cond rfl ?_ ?_
    · intro hc0
      exact absurd hc0 (by decide)
    · intro hc0
      refine Qk<|Qs<|Qp<|(Qa)<|Qn<|Qr ?_
      rw [hko]
      exact ⟨_, rfl, .tmp rfl⟩
end Go.Proofs.YtbjaenjgahjikaaDoor
namespace Go.Proofs.YtbjaenjgahjikaaDoor
open Go Go.RowKit
variable {G : Mem}
set_option maxHeartbeats 2000000 in
theorem used_bad (o has : Bool) (k : Nat → Nat) (n : Nat) (va vt : Value) (hok : okC has k n = false) : Fn Tryd.prog G 36 #[.bool o, CV has k n, va, vt] (.tuple #[CZ, nilS, ii 9]) := by
  refine Qf3 Tryd.func36 ?_
  refine Qs<|Qp<|(Qh 0) fun r1=>(QH 1) fun r2=>(Qa)<|(Qa)<|Qn<|Qs<|Qs<|Qp<|(QD 0) ?_
  refine e_call rfl (Un 48) (cfault_fn has k n) rfl rfl ?_
  refine e_as (congrArg ii (show (if okC has k n = true then 0 else 9) = 9 by rw [hok]; rfl)) ?_
  refine (Qa)<|Qn<|Qs<|Qp<|(Qm)<|(QN)<|Qn ?_
  refine e_cond rfl ?_ ?_
  · intro hc0
    refine Qs<|Qp ?_
    refine e_buildS (cells 34 [pV (.bool false), pI .u8 32 (fun _ => 0), pV (.int .u64 0)]) (Ub 26 rfl) (Uu 26 rfl) pls26 rfl (by kernel_rfl) rfl ?_
    refine (Qm) ?_
    refine e_storeA (i := 1) (Uz 26) rfl rfl (arrv_size _ _) (cells_one ⟨fun _ => rfl, fun _ => rfl, fun _ => rfl, trivial⟩) rfl cells_sz (.inl rfl) ?_
    refine (Qa)<|(Qa)<|Qn<|Qr ?_
    exact ⟨_, _, _, rfl, .cell (i := 1) rfl rfl (Uu 26) rfl (Uz 26) (arrv_size _ _), .tmp rfl, .tmp rfl⟩
  · intro hc0
    exact absurd hc0 (by decide)
set_option maxHeartbeats 2000000 in
theorem used_pbig (o : Bool) (k : Nat → Nat) (n : Nat) (va vt : Value) (tx : List Nat) (hvt : Sh G vt tx) (hok : okC false k n = true) (hl : 800 < tx.length) : Fn Tryd.prog G 36 #[.bool o, CV false k n, va, vt] (.tuple #[CZ, nilS, ii 1]) := by
  refine Qf3 Tryd.func36 ?_
  refine Qs<|Qp<|(Qh 0) fun r1=>(QH 1) fun r2=>(Qa)<|(Qa)<|Qn<|Qs<|Qs<|Qp<|(QD 0) ?_
  refine e_call rfl (Un 48) (cfault_fn false k n) rfl rfl ?_
  refine e_as (congrArg ii (show (if okC false k n = true then 0 else 9) = 0 by rw [hok]; rfl)) ?_
  refine (Qa)<|Qn<|Qs<|Qp<|(Qm)<|(QN)<|Qn ?_
  refine e_cond rfl ?_ ?_
  · intro hc0
    exact absurd hc0 (by decide)
  · intro hc0
    refine Qk<|Qs<|Qs<|Qp<|(Qf 0)<|(QV 0 0)<|(Q0)<|Qn ?_
    refine e_cond rfl ?_ ?_
    · intro hc1
      refine Qs<|Qs<|Qp<|(Qm)<|(QC hvt)<|(QG)<|(Qat)<|Qn<|(Qct)<|Qs<|Qp ?_
      refine e_buildS (cells 34 [pV (.bool false), pI .u8 32 (fun _ => 0), pV (.int .u64 0)]) (Ub 26 rfl) (Uu 26 rfl) pls26 rfl (by kernel_rfl) rfl ?_
      refine e_storeA (i := 1) (Uz 26) rfl rfl (arrv_size _ _) (cells_one ⟨fun _ => rfl, fun _ => rfl, fun _ => rfl, trivial⟩) rfl cells_sz (.inl rfl) ?_
      refine (Qa)<|(Qa)<|Qn<|Qr ?_
      exact ⟨_, _, _, rfl, .cell (i := 1) rfl rfl (Uu 26) rfl (Uz 26) (arrv_size _ _), .tmp rfl, .tmp rfl⟩
    · intro hc1
      exact absurd hc1 (by decide)
set_option maxHeartbeats 2000000 in
theorem used_plain (o : Bool) (k : Nat → Nat) (n : Nat) (va vt : Value) (tx : List Nat) (hvt : Sh G vt tx) (hok : okC false k n = true) (hl : tx.length ≤ 800) : Fn Tryd.prog G 36 #[.bool o, CV false k n, va, vt] (.tuple #[CV false k n, vt, ii 0]) := by
  refine Qf3 Tryd.func36 ?_
  refine Qs<|Qp<|(Qh 0) fun r1=>(QH 1) fun r2=>(Qa)<|(Qa)<|Qn<|Qs<|Qs<|Qp<|(QD 0) ?_
  refine e_call rfl (Un 48) (cfault_fn false k n) rfl rfl ?_
  refine e_as (congrArg ii (show (if okC false k n = true then 0 else 9) = 0 by rw [hok]; rfl)) ?_
  refine (Qa)<|Qn<|Qs<|Qp<|(Qm)<|(QN)<|Qn ?_
  refine e_cond rfl ?_ ?_
  · intro hc0
    exact absurd hc0 (by decide)
  · intro hc0
    refine Qk<|Qs<|Qs<|Qp<|(Qf 0)<|(QV 0 0)<|(Q0)<|Qn ?_
    refine e_cond rfl ?_ ?_
    · intro hc1
      refine Qs<|Qs<|Qp<|(Qm)<|(QC hvt)<|(QG)<|(Qaf)<|Qn<|(Qcf)<|Qk<|Qs<|Qp<|(QD 0)<|(Qm) ?_
      refine e_storeA (i := 1) (Uz 26) rfl rfl (arrv_size _ _) (cells_one ⟨fun _ => rfl, fun _ => rfl, fun _ => rfl, trivial⟩) rfl cells_sz (.inl rfl) ?_
      refine (Qa)<|(Qa)<|Qn<|Qr ?_
      exact ⟨_, _, _, rfl, .cell (i := 1) rfl rfl (Uu 26) rfl (Uz 26) (arrv_size _ _), .tmp rfl, .tmp rfl⟩
    · intro hc1
      exact absurd hc1 (by decide)
set_option maxHeartbeats 2000000 in
theorem used_over (o : Bool) (k : Nat → Nat) (n : Nat) (va vt : Value) (hn : n = 18446744073709551615) : Fn Tryd.prog G 36 #[.bool o, CV true k n, va, vt] (.tuple #[CZ, nilS, ii 11]) := by
  have hok : okC true k n = true := rfl
  refine Qf3 Tryd.func36 ?_
  refine Qs<|Qp<|(Qh 0) fun r1=>(QH 1) fun r2=>(Qa)<|(Qa)<|Qn<|Qs<|Qs<|Qp<|(QD 0) ?_
  refine e_call rfl (Un 48) (cfault_fn true k n) rfl rfl ?_
  refine e_as (congrArg ii (show (if okC true k n = true then 0 else 9) = 0 by rw [hok]; rfl)) ?_
  refine (Qa)<|Qn<|Qs<|Qp<|(Qm)<|(QN)<|Qn ?_
  refine e_cond rfl ?_ ?_
  · intro hc0
    exact absurd hc0 (by decide)
  · intro hc0
    refine Qk<|Qs<|Qs<|Qp<|(Qf 0)<|(QV 0 0)<|(Q0)<|Qn ?_
    refine e_cond rfl ?_ ?_
    · intro hc1
      exact absurd hc1 (by decide)
    · intro hc1
      refine Qk<|Qs<|Qs<|Qp<|(Qf 33)<|(QV 2 0) ?_
      refine e_add_u (q := 1) rfl rfl rfl  ?_
      refine (Qc) ?_
      refine e_as (congrArg Value.bool (decide_eq_true (by rw [hn]; decide))) ?_
      refine Qn ?_
      refine e_cond rfl ?_ ?_
      · intro hc2
        refine Qs<|Qp ?_
        refine e_buildS (cells 34 [pV (.bool false), pI .u8 32 (fun _ => 0), pV (.int .u64 0)]) (Ub 26 rfl) (Uu 26 rfl) pls26 rfl (by kernel_rfl) rfl ?_
        refine e_storeA (i := 1) (Uz 26) rfl rfl (arrv_size _ _) (cells_one ⟨fun _ => rfl, fun _ => rfl, fun _ => rfl, trivial⟩) rfl cells_sz (.inl rfl) ?_
        refine (Qa)<|(Qa)<|Qn<|Qr ?_
        exact ⟨_, _, _, rfl, .cell (i := 1) rfl rfl (Uu 26) rfl (Uz 26) (arrv_size _ _), .tmp rfl, .tmp rfl⟩
      · intro hc2
        exact absurd hc2 (by decide)
set_option maxHeartbeats 2000000 in
theorem used_err_true (k : Nat → Nat) (n : Nat) (va vt : Value) (hn : n < 18446744073709551615) (e : Nat) (he : e ≠ 0) (hE : Fn Tryd.prog G 49 #[.agg (arr .u8 32 k), .agg (arr .u8 12 (nonU n)), va, vt] (.tuple #[nilS, ii e])) : Fn Tryd.prog G 36 #[.bool true, CV true k n, va, vt] (.tuple #[CZ, nilS, ii e]) := by
  have hok : okC true k n = true := rfl
  refine Qf3 Tryd.func36 ?_
  refine Qs<|Qp<|(Qh 0) fun r1=>(QH 1) fun r2=>(Qa)<|(Qa)<|Qn<|Qs<|Qs<|Qp<|(QD 0) ?_
  refine e_call rfl (Un 48) (cfault_fn true k n) rfl rfl ?_
  refine e_as (congrArg ii (show (if okC true k n = true then 0 else 9) = 0 by rw [hok]; rfl)) ?_
  refine (Qa)<|Qn<|Qs<|Qp<|(Qm)<|(QN)<|Qn ?_
  refine e_cond rfl ?_ ?_
  · intro hc0
    exact absurd hc0 (by decide)
  · intro hc0
    refine Qk<|Qs<|Qs<|Qp<|(Qf 0)<|(QV 0 0)<|(Q0)<|Qn ?_
    refine e_cond rfl ?_ ?_
    · intro hc1
      exact absurd hc1 (by decide)
    · intro hc1
      refine Qk<|Qs<|Qs<|Qp<|(Qf 33)<|(QV 2 0) ?_
      refine e_add_u (q := 1) rfl rfl rfl  ?_
      refine e_as (congrArg u (Nat.mod_eq_of_lt (show n + 1 < 18446744073709551616 by omega))) ?_
      refine (Qc)<|(Qaf)<|Qn ?_
      refine e_cond rfl ?_ ?_
      · intro hc2
        exact absurd hc2 (by decide)
      · intro hc2
        refine Qk<|Qs<|Qp<|(Qa)<|Qn<|Qs<|Qp<|(Qa)<|Qn<|Qs<|Qs<|Qp<|(Qm)<|Qn ?_
        refine e_cond rfl ?_ ?_
        · intro hc3
          refine (Qg)<|(Qf 1)<|(Qv 1 0)<|(Qf 33)<|(QV 2 0) ?_
          refine e_call rfl (Un 50) (nonceOf_fn n (by omega)) rfl rfl ?_
          refine (Qm)<|(Qm) ?_
          refine e_call rfl (Un 49) hE rfl rfl ?_
          refine (Qm)<|(Qx)<|(Qx)<|(Qa)<|(Qa)<|Qn<|Qs<|Qs<|Qp<|(Qm)<|(QN)<|(Qat)<|Qn ?_
          refine e_cond rfl ?_ ?_
          · intro hc4
            refine Qs<|Qp ?_
            refine e_buildS (cells 34 [pV (.bool false), pI .u8 32 (fun _ => 0), pV (.int .u64 0)]) (Ub 26 rfl) (Uu 26 rfl) pls26 rfl (by kernel_rfl) rfl ?_
            refine (Qm) ?_
            refine e_storeA (i := 1) (Uz 26) rfl rfl (arrv_size _ _) (cells_one ⟨fun _ => rfl, fun _ => rfl, fun _ => rfl, trivial⟩) rfl cells_sz (.inl rfl) ?_
            refine (Qa)<|(Qa)<|Qn<|Qr ?_
            exact ⟨_, _, _, rfl, .cell (i := 1) rfl rfl (Uu 26) rfl (Uz 26) (arrv_size _ _), .tmp rfl, .tmp rfl⟩
          · intro hc4
            exact absurd hc4 (by decide)
        · intro hc3
          exact absurd hc3 (by decide)
set_option maxHeartbeats 2000000 in
theorem used_err_false (k : Nat → Nat) (n : Nat) (va vt : Value) (hn : n < 18446744073709551615) (e : Nat) (he : e ≠ 0) (hE : Fn Tryd.prog G 51 #[.agg (arr .u8 32 k), .agg (arr .u8 12 (nonU n)), va, vt] (.tuple #[nilS, ii e])) : Fn Tryd.prog G 36 #[.bool false, CV true k n, va, vt] (.tuple #[CZ, nilS, ii e]) := by
  have hok : okC true k n = true := rfl
  refine Qf3 Tryd.func36 ?_
  refine Qs<|Qp<|(Qh 0) fun r1=>(QH 1) fun r2=>(Qa)<|(Qa)<|Qn<|Qs<|Qs<|Qp<|(QD 0) ?_
  refine e_call rfl (Un 48) (cfault_fn true k n) rfl rfl ?_
  refine e_as (congrArg ii (show (if okC true k n = true then 0 else 9) = 0 by rw [hok]; rfl)) ?_
  refine (Qa)<|Qn<|Qs<|Qp<|(Qm)<|(QN)<|Qn ?_
  refine e_cond rfl ?_ ?_
  · intro hc0
    exact absurd hc0 (by decide)
  · intro hc0
    refine Qk<|Qs<|Qs<|Qp<|(Qf 0)<|(QV 0 0)<|(Q0)<|Qn ?_
    refine e_cond rfl ?_ ?_
    · intro hc1
      exact absurd hc1 (by decide)
    · intro hc1
      refine Qk<|Qs<|Qs<|Qp<|(Qf 33)<|(QV 2 0) ?_
      refine e_add_u (q := 1) rfl rfl rfl  ?_
      refine e_as (congrArg u (Nat.mod_eq_of_lt (show n + 1 < 18446744073709551616 by omega))) ?_
      refine (Qc)<|(Qaf)<|Qn ?_
      refine e_cond rfl ?_ ?_
      · intro hc2
        exact absurd hc2 (by decide)
      · intro hc2
        refine Qk<|Qs<|Qp<|(Qa)<|Qn<|Qs<|Qp<|(Qa)<|Qn<|Qs<|Qs<|Qp<|(Qm)<|Qn ?_
        refine e_cond rfl ?_ ?_
        · intro hc3
          exact absurd hc3 (by decide)
        · intro hc3
          refine (Qg)<|(Qf 1)<|(Qv 1 0)<|(Qf 33)<|(QV 2 0) ?_
          refine e_call rfl (Un 50) (nonceOf_fn n (by omega)) rfl rfl ?_
          refine (Qm)<|(Qm) ?_
          refine e_call rfl (Un 51) hE rfl rfl ?_
          refine (Qm)<|(Qx)<|(Qx)<|(Qa)<|(Qa)<|Qn<|Qs<|Qs<|Qp<|(Qm)<|(QN)<|(Qat)<|Qn ?_
          refine e_cond rfl ?_ ?_
          · intro hc4
            refine Qs<|Qp ?_
            refine e_buildS (cells 34 [pV (.bool false), pI .u8 32 (fun _ => 0), pV (.int .u64 0)]) (Ub 26 rfl) (Uu 26 rfl) pls26 rfl (by kernel_rfl) rfl ?_
            refine (Qm) ?_
            refine e_storeA (i := 1) (Uz 26) rfl rfl (arrv_size _ _) (cells_one ⟨fun _ => rfl, fun _ => rfl, fun _ => rfl, trivial⟩) rfl cells_sz (.inl rfl) ?_
            refine (Qa)<|(Qa)<|Qn<|Qr ?_
            exact ⟨_, _, _, rfl, .cell (i := 1) rfl rfl (Uu 26) rfl (Uz 26) (arrv_size _ _), .tmp rfl, .tmp rfl⟩
          · intro hc4
            exact absurd hc4 (by decide)
set_option maxHeartbeats 2000000 in
theorem used_ok_true (k : Nat → Nat) (n : Nat) (va vt : Value) (hn : n < 18446744073709551615) (out : List Nat) (hm : out.length ≤ maxLen) (hE : Fx Tryd.prog G [] 49 #[.agg (arr .u8 32 k), .agg (arr .u8 12 (nonU n)), va, vt] (fun v l1 nw => l1 = [] ∧ ∃ v', v = .tuple #[v', ii 0] ∧ OwnS 5 1 v' out.length (out.map by8) nw)) : Fx Tryd.prog G [] 36 #[.bool true, CV true k n, va, vt] (fun v l1 nw => l1 = [] ∧ ∃ v', v = .tuple #[CV true k (n + 1), v', ii 0] ∧ OwnS 5 1 v' out.length (out.map by8) nw) := by
  have hok : okC true k n = true := rfl
  refine QfO Tryd.func36 ?_
  refine Qs<|Qp<|(Qh 0) fun r1=>(QH 1) fun r2=>(Qa)<|(Qa)<|Qn<|Qs<|Qs<|Qp<|(QD 0) ?_
  refine e_call rfl (Un 48) (cfault_fn true k n) rfl rfl ?_
  refine e_as (congrArg ii (show (if okC true k n = true then 0 else 9) = 0 by rw [hok]; rfl)) ?_
  refine (Qa)<|Qn<|Qs<|Qp<|(Qm)<|(QN)<|Qn ?_
  refine e_cond rfl ?_ ?_
  · intro hc0
    exact absurd hc0 (by decide)
  · intro hc0
    refine Qk<|Qs<|Qs<|Qp<|(Qf 0)<|(QV 0 0)<|(Q0)<|Qn ?_
    refine e_cond rfl ?_ ?_
    · intro hc1
      exact absurd hc1 (by decide)
    · intro hc1
      refine Qk<|Qs<|Qs<|Qp<|(Qf 33)<|(QV 2 0) ?_
      refine e_add_u (q := 1) rfl rfl rfl  ?_
      refine e_as (congrArg u (Nat.mod_eq_of_lt (show n + 1 < 18446744073709551616 by omega))) ?_
      refine (Qc)<|(Qaf)<|Qn ?_
      refine e_cond rfl ?_ ?_
      · intro hc2
        exact absurd hc2 (by decide)
      · intro hc2
        refine Qk<|Qs<|Qp<|(Qa)<|Qn<|Qs<|Qp<|(Qa)<|Qn<|Qs<|Qs<|Qp<|(Qm)<|Qn ?_
        refine e_cond rfl ?_ ?_
        · intro hc3
          refine (Qq ⟨[], 4, [], none⟩)<|(Qf 1)<|(Qv 1 0)<|(Qf 33)<|(QV 2 0) ?_
          refine e_call rfl (Un 50) (nonceOf_fn n (by omega)) rfl rfl ?_
          refine (Qm)<|(Qm) ?_
          refine e_callN 2 (fun v => .tuple #[v, ii 0]) rfl rfl (Un 49) seenG hE hm (by rw [List.length_map, Nat.mul_one]) rfl rfl fun v5_1 oz5_1 ho5_1 => ?_
          refine (Qm)<|(Qx)<|(Qx)<|(Qa)<|(Qa)<|Qn<|Qs<|Qs<|Qp<|(Qm)<|(QN) ?_
          refine e_as (congrArg Value.bool (decide_eq_false (fun h => h rfl))) ?_
          refine Qn ?_
          refine e_cond rfl ?_ ?_
          · intro hc4
            exact absurd hc4 (by decide)
          · intro hc4
            refine Qk<|Qs<|Qp<|(Qf 1)<|(Qv 1 0)<|(Qf 33)<|(QV 2 0) ?_
            refine e_add_u (q := 1) rfl rfl rfl  ?_
            refine e_as (congrArg u (Nat.mod_eq_of_lt (show n + 1 < 18446744073709551616 by omega))) ?_
            refine e_buildS (cells 34 [pV (.bool true), pI .u8 32 k, pV (u (n + 1))]) (Ub 26 rfl) (Uu 26 rfl) pls26 rfl (by kernel_rfl) rfl ?_
            refine (Qm) ?_
            refine e_storeA (i := 1) (Uz 26) rfl rfl (arrv_size _ _) (cells_one ⟨fun _ => rfl, fun _ => rfl, fun _ => rfl, trivial⟩) rfl cells_sz (.inl rfl) ?_
            refine (Qa)<|(Qa)<|Qn<|Qr ?_
            exact ⟨_, _, _, _, _, 2, rfl, .cell (i := 1) rfl rfl (Uu 26) rfl (Uz 26) (arrv_size _ _), .tmp rfl, .tmp rfl, ho5_1, rfl⟩
        · intro hc3
          exact absurd hc3 (by decide)
set_option maxHeartbeats 2000000 in
theorem used_ok_false (k : Nat → Nat) (n : Nat) (va vt : Value) (hn : n < 18446744073709551615) (out : List Nat) (hm : out.length ≤ maxLen) (hE : Fx Tryd.prog G [] 51 #[.agg (arr .u8 32 k), .agg (arr .u8 12 (nonU n)), va, vt] (fun v l1 nw => l1 = [] ∧ ∃ v', v = .tuple #[v', ii 0] ∧ OwnS 5 1 v' out.length (out.map by8) nw)) : Fx Tryd.prog G [] 36 #[.bool false, CV true k n, va, vt] (fun v l1 nw => l1 = [] ∧ ∃ v', v = .tuple #[CV true k (n + 1), v', ii 0] ∧ OwnS 5 1 v' out.length (out.map by8) nw) := by
  have hok : okC true k n = true := rfl
  refine QfO Tryd.func36 ?_
  refine Qs<|Qp<|(Qh 0) fun r1=>(QH 1) fun r2=>(Qa)<|(Qa)<|Qn<|Qs<|Qs<|Qp<|(QD 0) ?_
  refine e_call rfl (Un 48) (cfault_fn true k n) rfl rfl ?_
  refine e_as (congrArg ii (show (if okC true k n = true then 0 else 9) = 0 by rw [hok]; rfl)) ?_
  refine (Qa)<|Qn<|Qs<|Qp<|(Qm)<|(QN)<|Qn ?_
  refine e_cond rfl ?_ ?_
  · intro hc0
    exact absurd hc0 (by decide)
  · intro hc0
    refine Qk<|Qs<|Qs<|Qp<|(Qf 0)<|(QV 0 0)<|(Q0)<|Qn ?_
    refine e_cond rfl ?_ ?_
    · intro hc1
      exact absurd hc1 (by decide)
    · intro hc1
      refine Qk<|Qs<|Qs<|Qp<|(Qf 33)<|(QV 2 0) ?_
      refine e_add_u (q := 1) rfl rfl rfl  ?_
      refine e_as (congrArg u (Nat.mod_eq_of_lt (show n + 1 < 18446744073709551616 by omega))) ?_
      refine (Qc)<|(Qaf)<|Qn ?_
      refine e_cond rfl ?_ ?_
      · intro hc2
        exact absurd hc2 (by decide)
      · intro hc2
        refine Qk<|Qs<|Qp<|(Qa)<|Qn<|Qs<|Qp<|(Qa)<|Qn<|Qs<|Qs<|Qp<|(Qm)<|Qn ?_
        refine e_cond rfl ?_ ?_
        · intro hc3
          exact absurd hc3 (by decide)
        · intro hc3
          refine (Qq ⟨[], 4, [], none⟩)<|(Qf 1)<|(Qv 1 0)<|(Qf 33)<|(QV 2 0) ?_
          refine e_call rfl (Un 50) (nonceOf_fn n (by omega)) rfl rfl ?_
          refine (Qm)<|(Qm) ?_
          refine e_callN 2 (fun v => .tuple #[v, ii 0]) rfl rfl (Un 51) seenG hE hm (by rw [List.length_map, Nat.mul_one]) rfl rfl fun v5_1 oz5_1 ho5_1 => ?_
          refine (Qm)<|(Qx)<|(Qx)<|(Qa)<|(Qa)<|Qn<|Qs<|Qs<|Qp<|(Qm)<|(QN) ?_
          refine e_as (congrArg Value.bool (decide_eq_false (fun h => h rfl))) ?_
          refine Qn ?_
          refine e_cond rfl ?_ ?_
          · intro hc4
            exact absurd hc4 (by decide)
          · intro hc4
            refine Qk<|Qs<|Qp<|(Qf 1)<|(Qv 1 0)<|(Qf 33)<|(QV 2 0) ?_
            refine e_add_u (q := 1) rfl rfl rfl  ?_
            refine e_as (congrArg u (Nat.mod_eq_of_lt (show n + 1 < 18446744073709551616 by omega))) ?_
            refine e_buildS (cells 34 [pV (.bool true), pI .u8 32 k, pV (u (n + 1))]) (Ub 26 rfl) (Uu 26 rfl) pls26 rfl (by kernel_rfl) rfl ?_
            refine (Qm) ?_
            refine e_storeA (i := 1) (Uz 26) rfl rfl (arrv_size _ _) (cells_one ⟨fun _ => rfl, fun _ => rfl, fun _ => rfl, trivial⟩) rfl cells_sz (.inl rfl) ?_
            refine (Qa)<|(Qa)<|Qn<|Qr ?_
            exact ⟨_, _, _, _, _, 2, rfl, .cell (i := 1) rfl rfl (Uu 26) rfl (Uz 26) (arrv_size _ _), .tmp rfl, .tmp rfl, ho5_1, rfl⟩
end Go.Proofs.YtbjaenjgahjikaaDoor
namespace Go.Proofs.YtbjaenjgahjikaaDoor
open Go Go.RowKit
variable {G : Mem}
set_option maxHeartbeats 400000 in
theorem key_any (l : List Nat) (hl : ∀ b ∈ l, b < 256) : Fn Tryd.prog G 27 #[sv l] (.agg (arr .u8 32 (fun j => l.getD j 0))) := by
  refine Qf1 Tryd.func27 ?_
  refine Qs<|Qp<|(QH 0) fun r1=>Qn<|Qs<|Qp<|(QH 1) fun r2=>Qn<|Qs<|Qp ?_
  refine e_sliceA 0 32 (Uu 23) (Uz 5) rfl rfl rfl rfl rfl (by omega) (by omega) (by omega) rfl ?_
  refine (Qm) ?_
  refine e_copyStr (i := 1) (Uu 33) (Uz 5) rfl rfl hl rfl (by omega) rfl ?_
  refine Qn<|Qs<|Qp<|(Qd 1) ?_
  refine e_as (congrArg Value.agg (arr_congr (key_pad l))) ?_
  refine (Qt 0)<|Qn<|Qr ?_
  exact ⟨_, rfl, .cell (i := 0) rfl rfl (Uu 23) rfl (Uz 23) (arr_size _ _ _)⟩
set_option maxHeartbeats 2000000 in
theorem symBegun_short (l : List Nat) (hb : ∀ b ∈ l, b < 256) (h : ¬ 32 < l.length) : Fn Tryd.prog (IVB :: G) 9 #[sv l] (.agg (cells 98 [pV (.bool false), pI .u8 32 (fun _ => 0), pV (.int .u64 0), pI .u8 32 (sbeg l), pI .u8 32 (sbeg l)])) := by
  obtain ⟨g, hg⟩ : ∃ g, g = sbeg l := ⟨_, rfl⟩
  rw [← hg]
  refine Qf1 Tryd.func9 ?_
  refine Qs<|Qp<|(QH 0) fun r1=>Qn<|Qs<|Qp<|(Qm) ?_
  refine e_call rfl (Un 27) (key_any l hb) rfl rfl ?_
  refine e_as (congrArg (fun f => Value.agg (arr .u8 32 f)) (show (fun j => l.getD j 0) = g by rw [hg]; exact (sbeg_short h).symm)) ?_
  refine (QH 1) fun r2=>(Qt 1)<|Qn<|Qs<|Qs<|Qp<|(Qm)<|(QU)<|(QG)<|(Qaf)<|Qn<|(Qcf)<|Qk<|Qs<|Qp<|(Qd 1)<|(Qd 1) ?_
  refine e_buildS (cells 98 [pV (.bool false), pI .u8 32 (fun _ => 0), pV (.int .u64 0), pI .u8 32 g, pI .u8 32 g]) (Ub 28 rfl) (Uu 28 rfl) pls28 rfl (by kernel_rfl) rfl ?_
  refine e_storeA (i := 0) (Uz 28) rfl rfl (arrv_size _ _) (cells_one ⟨fun _ => rfl, fun _ => rfl, fun _ => rfl, fun _ => rfl, fun _ => rfl, trivial⟩) rfl cells_sz (.inl rfl) ?_
  refine Qn<|Qr ?_
  exact ⟨_, rfl, .cell (i := 0) rfl rfl (Uu 28) rfl (Uz 28) (arrv_size _ _)⟩
set_option maxHeartbeats 2000000 in
theorem symBegun_long (l : List Nat) (hb : ∀ b ∈ l, b < 256) (h : 32 < l.length) (hm : l.length ≤ 4611686018427387904) : Fn Tryd.prog (IVB :: G) 9 #[sv l] (.agg (cells 98 [pV (.bool false), pI .u8 32 (fun _ => 0), pV (.int .u64 0), pI .u8 32 (sbeg l), pI .u8 32 (sbeg l)])) := by
  obtain ⟨g, hg⟩ : ∃ g, g = sbeg l := ⟨_, rfl⟩
  rw [← hg]
  refine Qf1 Tryd.func9 ?_
  refine Qs<|Qp<|(QH 0) fun r1=>Qn<|Qs<|Qp<|(Qm) ?_
  refine e_call rfl (Un 27) (key_any l hb) rfl rfl ?_
  refine (QH 1) fun r2=>(Qt 1)<|Qn<|Qs<|Qs<|Qp<|(Qm)<|(QU)<|(QG)<|(Qat)<|Qn<|(Qct)<|Qp<|(Qm) ?_
  refine e_call rfl (Un 28) (hashOf_fn l hb hm) rfl rfl ?_
  refine e_as (congrArg (fun f => Value.agg (arr .u8 32 f)) (show bsum l = g by rw [hg]; exact (sbeg_long h).symm)) ?_
  refine (Qt 1)<|Qn<|Qs<|Qp<|(Qd 1)<|(Qd 1) ?_
  refine e_buildS (cells 98 [pV (.bool false), pI .u8 32 (fun _ => 0), pV (.int .u64 0), pI .u8 32 g, pI .u8 32 g]) (Ub 28 rfl) (Uu 28 rfl) pls28 rfl (by kernel_rfl) rfl ?_
  refine e_storeA (i := 0) (Uz 28) rfl rfl (arrv_size _ _) (cells_one ⟨fun _ => rfl, fun _ => rfl, fun _ => rfl, fun _ => rfl, fun _ => rfl, trivial⟩) rfl cells_sz (.inl rfl) ?_
  refine Qn<|Qr ?_
  exact ⟨_, rfl, .cell (i := 0) rfl rfl (Uu 28) rfl (Uz 28) (arrv_size _ _)⟩
set_option maxHeartbeats 2000000 in
theorem symHash_fn (has : Bool) (k : Nat → Nat) (n : Nat) (ch h : Nat → Nat) (l : List Nat) (hb : ∀ b ∈ l, b < 256) (hl : l.length ≤ 281474976710656) (hh : L8 32 h) : Fn Tryd.prog (IVB :: G) 15 #[SV has k n ch h, sv l] (SV has k n ch (hx h l)) := by
  obtain ⟨g, hg⟩ : ∃ g, g = hx h l := ⟨_, rfl⟩
  rw [← hg]
  refine Qf1 Tryd.func15 ?_
  refine Qs<|Qp<|(Qh 0) fun r1=>(QH 1) fun r2=>Qn<|Qs<|Qp<|(Qf 66)<|(Qv 4 0) ?_
  refine e_call rfl (Un 32) (text_fn h) rfl rfl ?_
  refine (Qm) ?_
  refine e_catS rfl rfl rfl (by simp; omega) ?_
  refine e_call rfl (Un 28) (hashOf_fn ((List.range 32).map h ++ l) (apps_lt (range_lt hh) hb) (by simp; omega)) rfl rfl ?_
  refine e_as (congrArg (fun f => Value.agg (arr .u8 32 f)) (show bsum ((List.range 32).map h ++ l) = g from hg.symm)) ?_
  refine (Qf 66) ?_
  refine e_stC (i := 0) 4 (Uz 23) rfl rfl rfl rfl (by decide) (.inl rfl) ?_
  refine Qn<|Qs<|Qp<|(QD 0) ?_
  refine e_as (show _ = SV has k n ch g from rfl) ?_
  refine e_storeA (i := 1) (Uz 28) rfl rfl (arrv_size _ _) (cells_one ⟨fun _ => rfl, fun _ => rfl, fun _ => rfl, fun _ => rfl, fun _ => rfl, trivial⟩) rfl cells_sz (.inl rfl) ?_
  refine Qn<|Qr ?_
  exact ⟨_, rfl, .cell (i := 1) rfl rfl (Uu 28) rfl (Uz 28) (arrv_size _ _)⟩
set_option maxHeartbeats 2000000 in
theorem symKey_fn (has : Bool) (k : Nat → Nat) (n : Nat) (ch h : Nat → Nat) (l : List Nat) (hb : ∀ b ∈ l, b < 256) (hl : l.length ≤ 281474976710656) (hc : L8 32 ch) : Fn Tryd.prog (IVB :: G) 14 #[SV has k n ch h, sv l] (SV true (kB ch l) 0 (kA ch l) h) := by
  obtain ⟨fa, hfa⟩ : ∃ fa, fa = kA ch l := ⟨_, rfl⟩
  obtain ⟨fb, hfb⟩ : ∃ fb, fb = kB ch l := ⟨_, rfl⟩
  obtain ⟨fc, hfc⟩ : ∃ fc, fc = kC ch l := ⟨_, rfl⟩
  rw [← hfa, ← hfb]
  refine Qf1 Tryd.func14 ?_
  refine Qs<|Qp<|(Qh 0) fun r1=>(QH 1) fun r2=>Qn<|Qs<|Qp<|(Qf 34)<|(Qv 3 0)<|(Qm) ?_
  refine e_call rfl (Un 29) (keysOf_fn ch l hc hb (by omega)) rfl rfl ?_
  refine e_as (show Value.agg (arr .u8 96 (thr3 (kA ch l) (kB ch l) (kC ch l))) = Value.agg (arr .u8 96 (thr3 fa fb fc)) by rw [hfa, hfb, hfc]) ?_
  refine (QH 2) fun r3=>(Qt 2)<|Qn<|Qs<|Qp<|(QA 0 0) ?_
  refine e_loadS (i := 2) (Uu 23) rfl (Uz 23) rfl rfl (by omega) rfl ⟨[], trivial⟩ ?_
  refine e_as (congrArg Value.agg (arr_congr (thr3_0 fa fb fc))) ?_
  refine (QA 32 1) ?_
  refine e_loadS (i := 2) (Uu 23) rfl (Uz 23) rfl rfl (by omega) rfl ⟨[], trivial⟩ ?_
  refine e_as (congrArg Value.agg (arr_congr (thr3_1 fa fb fc))) ?_
  refine e_buildS (cells 34 [pV (.bool true), pI .u8 32 fb, pV (u 0)]) (Ub 26 rfl) (Uu 26 rfl) pls26 rfl (by kernel_rfl) rfl ?_
  refine (Qf 66)<|(Qv 4 0) ?_
  refine e_buildS (cells 98 [pV (.bool true), pI .u8 32 fb, pV (u 0), pI .u8 32 fa, pI .u8 32 h]) (Ub 28 rfl) (Uu 28 rfl) pls28 rfl (by kernel_rfl) rfl ?_
  refine e_storeA (i := 1) (Uz 28) rfl rfl (arrv_size _ _) (cells_one ⟨fun _ => rfl, fun _ => rfl, fun _ => rfl, fun _ => rfl, fun _ => rfl, trivial⟩) rfl cells_sz (.inl rfl) ?_
  refine Qn<|Qr ?_
  exact ⟨_, rfl, .cell (i := 1) rfl rfl (Uu 28) rfl (Uz 28) (arrv_size _ _)⟩
set_option maxHeartbeats 2000000 in
theorem symBoth_fn (has : Bool) (k : Nat → Nat) (n : Nat) (ch h : Nat → Nat) (l : List Nat) (hb : ∀ b ∈ l, b < 256) (hl : l.length ≤ 281474976710656) (hc : L8 32 ch) (hh : L8 32 h) : Fn Tryd.prog (IVB :: G) 16 #[SV has k n ch h, sv l] (SV true (kC ch l) 0 (kA ch l) (hx h ((List.range 32).map (kB ch l)))) := by
  obtain ⟨fa, hfa⟩ : ∃ fa, fa = kA ch l := ⟨_, rfl⟩
  obtain ⟨fb, hfb⟩ : ∃ fb, fb = kB ch l := ⟨_, rfl⟩
  obtain ⟨fc, hfc⟩ : ∃ fc, fc = kC ch l := ⟨_, rfl⟩
  have hfb2 : ∀ j, j < 32 → fb j < 256 := fun j _ => by rw [hfb]; exact mac_lt _ _ _
  obtain ⟨g, hg⟩ : ∃ g, g = hx h ((List.range 32).map (kB ch l)) := ⟨_, rfl⟩
  rw [← hfa, ← hfc, ← hg]
  refine Qf1 Tryd.func16 ?_
  refine Qs<|Qp<|(Qh 0) fun r1=>(QH 1) fun r2=>Qn<|Qs<|Qp<|(Qf 34)<|(Qv 3 0)<|(Qm) ?_
  refine e_call rfl (Un 29) (keysOf_fn ch l hc hb (by omega)) rfl rfl ?_
  refine e_as (show Value.agg (arr .u8 96 (thr3 (kA ch l) (kB ch l) (kC ch l))) = Value.agg (arr .u8 96 (thr3 fa fb fc)) by rw [hfa, hfb, hfc]) ?_
  refine (QH 2) fun r3=>(Qt 2)<|Qn<|Qs<|(Qg)<|(QA 0 0) ?_
  refine e_loadS (i := 2) (Uu 23) rfl (Uz 23) rfl rfl (by omega) rfl ⟨[], trivial⟩ ?_
  refine e_as (congrArg Value.agg (arr_congr (thr3_0 fa fb fc))) ?_
  refine (QA 64 2) ?_
  refine e_loadS (i := 2) (Uu 23) rfl (Uz 23) rfl rfl (by omega) rfl ⟨[], trivial⟩ ?_
  refine e_as (congrArg Value.agg (arr_congr (thr3_2 fa fb fc))) ?_
  refine e_buildS (cells 34 [pV (.bool true), pI .u8 32 fc, pV (u 0)]) (Ub 26 rfl) (Uu 26 rfl) pls26 rfl (by kernel_rfl) rfl ?_
  refine (QD 0)<|(QA 32 1) ?_
  refine e_loadS (i := 2) (Uu 23) rfl (Uz 23) rfl rfl (by omega) rfl ⟨[], trivial⟩ ?_
  refine e_as (congrArg Value.agg (arr_congr (thr3_1 fa fb fc))) ?_
  refine e_call rfl (Un 32) (text_fn fb) rfl rfl ?_
  refine e_call rfl (Un 15) (symHash_fn has k n ch h ((List.range 32).map fb) (range_lt hfb2) (by simp) hh) rfl rfl ?_
  refine e_as (congrArg (fun f => SV has k n ch f) (show hx h ((List.range 32).map fb) = g by rw [hg, hfb])) ?_
  refine (QJ 4) ?_
  refine e_buildS (cells 98 [pV (.bool true), pI .u8 32 fc, pV (u 0), pI .u8 32 fa, pI .u8 32 g]) (Ub 28 rfl) (Uu 28 rfl) pls28 rfl (by kernel_rfl) rfl ?_
  refine e_storeA (i := 1) (Uz 28) rfl rfl (arrv_size _ _) (cells_one ⟨fun _ => rfl, fun _ => rfl, fun _ => rfl, fun _ => rfl, fun _ => rfl, trivial⟩) rfl cells_sz (.inl rfl) ?_
  refine Qn<|Qr ?_
  exact ⟨_, rfl, .cell (i := 1) rfl rfl (Uu 28) rfl (Uz 28) (arrv_size _ _)⟩
set_option maxHeartbeats 2000000 in
theorem symSplit_fn (has : Bool) (k : Nat → Nat) (n : Nat) (ch h : Nat → Nat) (hc : L8 32 ch) : Fn Tryd.prog (IVB :: G) 10 #[SV has k n ch h] (.agg (cells 68 [pV (.bool true), pI .u8 32 (kA ch []), pV (u 0), pV (.bool true), pI .u8 32 (kB ch []), pV (u 0)])) := by
  obtain ⟨fa, hfa⟩ : ∃ fa, fa = kA ch [] := ⟨_, rfl⟩
  obtain ⟨fb, hfb⟩ : ∃ fb, fb = kB ch [] := ⟨_, rfl⟩
  obtain ⟨fc, hfc⟩ : ∃ fc, fc = kC ch [] := ⟨_, rfl⟩
  rw [← hfa, ← hfb]
  refine Qf1 Tryd.func10 ?_
  refine Qs<|Qp<|(Qh 0) fun r1=>(QH 1) fun r2=>Qn<|Qs<|Qp<|(Qf 34)<|(Qv 3 0) ?_
  refine e_call rfl (Un 29) (keysOf_fn ch [] hc (by simp) (by decide)) rfl rfl ?_
  refine e_as (show Value.agg (arr .u8 96 (thr3 (kA ch []) (kB ch []) (kC ch []))) = Value.agg (arr .u8 96 (thr3 fa fb fc)) by rw [hfa, hfb, hfc]) ?_
  refine (QH 2) fun r3=>(Qt 2)<|Qn<|Qs<|Qp<|(QA 0 0) ?_
  refine e_loadS (i := 2) (Uu 23) rfl (Uz 23) rfl rfl (by omega) rfl ⟨[], trivial⟩ ?_
  refine e_as (congrArg Value.agg (arr_congr (thr3_0 fa fb fc))) ?_
  refine e_buildS (cells 34 [pV (.bool true), pI .u8 32 fa, pV (u 0)]) (Ub 26 rfl) (Uu 26 rfl) pls26 rfl (by kernel_rfl) rfl ?_
  refine (QA 32 1) ?_
  refine e_loadS (i := 2) (Uu 23) rfl (Uz 23) rfl rfl (by omega) rfl ⟨[], trivial⟩ ?_
  refine e_as (congrArg Value.agg (arr_congr (thr3_1 fa fb fc))) ?_
  refine e_buildS (cells 34 [pV (.bool true), pI .u8 32 fb, pV (u 0)]) (Ub 26 rfl) (Uu 26 rfl) pls26 rfl (by kernel_rfl) rfl ?_
  refine e_buildZ (cells 68 [pV (.bool true), pI .u8 32 fa, pV (u 0), pV (.bool true), pI .u8 32 fb, pV (u 0)]) (Ub 30 rfl) (Uu 30 rfl) (Uz 26 rfl) rfl (by kernel_rfl) rfl ?_
  refine e_storeA (i := 1) (Uz 30) rfl rfl (arrv_size _ _) (cells_one ⟨fun _ => rfl, fun _ => rfl, fun _ => rfl, fun _ => rfl, fun _ => rfl, fun _ => rfl, trivial⟩) rfl cells_sz (.inl rfl) ?_
  refine Qn<|Qr ?_
  exact ⟨_, rfl, .cell (i := 1) rfl rfl (Uu 30) rfl (Uz 30) (arrv_size _ _)⟩
end Go.Proofs.YtbjaenjgahjikaaDoor
