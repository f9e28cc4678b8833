import Derived.Test.YtbjaenjgahjikaaDoorKZ7
namespace Go.Proofs.YtbjaenjgahjikaaDoor
open Go Go.RowKit
variable {G : Mem}
set_option maxHeartbeats 2000000 in
theorem djoined_fn (v : Value) (vs : List Value) (ls : List (List Nat)) (hv : Shows G 1 v vs.length vs) (hL : ShowsL G vs ls) (hn : vs.length ≤ 1099511627776) (hm : ls.flatten.length ≤ 1099511627776) : Fx Tryd.prog G [] 44 #[v] (fun v l1 nw => l1 = [] ∧ ∃ v', v = v' ∧ OwnS 5 1 v' ls.flatten.length (ls.flatten.map by8) nw) := by
  have hvl := hL.1
  have hup := upto_le ls
  refine QfN Tryd.func44 ?_
  refine Qs<|Qp<|(Qa)<|Qn<|Qs<|Qp<|(Qa)<|Qn<|Qs<|Qs<|Qp<|(Qm)<|(QC hv)<|(Qm)<|Qn<|Qb ?_
  refine QzK [(2, _), (6, _), (7, _)] [] (fun kk E m => ∃ (j : Nat) (w : Value) (oz : Option Blk), kk = vs.length - j ∧ E = [(3, w), (8, ii j)] ∧ m = [(50, oz)] ∧ (j ≤ vs.length) ∧ (OwnS 5 1 w (upto ls j).length ((upto ls j).map by8) (Option.toList oz))) ⟨0, nilS, none, rfl, rfl, rfl, by omega, (own_nil _ _)⟩ ⟨rfl, rfl, rfl, rfl, rfl, trivial⟩ ⟨rfl, trivial⟩ ?_
  rintro kk E m ⟨j, w, oz, rfl, rfl, rfl, hf0_0, hf0_1⟩
  simp only [catE, catL]
  have hs3 := hup (j + 1)
  have hs4 : j < ls.length → (upto ls (j + 1)).length = (upto ls j).length + (ls.getD j []).length := fun h => by rw [upto_next h, List.length_append]
  refine Qs<|Qp<|(Ql)<|Qn<|Qs ?_
  refine e_cond rfl ?_ ?_
  · intro hc0
    have hc0 : j < vs.length := by have := of_decide_eq_true hc0; omega
    refine Qk<|Qs<|Qb<|Qs<|Qp ?_
    refine e_atV hv (Uu 88) (Uz 33) rfl rfl (by omega) rfl ?_
    refine (QS) ?_
    refine e_loadV hv seenG (Uu 33) rfl rfl (get_getD (by omega)) rfl ?_
    refine (Qa)<|Qn<|Qp<|(Qm)<|(Qm) ?_
    refine e_append 50 hf0_1 (hL.2 j (by omega)) rfl seenG (Uu 33) (Uz 5) (Uy 5) (Ub 5) (by rfl) rfl rfl by8_one (by have := hs4 (by omega); simp only [maxLen]; omega) (by have := hs4 (by omega); omega) rfl fun v2_1 oz2_1 ho2_1 => ?_
    refine (Qa)<|Qn<|Qp<|(Q2 1)<|(Qm)<|Qn ?_
    refine QzL ⟨j + 1, _, _, rfl, rfl, rfl, by omega, (own_fix ho2_1 (by rw [upto_next (by omega), List.length_append]) (by rw [upto_next (by omega), List.map_append]))⟩ ⟨rfl, rfl, rfl, rfl, rfl, trivial⟩ ⟨rfl, trivial⟩ ?_
    omega
  · intro hc0
    have hc0 := of_decide_eq_false hc0
    have hz0 : j = vs.length := by omega
    refine Qe<|Qs<|Qp<|(Qm)<|(Qa)<|Qn<|Qr ?_
    exact ⟨_, _, _, 50, rfl, .tmp rfl, (own_fix hf0_1 (by rw [hz0, hvl, upto_all]) (by rw [hz0, hvl, upto_all])), rfl⟩
set_option maxHeartbeats 2000000 in
theorem dturned_fn (p : List Nat) (x : Nat) (hp : p.length = 64) : Fx Tryd.prog G [] 61 #[.agg (arr .u8 64 (fun j => p.getD j 0)), by8 x] (fun v l1 nw => l1 = [] ∧ ∃ v', v = v' ∧ OwnS 90 1 v' 64 ((xorl p x).map by8) nw) := by
  refine QfN Tryd.func61 ?_
  refine Qs<|Qp<|(Qh 0) fun r1=>(Qa)<|Qn<|Qs<|Qs<|Qp<|(Qm)<|Qn<|Qb ?_
  refine QzK [(1, _), (2, _), (4, _)] [] (fun kk E m => ∃ (i : Nat) (s : Nat → Nat), kk = 64 - i ∧ E = [(6, ii i)] ∧ m = [(0, some ⟨r1, arr .u8 64 s, 90⟩)] ∧ (i ≤ 64) ∧ (∀ t, t < 64 → s t = if t < i then (p.getD t 0 ^^^ x) % 256 else p.getD t 0)) ⟨0, (fun j => p.getD j 0), rfl, rfl, rfl, by omega, tur_first (k := fun j => p.getD j 0)⟩ ⟨rfl, rfl, rfl, rfl, trivial⟩ ⟨rfl, trivial⟩ ?_
  rintro kk E m ⟨i, s, rfl, rfl, rfl, hf0_0, hf0_1⟩
  simp only [catE, catL]
  refine Qs<|Qp<|(Ql)<|Qn<|Qs ?_
  refine e_cond rfl ?_ ?_
  · intro hc0
    have hc0 : i < 64 := by have := of_decide_eq_true hc0; omega
    refine Qk<|Qs<|Qb<|Qs<|Qp<|(Qm)<|(Qa)<|Qn<|Qp<|(Qm)<|(Qi)<|(Q1 0)<|(Qm) ?_
    refine e_xor_b rfl rfl rfl  ?_
    refine (Qi)<|(Qu 0)<|Qn<|Qp<|(Q2 1)<|(Qm)<|Qn ?_
    refine QzL ⟨i + 1, upd s i _, rfl, rfl, rfl, by omega, (tur_next (k := fun j => p.getD j 0) hf0_1 (by omega) rfl)⟩ ⟨rfl, rfl, rfl, rfl, trivial⟩ ⟨rfl, trivial⟩ ?_
    omega
  · intro hc0
    have hc0 := of_decide_eq_false hc0
    have hz0 : i = 64 := by omega
    subst hz0
    refine Qe<|Qs<|Qp ?_
    refine e_sliceA 0 64 (Uu 90) (Uz 5) rfl rfl rfl rfl rfl (by omega) (by omega) (by omega) rfl ?_
    refine (Qa)<|Qn<|Qr ?_
    exact ⟨_, _, _, 0, rfl, .tmp rfl, (own_made ((xorl_len p x).trans hp) (by decide) (tur_last hp hf0_1)), rfl⟩
end Go.Proofs.YtbjaenjgahjikaaDoor
namespace Go.Proofs.YtbjaenjgahjikaaDoor
open Go Go.RowKit
variable {G : Mem}
set_option maxHeartbeats 2000000 in
theorem dfit_long (v : Value) (k : List Nat) (hv : Shows (DOR :: G) 1 v k.length (k.map by8)) (hb : ∀ b ∈ k, b < 256) (hz : k.length ≤ 1073741824) (hkl : 64 < k.length) : Fn Tryd.prog (DOR :: G) 60 #[v] (.agg (arr .u8 64 (fun j => (mpad k).getD j 0))) := by
  have hmk : mkey k = (bsl k) := if_pos hkl
  have hkle := mkey_le k
  rw [hmk] at hkle
  refine Qf1 Tryd.func60 ?_
  refine Qs<|Qp<|(QH 0) fun r1=>Qn<|Qs<|Qp<|(QH 1) fun r2=>Qn<|Qs<|Qs<|Qp<|(Qm)<|(QC hv)<|(QG)<|(Qat)<|Qn<|(Qct)<|Qs<|Qp<|(Qm) ?_
  refine e_call rfl (Un 37) (dsum6_fn v k hv hb hz) rfl rfl ?_
  refine (QH 2) fun r3=>(Qt 2)<|Qn<|Qp ?_
  refine e_sliceA 0 32 (Uu 23) (Uz 5) rfl rfl rfl rfl rfl (by omega) (by omega) (by omega) rfl ?_
  refine (Qa)<|Qn<|Qs<|Qp ?_
  refine e_sliceA 0 64 (Uu 90) (Uz 5) rfl rfl rfl rfl rfl (by omega) (by omega) (by omega) rfl ?_
  refine (Qm) ?_
  refine e_copyB (i := 1) (Uu 33) (Uz 5) (show Shows _ 1 _ (bsl k).length ((bsl k).map by8) from shows32 _ (bsum k) _) (seen1 2 rfl ⟨[], trivial⟩) rfl rfl rfl (by omega) rfl ?_
  refine Qn<|Qs<|Qp<|(Qd 1) ?_
  refine e_as (congrArg Value.agg (arr_congr (fit_at hmk hkle rfl))) ?_
  refine (Qt 0)<|Qn<|Qr ?_
  exact ⟨_, rfl, .cell (i := 0) rfl rfl (Uu 90) rfl (Uz 90) (arr_size _ _ _)⟩
set_option maxHeartbeats 2000000 in
theorem dfit_short (v : Value) (k : List Nat) (hv : Shows (DOR :: G) 1 v k.length (k.map by8)) (hkl : ¬ 64 < k.length) : Fn Tryd.prog (DOR :: G) 60 #[v] (.agg (arr .u8 64 (fun j => (mpad k).getD j 0))) := by
  have hmk : mkey k = k := if_neg hkl
  have hkle := mkey_le k
  rw [hmk] at hkle
  refine Qf1 Tryd.func60 ?_
  refine Qs<|Qp<|(QH 0) fun r1=>Qn<|Qs<|Qp<|(QH 1) fun r2=>Qn<|Qs<|Qs<|Qp<|(Qm)<|(QC hv)<|(QG)<|(Qaf)<|Qn<|(Qcf)<|Qk<|Qs<|Qp ?_
  refine e_sliceA 0 64 (Uu 90) (Uz 5) rfl rfl rfl rfl rfl (by omega) (by omega) (by omega) rfl ?_
  refine (Qm) ?_
  refine e_copyB (i := 1) (Uu 33) (Uz 5) hv seenG rfl rfl rfl (by omega) rfl ?_
  refine Qn<|Qs<|Qp<|(Qd 1) ?_
  refine e_as (congrArg Value.agg (arr_congr (fit_at hmk hkle rfl))) ?_
  refine (Qt 0)<|Qn<|Qr ?_
  exact ⟨_, rfl, .cell (i := 0) rfl rfl (Uu 90) rfl (Uz 90) (arr_size _ _ _)⟩
end Go.Proofs.YtbjaenjgahjikaaDoor
namespace Go.Proofs.YtbjaenjgahjikaaDoor
open Go Go.RowKit
theorem djoined2 {G : Mem} (r : Nat) (v1 v2 : Value) (a b : List Nat) (h1 : Shows G 1 v1 a.length (a.map by8)) (h2 : Shows G 1 v2 b.length (b.map by8)) (hr : (⟨r, [v1, v2].toArray, 33⟩ : Blk) ∈ G) (hm : a.length + b.length ≤ 1099511627776) :
    Fx Tryd.prog G [] 44 #[.slice (some ⟨r, 0, none⟩) 2 2] (fun v l1 nw => l1 = [] ∧ ∃ v', v = v' ∧ OwnS 5 1 v' (a ++ b).length ((a ++ b).map by8) nw) := by
  have h := djoined_fn (G := G) (.slice (some ⟨r, 0, none⟩) 2 2) [v1, v2] [a, b] ((shows_new (r := r) (len := 2) (z := 1) [v1, v2].toArray 33 rfl).mono (fun x hx => by simp at hx; subst hx; exact hr)) (showsL_cons h1 (showsL_cons h2 (showsL_nil _))) (Nat.le_of_ble_eq_true rfl) (by simp; omega)
  have e : [a, b].flatten = a ++ b := by simp
  rw [e] at h
  exact h
theorem dfit_fn {G : Mem} (v : Value) (k : List Nat) (hv : Shows (DOR :: G) 1 v k.length (k.map by8)) (hb : ∀ b ∈ k, b < 256) (hz : k.length ≤ 1073741824) : Fn Tryd.prog (DOR :: G) 60 #[v] (.agg (arr .u8 64 (fun j => (mpad k).getD j 0))) := by
  by_cases h : 64 < k.length
  · exact dfit_long v k hv hb hz h
  · exact dfit_short v k hv h
theorem dsum7 {G X : Mem} (v : Value) (l : List Nat) (hv : Shows X 1 v l.length (l.map by8)) (hlb : ∀ b ∈ l, b < 256) (hz : l.length ≤ 1073741824) : Fn Tryd.prog ((DOR :: G) ++ X) 37 #[v] (.agg (arr .u8 32 (bsum l))) :=
  dsum6_fn (G := G ++ X) v l (hv.mono fun _ h => List.mem_cons_of_mem _ (List.mem_append_right _ h)) hlb hz
theorem xap_lt {p s : List Nat} {c : Nat} (h : ∀ b ∈ s, b < 256) : ∀ b ∈ xorl p c ++ s, b < 256 := fun b hb => (List.mem_append.1 hb).elim (xorl_lt p c b) (h b)
variable {G : Mem}
set_option maxHeartbeats 4000000 in
theorem dmac7_fn (vk vs : Value) (k s : List Nat) (hvk : Shows (DOR :: G) 1 vk k.length (k.map by8)) (hvs : Shows (DOR :: G) 1 vs s.length (s.map by8)) (hk : ∀ b ∈ k, b < 256) (hb : ∀ b ∈ s, b < 256) (hkm : k.length ≤ 1073741824) (hs : s.length ≤ 1073741760) : Fn Tryd.prog (DOR :: G) 43 #[vk, vs] (.agg (arr .u8 32 (mac k s))) := by
  obtain ⟨P, hPe⟩ : ∃ P, P = mpad k := ⟨_, rfl⟩
  have hP : P.length = 64 := by rw [hPe]; exact mpad_len k
  have hFit := dfit_fn (G := G) vk k hvk hk hkm
  rw [← hPe] at hFit
  obtain ⟨g, hg⟩ : ∃ g, g = bsum (xorl P 54 ++ s) := ⟨_, rfl⟩
  have hgl : bsl (xorl P 54 ++ s) = (List.range 32).map g := by rw [hg]; rfl
  have hmc : bsum (xorl P 92 ++ (List.range 32).map g) = mac k s := by rw [← hgl, hPe]; rfl
  have hgb : ∀ b ∈ (List.range 32).map g, b < 256 := by rw [← hgl]; exact bsl_lt _
  have hg32 : ((List.range 32).map g).length = 32 := by simp
  have hx5 := xorl_len P 54
  have hx9 := xorl_len P 92
  refine Qf1 Tryd.func43 ?_
  refine Qs<|Qp<|(QH 0) fun r1=>Qn<|Qs<|Qp<|(Qm) ?_
  refine e_call rfl (Un 60) hFit rfl rfl ?_
  refine (QH 1) fun r2=>(Qt 1)<|Qn<|Qs<|QR ⟨[], 4, [], none⟩<|(Qd 1) ?_
  refine e_callN 2 (fun v => v) rfl rfl (Un 61) seenG (dturned_fn P 54 hP) (by decide) (by rw [List.length_map, xorl_len, hP]) rfl rfl fun v1_1 oz1_1 ho1_1 => ?_
  refine (Qm) ?_
  refine e_buildSl 3 [v1_1, vs].toArray (Uu 88 rfl) (Uz 33 rfl) (Ub 33 rfl) (by decide) (by decide) rfl (fill_ones [v1_1, vs] 0 _ (by intro v hv; simp only [List.mem_cons, List.not_mem_nil, or_false] at hv; rcases hv with rfl | rfl; exact (shows_one ho1_1.shows); exact (shows_one hvs)) (by simp)) rfl fun r4 => ?_
  refine e_callN 4 (fun v => v) rfl rfl (Un 44) (seen_app seenG (seen_app (seenM 2 rfl ⟨[], trivial⟩) (seen1 3 rfl ⟨[], trivial⟩))) (djoined2 (G := ((DOR :: G) ++ (oz1_1.toList ++ [(⟨r4, [v1_1, vs].toArray, 33⟩ : Blk)]))) r4 v1_1 vs (xorl P 54) s (Shows.mono (own_bytes ho1_1) (fun x h => (List.mem_append_right _ (List.mem_append_left _ h)))) (Shows.mono hvs (fun x h => (List.mem_append_left _ h))) (List.mem_append_right _ (List.mem_append_right _ (List.mem_singleton.2 rfl))) (by rw [xorl_len]; omega)) (by rw [List.length_append]; simp only [maxLen]; omega) (by rw [List.length_map, Nat.mul_one]) rfl rfl fun v1_2 oz1_2 ho1_2 => ?_
  refine e_callS rfl rfl (Un 37) (seen_app seenG (seenM 4 rfl ⟨[], trivial⟩)) (dsum7 (G := G) (X := oz1_2.toList) v1_2 (xorl P 54 ++ s) (own_bytes ho1_2) (xap_lt hb) (by rw [List.length_append, xorl_len]; omega)) rfl rfl ?_
  refine e_as (congrArg (fun f => Value.agg (arr .u8 32 f)) hg.symm) ?_
  refine (QH 5) fun r6=>(Qt 5)<|Qn<|Qs<|(Qq ⟨[], 4, [], none⟩)<|(Qd 1) ?_
  refine e_callN 6 (fun v => v) rfl rfl (Un 61) seenG (dturned_fn P 92 hP) (by decide) (by rw [List.length_map, xorl_len, hP]) rfl rfl fun v1_3 oz1_3 ho1_3 => ?_
  refine e_sliceA 0 32 (Uu 23) (Uz 5) rfl rfl rfl rfl rfl (by omega) (by omega) (by omega) rfl ?_
  refine e_buildSl 7 [v1_3, (.slice (some ⟨r6, 0, none⟩) 32 32)].toArray (Uu 88 rfl) (Uz 33 rfl) (Ub 33 rfl) (by decide) (by decide) rfl (fill_ones [v1_3, (.slice (some ⟨r6, 0, none⟩) 32 32)] 0 _ (by intro v hv; simp only [List.mem_cons, List.not_mem_nil, or_false] at hv; rcases hv with rfl | rfl; exact (shows_one ho1_3.shows); exact rfl) (by simp)) rfl fun r8 => ?_
  refine e_callN 8 (fun v => v) rfl rfl (Un 44) (seen_app seenG (seen_app (seenM 6 rfl ⟨[], trivial⟩) (seen_app (seen1 5 rfl ⟨[], trivial⟩) (seen1 7 rfl ⟨[], trivial⟩)))) (djoined2 (G := ((DOR :: G) ++ (oz1_3.toList ++ ([(⟨r6, arr .u8 32 g, 23⟩ : Blk)] ++ [(⟨r8, [v1_3, (.slice (some ⟨r6, 0, none⟩) 32 32)].toArray, 33⟩ : Blk)])))) r8 v1_3 (.slice (some ⟨r6, 0, none⟩) 32 32) (xorl P 92) ((List.range 32).map g) (Shows.mono (own_bytes ho1_3) (fun x h => (List.mem_append_right _ (List.mem_append_left _ h)))) (Shows.mono (shows32 r6 g 23) (fun x h => (List.mem_append_right _ (List.mem_append_right _ (List.mem_append_left _ h))))) (List.mem_append_right _ (List.mem_append_right _ (List.mem_append_right _ (List.mem_singleton.2 rfl)))) (by rw [xorl_len]; omega)) (by rw [List.length_append]; simp only [maxLen]; omega) (by rw [List.length_map, Nat.mul_one]) rfl rfl fun v1_4 oz1_4 ho1_4 => ?_
  refine e_callS rfl rfl (Un 37) (seen_app seenG (seenM 8 rfl ⟨[], trivial⟩)) (dsum7 (G := G) (X := oz1_4.toList) v1_4 (xorl P 92 ++ (List.range 32).map g) (own_bytes ho1_4) (xap_lt hgb) (by rw [List.length_append, xorl_len]; omega)) rfl rfl ?_
  refine e_as (congrArg (fun f => Value.agg (arr .u8 32 f)) hmc) ?_
  refine (Qt 0)<|Qn<|Qr ?_
  exact ⟨_, rfl, .cell (i := 0) rfl rfl (Uu 23) rfl (Uz 23) (arr_size _ _ _)⟩
end Go.Proofs.YtbjaenjgahjikaaDoor
namespace Go.Proofs.YtbjaenjgahjikaaDoor
open Go Go.RowKit
variable {G : Mem}
set_option maxHeartbeats 400000 in
theorem partsOf_fn (f : Nat → Nat) (h0 : f 0 < 18446744073709551616) (h1 : f 1 < 18446744073709551616) (h2 : f 2 < 4) : Fn Tryd.prog G 113 #[.agg (arr .u64 3 f)] (p5 (w3 f)) := by
  refine Qf1 Tryd.func113 ?_
  refine Qs<|Qp<|(Qh 0) fun r1=>(QH 1) fun r2=>Qn<|Qs<|Qp<|(Qj 0)<|(Q1 0)<|(Q9 67108863) ?_
  refine e_as (congrArg u (po0 (f := f))) ?_
  refine (Qj 0)<|(Q1 0)<|(Q8 26)<|(Q9 67108863) ?_
  refine e_as (congrArg u (po1 (f := f))) ?_
  refine (Qj 0)<|(Q1 0)<|(Q8 52)<|(Qj 1)<|(Q1 0) ?_
  refine e_shl_u (s := 12) rfl rfl rfl (by omega) ?_
  refine e_or_u rfl rfl rfl  ?_
  refine (Q9 67108863) ?_
  refine e_as (congrArg u (po2 h0)) ?_
  refine (Qj 1)<|(Q1 0)<|(Q8 14)<|(Q9 67108863) ?_
  refine e_as (congrArg u (po3 h0)) ?_
  refine (Qj 1)<|(Q1 0)<|(Q8 40)<|(Qj 2)<|(Q1 0) ?_
  refine e_shl_u (s := 24) rfl rfl rfl (by omega) ?_
  refine e_or_u rfl rfl rfl  ?_
  refine e_as (congrArg u (po4 h0 h1 h2)) ?_
  refine e_build (arr .u64 5 (d26 (w3 f))) (Ub 150 rfl) (Uu 150 rfl) (Uz 24 rfl) rfl rfl rfl ?_
  refine (Qt 1)<|Qn<|Qr ?_
  exact ⟨_, rfl, .cell (i := 1) rfl rfl (Uu 150) rfl (Uz 150) (arr_size _ _ _)⟩
set_option maxHeartbeats 400000 in
theorem whole_fn (x : Nat) (hx : x < 2 ^ 130) : Fn Tryd.prog G 115 #[p5 x] (.agg (arr .u64 3 (wd x))) := by
  refine Qf1 Tryd.func115 ?_
  refine Qs<|Qp<|(Qh 0) fun r1=>(QH 1) fun r2=>Qn<|Qs<|Qp<|(Qj 0)<|(Q1 0)<|(Qj 1)<|(Q1 0) ?_
  refine e_shl_u (s := 26) rfl rfl rfl (by omega) ?_
  refine e_or_u rfl rfl rfl  ?_
  refine (Qj 2)<|(Q1 0) ?_
  refine e_shl_u (s := 52) rfl rfl rfl (by omega) ?_
  refine e_or_u rfl rfl rfl  ?_
  refine e_as (congrArg u (wh0 hx)) ?_
  refine (Qj 2)<|(Q1 0)<|(Q8 12)<|(Qj 3)<|(Q1 0) ?_
  refine e_shl_u (s := 14) rfl rfl rfl (by omega) ?_
  refine e_or_u rfl rfl rfl  ?_
  refine (Qj 4)<|(Q1 0) ?_
  refine e_shl_u (s := 40) rfl rfl rfl (by omega) ?_
  refine e_or_u rfl rfl rfl  ?_
  refine e_as (congrArg u (wh1 hx)) ?_
  refine (Qj 4)<|(Q1 0)<|(Q8 24) ?_
  refine e_as (congrArg u (wh2 hx)) ?_
  refine e_build (arr .u64 3 (wd x)) (Ub 124 rfl) (Uu 124 rfl) (Uz 24 rfl) rfl rfl rfl ?_
  refine (Qt 1)<|Qn<|Qr ?_
  exact ⟨_, rfl, .cell (i := 1) rfl rfl (Uu 124) rfl (Uz 124) (arr_size _ _ _)⟩
end Go.Proofs.YtbjaenjgahjikaaDoor
namespace Go.Proofs.YtbjaenjgahjikaaDoor
open Go Go.RowKit
variable {G : Mem}
set_option maxHeartbeats 400000 in
theorem carried_fn (f : Nat → Nat) (hf : ∀ j, j < 5 → f j < 1152921504606846976) : Fn Tryd.prog G 114 #[.agg (arr .u64 5 f)] (p5 (v26 f 5 % QQ)) := by
  refine Qf1 Tryd.func114 ?_
  refine Qs<|Qp<|(Qh 0) fun r1=>(QH 1) fun r2=>Qn<|Qs<|Qs<|Qp<|(Qm)<|Qn<|Qb ?_
  refine Qz (fun kk E m => ∃ (k : Nat) (s : Nat → Nat), kk = 3 - k ∧ E = [(1, ptr r1), (2, ptr r2), (7, ii k)] ∧ m = [(0, some ⟨r1, arr .u64 5 s, 150⟩), (1, some ⟨r2, arr .u64 5 (fun _ => 0), 150⟩)] ∧ (k ≤ 3) ∧ (∀ j, j < 5 → s j < 1152921504606846976) ∧ (v26 s 5 < bnd5 k) ∧ (v26 s 5 % QQ = v26 f 5 % QQ) ∧ (k = 3 → ∀ j, j < 5 → s j < 67108864)) ⟨0, f, rfl, rfl, rfl, by omega, hf, v26_bound f hf, rfl, fun h => absurd h (by decide)⟩ ⟨rfl, rfl, rfl, trivial⟩ ⟨rfl, rfl, trivial⟩ ?_
  rintro kk E m ⟨k, s, rfl, rfl, rfl, hf0_0, hf0_1, hf0_2, hf0_3, hf0_4⟩
  refine Qs<|Qp<|(Ql)<|Qn<|Qs ?_
  refine e_cond rfl ?_ ?_
  · intro hc0
    have hc0 := of_decide_eq_true hc0
    refine Qk<|Qs<|Qb<|Qs<|Qp<|(Qa)<|Qn<|Qs<|Qs<|Qp<|(Qm)<|Qn<|Qb ?_
    refine Qz (fun kk E m => ∃ (i : Nat) (s2 : Nat → Nat) (c : Nat), kk = 5 - i ∧ E = [(1, ptr r1), (2, ptr r2), (7, ii k), (3, u c), (9, ii i)] ∧ m = [(0, some ⟨r1, arr .u64 5 s2, 150⟩), (1, some ⟨r2, arr .u64 5 (fun _ => 0), 150⟩)] ∧ (i ≤ 5) ∧ (v26 s2 i + c * 2 ^ (26 * i) = v26 s i) ∧ (∀ j, i ≤ j → s2 j = s j) ∧ (∀ j, j < i → s2 j < 67108864) ∧ (c < 34359738368)) ⟨0, s, 0, rfl, rfl, rfl, by omega, by rw [Nat.zero_mul]; rfl, fun j _ => rfl, fun j hj => absurd hj (Nat.not_lt_zero j), by decide⟩ ⟨rfl, rfl, rfl, rfl, rfl, trivial⟩ ⟨rfl, rfl, trivial⟩ ?_
    rintro kk E m ⟨i, s2, c, rfl, rfl, rfl, hf1_0, hf1_1, hf1_2, hf1_3, hf1_4⟩
    have hsi : i < 5 → s2 i < 1152921504606846976 := fun h => by rw [hf1_2 i (Nat.le_refl i)]; exact hf0_1 i h
    refine Qs<|Qp<|(Ql)<|Qn<|Qs ?_
    refine e_cond rfl ?_ ?_
    · intro hc1
      have hc1 := of_decide_eq_true hc1
      have hsi2 := hsi (by omega)
      refine Qk<|Qs<|Qb<|Qs<|Qp<|(Qm)<|(Qa)<|Qn<|Qs<|Qp<|(Qm)<|(Qm)<|(Qi)<|(Q1 0) ?_
      refine e_add_u rfl rfl rfl  ?_
      refine e_as (congrArg u (Nat.mod_eq_of_lt (show c + s2 i < 18446744073709551616 by omega))) ?_
      refine (Qa)<|Qn<|Qp<|(Qm)<|(Qm)<|(Q9 67108863) ?_
      refine e_as (congrArg u (m26 _)) ?_
      refine (Qm)<|(Q8 26) ?_
      refine e_as (show _ = u ((c + s2 i) / 67108864) from rfl) ?_
      refine (Qi)<|(Qu 0)<|(Qa)<|Qn<|Qp<|(Q2 1)<|(Qm)<|Qn ?_
      refine Qzr ⟨i + 1, upd s2 i _, (c + s2 i) / 67108864, rfl, rfl, rfl, by omega, carry26 hf1_1 (hf1_2 i (Nat.le_refl i)), upd_ge hf1_2, mod_below hf1_3, by omega⟩ ⟨rfl, rfl, rfl, rfl, rfl, trivial⟩ ⟨rfl, rfl, trivial⟩ ?_
      omega
    · intro hc1
      have hc1 := of_decide_eq_false hc1
      have hi5 : i = 5 := by omega
      subst hi5
      have hs20 := hf1_3 0 (by decide)
      refine Qe<|Qp<|(Qj 0)<|(Q1 0)<|(Qm) ?_
      refine e_mul_u (p := 5) rfl rfl rfl  ?_
      refine e_as (congrArg u (Nat.mod_eq_of_lt (show 5 * c < 18446744073709551616 by omega))) ?_
      refine e_add_u rfl rfl rfl  ?_
      refine e_as (congrArg u (Nat.mod_eq_of_lt (show s2 0 + 5 * c < 18446744073709551616 by omega))) ?_
      refine (Qj 0)<|(Qu 0)<|Qn<|Qp<|(Q2 1)<|(Qm)<|Qn ?_
      refine Qzr ⟨k + 1, upd s2 0 _, rfl, rfl, rfl, by omega, rnd_small hf1_3 hf1_4, by rw [rnd_next5 hf1_1 hf1_3]; exact bnd5_next _ _ hf0_2, by rw [rnd_next5 hf1_1 hf1_3, round5]; exact hf0_3, rnd_last hf1_1 hf1_3 hf0_2⟩ ⟨rfl, rfl, rfl, trivial⟩ ⟨rfl, rfl, trivial⟩ ?_
      omega
  · intro hc0
    have hc0 := of_decide_eq_false hc0
    have hk3 : k = 3 := by omega
    subst hk3
    have hs5 := hf0_4 rfl
    have hs0 := hs5 0 (by decide)
    have hT : v26 s 5 < 2 ^ 130 := hf0_2
    refine Qe<|Qs<|Qp<|(Qd 0)<|(QH 2) fun r3=>(Qt 2)<|Qn<|Qs<|Qp<|(Qj 0)<|(Q1 2) ?_
    refine e_add_u (q := 5) rfl rfl rfl  ?_
    refine e_as (congrArg u (Nat.mod_eq_of_lt (show s 0 + 5 < 18446744073709551616 by omega))) ?_
    refine (Qj 0)<|(Qu 2)<|Qn<|Qs<|Qs<|Qp<|(Qm)<|Qn<|Qb ?_
    refine Qz (fun kk E m => ∃ (n : Nat) (q : Nat → Nat), kk = 4 - n ∧ E = [(1, ptr r1), (2, ptr r2), (5, ptr r3), (36, ii n)] ∧ m = [(0, some ⟨r1, arr .u64 5 s, 150⟩), (1, some ⟨r2, arr .u64 5 (fun _ => 0), 150⟩), (2, some ⟨r3, arr .u64 5 q, 150⟩)] ∧ (n ≤ 4) ∧ (v26 q 5 = v26 s 5 + 5) ∧ (∀ j, j < n → q j < 67108864) ∧ (∀ j, n < j → j < 5 → q j < 67108864) ∧ (q n < 67108869)) ⟨0, upd s 0 _, rfl, rfl, rfl, by omega, q_start, fun j hj => absurd hj (Nat.not_lt_zero j), fun j h h5 => by rw [upd_off (by omega)]; exact hs5 j h5, by rw [upd_on]; have := hs5 0 (by decide); omega⟩ ⟨rfl, rfl, rfl, rfl, trivial⟩ ⟨rfl, rfl, rfl, trivial⟩ ?_
    rintro kk E m ⟨n, q, rfl, rfl, rfl, hf2_0, hf2_1, hf2_2, hf2_3, hf2_4⟩
    refine Qs<|Qp<|(Ql)<|Qn<|Qs ?_
    refine e_cond rfl ?_ ?_
    · intro hc2
      have hc2 := of_decide_eq_true hc2
      have hq1 := hf2_3 (n + 1) (by omega) (by omega)
      refine Qk<|Qs<|Qb<|Qs<|Qp<|(Qm)<|(Qa)<|Qn<|Qs<|(Qg)<|(Qm)<|(Q2 1)<|(Qi)<|(Q1 2)<|(Qm)<|(Qi)<|(Q1 2)<|(Q8 26) ?_
      refine e_as (show _ = u (q n / 67108864) from rfl) ?_
      refine e_add_u rfl rfl rfl  ?_
      refine e_as (congrArg u (Nat.mod_eq_of_lt (show q (n + 1) + q n / 67108864 < 18446744073709551616 by omega))) ?_
      refine (Qi)<|(Qu 2)<|Qn<|Qp<|(Qm)<|(Qi)<|(Q1 2) ?_
      refine e_as (congrArg u (upd_off (by omega))) ?_
      refine (Q9 67108863) ?_
      refine e_as (congrArg u (m26 _)) ?_
      refine (Qi)<|(Qu 2)<|Qn<|Qp<|(Q2 1)<|(Qm)<|Qn ?_
      refine Qzr ⟨n + 1, upd (upd q (n + 1) _) n _, rfl, rfl, rfl, by omega, (q_step (by omega)).trans hf2_1, q_low hf2_2, q_high hf2_3, q_here (by omega) hf2_3 hf2_4⟩ ⟨rfl, rfl, rfl, rfl, trivial⟩ ⟨rfl, rfl, rfl, trivial⟩ ?_
      omega
    · intro hc2
      have hc2 := of_decide_eq_false hc2
      have hn4 : n = 4 := by omega
      subst hn4
      refine Qe<|Qs<|Qs<|Qp<|(Qj 4)<|(Q1 2)<|(Q8 26)<|(QG)<|Qn ?_
      refine e_cond rfl ?_ ?_
      · intro hc3
        have hc3 := of_decide_eq_true hc3
        have hge : QQ ≤ v26 s 5 := (top5 hf2_1 hf2_2 hT).1.1 (by omega)
        refine Qs<|Qp<|(Qj 4)<|(Q1 2)<|(Q9 67108863) ?_
        refine e_as (congrArg u (m26 _)) ?_
        refine (Qj 4)<|(Qu 2)<|Qn<|Qs<|Qp<|(Qd 2) ?_
        refine e_as (p5_of (mod_below hf2_2) (((top5 hf2_1 hf2_2 hT).2 hge).trans hf0_3)) ?_
        refine (Qt 1)<|Qn<|Qr ?_
        exact ⟨_, rfl, .cell (i := 1) rfl rfl (Uu 150) rfl (Uz 150) (arr_size _ _ _)⟩
      · intro hc3
        have hc3 := of_decide_eq_false hc3
        have hlt : v26 s 5 < QQ := Nat.lt_of_not_le fun h => hc3 (by have := (top5 hf2_1 hf2_2 hT).1.2 h; omega)
        refine Qk<|Qs<|Qp<|(Qd 0) ?_
        refine e_as (p5_of hs5 ((Nat.mod_eq_of_lt hlt).symm.trans hf0_3)) ?_
        refine (Qt 1)<|Qn<|Qr ?_
        exact ⟨_, rfl, .cell (i := 1) rfl rfl (Uu 150) rfl (Uz 150) (arr_size _ _ _)⟩
end Go.Proofs.YtbjaenjgahjikaaDoor
namespace Go.Proofs.YtbjaenjgahjikaaDoor
open Go Go.RowKit
variable {G : Mem}
set_option maxHeartbeats 400000 in
theorem times5_fn (x y : Nat) (hx : x < 2 ^ 130) (hy : y < 2 ^ 130) : Fn Tryd.prog G 116 #[p5 x, p5 y] (p5 (x * y % QQ)) := by
  have hvy : v26 (d26 y) 5 = y := (v26_d26 y 5).trans (Nat.mod_eq_of_lt hy)
  refine Qf1 Tryd.func116 ?_
  refine Qs<|Qp<|(Qh 0) fun r1=>(Qh 1) fun r2=>(QH 2) fun r3=>Qn<|Qs<|Qp<|(QH 3) fun r4=>Qn<|Qs<|Qs<|Qp<|(Qd 0)<|(Qm)<|Qn<|Qb ?_
  refine Qz (fun kk E m => ∃ (i : Nat) (s : Nat → Nat), kk = 5 - i ∧ E = [(2, ptr r1), (3, ptr r2), (4, ptr r3), (5, ptr r4), (11, p5 x), (12, ii i)] ∧ m = [(0, some ⟨r1, arr .u64 5 (d26 x), 150⟩), (1, some ⟨r2, arr .u64 5 (d26 y), 150⟩), (2, some ⟨r3, arr .u64 5 (fun _ => 0), 150⟩), (3, some ⟨r4, arr .u64 5 s, 150⟩)] ∧ (i ≤ 5) ∧ (∀ t, t < 5 → s t ≤ 5 * i * 22517997465763845) ∧ (v26 s 5 % QQ = (v26 (d26 x) i * y + d26 x i * v26 (d26 y) 0 * 2 ^ (26 * i)) % QQ)) ⟨0, fun _ => 0, rfl, rfl, rfl, by omega, fun t _ => Nat.zero_le _, by simp [v26]⟩ ⟨rfl, rfl, rfl, rfl, rfl, rfl, trivial⟩ ⟨rfl, rfl, rfl, rfl, trivial⟩ ?_
  rintro kk E m ⟨i, s, rfl, rfl, rfl, hf0_0, hf0_1, hf0_2⟩
  refine Qs<|Qp<|(Ql)<|Qn<|Qs ?_
  refine e_cond rfl ?_ ?_
  · intro hc0
    have hc0 := of_decide_eq_true hc0
    refine Qk<|Qs<|Qb<|Qs<|Qp<|(Qm)<|(QX)<|(Qa)<|(Qa)<|Qn<|Qs<|Qp<|(Qd 1)<|(Qm)<|Qn<|Qb ?_
    refine Qz (fun kk E m => ∃ (j : Nat) (s2 : Nat → Nat), kk = 5 - j ∧ E = [(2, ptr r1), (3, ptr r2), (4, ptr r3), (5, ptr r4), (11, p5 x), (12, ii i), (6, ii i), (7, u (d26 x i)), (16, p5 y), (17, ii j)] ∧ m = [(0, some ⟨r1, arr .u64 5 (d26 x), 150⟩), (1, some ⟨r2, arr .u64 5 (d26 y), 150⟩), (2, some ⟨r3, arr .u64 5 (fun _ => 0), 150⟩), (3, some ⟨r4, arr .u64 5 s2, 150⟩)] ∧ (j ≤ 5) ∧ (∀ t, t < 5 → s2 t ≤ (5 * i + j) * 22517997465763845) ∧ (v26 s2 5 % QQ = (v26 (d26 x) i * y + d26 x i * v26 (d26 y) j * 2 ^ (26 * i)) % QQ)) ⟨0, s, rfl, rfl, rfl, by omega, hf0_1, hf0_2⟩ ⟨rfl, rfl, rfl, rfl, rfl, rfl, rfl, rfl, rfl, rfl, trivial⟩ ⟨rfl, rfl, rfl, rfl, trivial⟩ ?_
    rintro kk E m ⟨j, s2, rfl, rfl, rfl, hf1_0, hf1_1, hf1_2⟩
    have hde := tm_le (x := x) (y := y) (i := i) (j := j)
    have hsr := hf1_1 ((i + j) % 5) (Nat.mod_lt _ (by decide))
    refine Qs<|Qp<|(Ql)<|Qn<|Qs ?_
    refine e_cond rfl ?_ ?_
    · intro hc1
      have hc1 := of_decide_eq_true hc1
      refine Qk<|Qs<|Qb<|Qs<|Qp<|(Qm)<|(QX)<|(Qa)<|(Qa)<|Qn<|Qs<|Qp<|(Qm)<|(Qm) ?_
      refine e_mul_u rfl rfl rfl  ?_
      refine e_as (congrArg u (Nat.mod_eq_of_lt (show d26 x i * d26 y j < 18446744073709551616 by omega))) ?_
      refine (Qa)<|Qn<|Qs<|Qs<|Qp<|(Qm)<|(Qm)<|(Q3)<|(QE)<|Qn ?_
      refine e_cond rfl ?_ ?_
      · intro hc2
        have hc2 := of_decide_eq_true hc2
        refine Qp<|(Qm) ?_
        refine e_mul_u (q := 5) rfl rfl rfl  ?_
        refine e_as (congrArg u (Nat.mod_eq_of_lt (show d26 x i * d26 y j * 5 < 18446744073709551616 by omega))) ?_
        refine (Qa)<|Qn<|Qp<|(Qm)<|(Qm)<|(Q3)<|(Q4 5)<|(Qi)<|(Q1 3)<|(Qm) ?_
        refine e_add_u rfl rfl rfl  ?_
        refine e_as (congrArg u (Nat.mod_eq_of_lt (show s2 ((i + j) % 5) + _ < 18446744073709551616 by omega))) ?_
        refine (Qi)<|(Qu 3)<|Qn<|Qp<|(Q2 1)<|(Qm)<|Qn ?_
        refine Qzr ⟨j + 1, upd s2 ((i + j) % 5) _, rfl, rfl, rfl, by omega, tm_bnd (Nat.mod_lt _ (by decide)) hf1_1 (by omega), tm_step (by omega) (by omega) hf1_2 (by first | rw [if_pos (by omega)] | rw [if_neg (by omega)])⟩ ⟨rfl, rfl, rfl, rfl, rfl, rfl, rfl, rfl, rfl, rfl, trivial⟩ ⟨rfl, rfl, rfl, rfl, trivial⟩ ?_
        omega
      · intro hc2
        have hc2 := of_decide_eq_false hc2
        refine Qk<|Qp<|(Qm)<|(Qm)<|(Q3)<|(Q4 5)<|(Qi)<|(Q1 3)<|(Qm) ?_
        refine e_add_u rfl rfl rfl  ?_
        refine e_as (congrArg u (Nat.mod_eq_of_lt (show s2 ((i + j) % 5) + _ < 18446744073709551616 by omega))) ?_
        refine (Qi)<|(Qu 3)<|Qn<|Qp<|(Q2 1)<|(Qm)<|Qn ?_
        refine Qzr ⟨j + 1, upd s2 ((i + j) % 5) _, rfl, rfl, rfl, by omega, tm_bnd (Nat.mod_lt _ (by decide)) hf1_1 (by omega), tm_step (by omega) (by omega) hf1_2 (by first | rw [if_pos (by omega)] | rw [if_neg (by omega)])⟩ ⟨rfl, rfl, rfl, rfl, rfl, rfl, rfl, rfl, rfl, rfl, trivial⟩ ⟨rfl, rfl, rfl, rfl, trivial⟩ ?_
        omega
    · intro hc1
      have hc1 := of_decide_eq_false hc1
      have hj5 : j = 5 := by omega
      subst hj5
      refine Qe<|Qp<|(Q2 1)<|(Qm)<|Qn ?_
      refine Qzr ⟨i + 1, s2, rfl, rfl, rfl, by omega, hf1_1, hf1_2.trans (congrArg (fun z => z % QQ) (tm_row hvy))⟩ ⟨rfl, rfl, rfl, rfl, rfl, rfl, trivial⟩ ⟨rfl, rfl, rfl, rfl, trivial⟩ ?_
      omega
  · intro hc0
    have hc0 := of_decide_eq_false hc0
    have hi5 : i = 5 := by omega
    subst hi5
    refine Qe<|Qs<|Qp<|(Qd 3) ?_
    refine e_call rfl (Un 114) (carried_fn s (fun t ht => by have := hf0_1 t ht; omega)) rfl rfl ?_
    refine e_as (congrArg p5 (hf0_2.trans (congrArg (fun z => z % QQ) (tm_end hx)))) ?_
    refine (Qt 2)<|Qn<|Qr ?_
    exact ⟨_, rfl, .cell (i := 2) rfl rfl (Uu 150) rfl (Uz 150) (arr_size _ _ _)⟩
end Go.Proofs.YtbjaenjgahjikaaDoor
namespace Go.Proofs.YtbjaenjgahjikaaDoor
open Go Go.RowKit
variable {G : Mem}
set_option maxHeartbeats 2000000 in
theorem soaked_fn (r p a h : Nat → Nat) (n : Int) (l : List Nat) (hl : l.length ≤ 16) (hb : ∀ b ∈ l, b < 256) (ha0 : a 0 < 18446744073709551616) (ha1 : a 1 < 18446744073709551616) (ha2 : a 2 < 4) (hr0 : r 0 < 18446744073709551616) (hr1 : r 1 < 18446744073709551616) : Fn Tryd.prog G 109 #[PV r p a h n, sv l] (PV r p (wd (pst (k3 r) (w3 a) l)) (fun _ => 0) 0) := by
  have hB : leN (l ++ [1]) < 2 ^ 130 := Nat.lt_trans (bl_small hb hl) (by decide)
  have hA := w3_lt ha0 ha1 ha2
  obtain ⟨B, hBe⟩ : ∃ B, B = leN (l ++ [1]) := ⟨_, rfl⟩
  rw [← hBe] at hB
  have hps : pst (k3 r) (w3 a) l = (w3 a + B) % QQ * k3 r % QQ := by rw [hBe]; rfl
  refine Qf1 Tryd.func109 ?_
  refine Qs<|Qp<|(Qh 0) fun r1=>(QH 1) fun r2=>Qn<|Qs<|Qp<|(Qm) ?_
  refine e_catS (k := [1]) rfl rfl rfl (by simp; omega) ?_
  refine (Qa)<|Qn<|Qs<|Qb ?_
  refine Qz (fun kk E m => ∃ (z : Nat), kk = 24 - z ∧ E = [(1, sv l), (2, ptr r1), (4, ptr r2), (5, sv (bl l z))] ∧ m = [(0, some ⟨r1, cells 24 [pI .u64 2 r, pI .u64 2 p, pI .u64 3 a, pI .u8 16 h, pV (.int .i64 n)], 126⟩), (1, some ⟨r2, cells 24 [pI .u64 2 (fun _ => 0), pI .u64 2 (fun _ => 0), pI .u64 3 (fun _ => 0), pI .u8 16 (fun _ => 0), pV (.int .i64 0)], 126⟩)] ∧ (l.length + 1 + z ≤ 24)) ⟨0, rfl, rfl, rfl, by omega⟩ ⟨rfl, rfl, rfl, by rw [← List.append_nil (l ++ [1])]; rfl, trivial⟩ ⟨rfl, rfl, trivial⟩ ?_
  rintro kk E m ⟨z, rfl, rfl, rfl, hf0_0⟩
  have hbm := bl_len l z
  refine Qs<|Qs<|Qp<|(Qm)<|(QU)<|(Ql)<|Qn ?_
  refine e_cond rfl ?_ ?_
  · intro hc0
    have hc0 := of_decide_eq_true hc0
    refine Qk<|Qb<|Qp<|(Qm) ?_
    refine e_catS (k := [0]) rfl rfl rfl (by rw [bl_len]; simp; omega) ?_
    refine (Qa)<|Qn ?_
    refine Qzr ⟨z + 1, rfl, rfl, rfl, by omega⟩ ⟨rfl, rfl, rfl, by rw [← bl_succ]; rfl, trivial⟩ ⟨rfl, rfl, trivial⟩ ?_
    omega
  · intro hc0
    have hc0 := of_decide_eq_false hc0
    have hbm : (bl l z).length = 24 := by omega
    have hbb := bl_lt hb z
    refine Qe<|Qs<|(Qg)<|(Qm) ?_
    refine e_sliceStr 0 8 (Uu 9) rfl rfl rfl rfl ⟨_, rfl⟩ (by omega) (by omega) rfl ?_
    refine e_call rfl (Un 74) (number_fn _ (by rw [List.length_take]; omega) (take_lt hbb _ _)) rfl rfl ?_
    refine e_as (show _ = u (w8 (bl l z) 0) from rfl) ?_
    refine (Qm) ?_
    refine e_sliceStr 8 16 (Uu 9) rfl rfl rfl ⟨_, rfl⟩ ⟨_, rfl⟩ (by omega) (by omega) rfl ?_
    refine e_call rfl (Un 74) (number_fn _ (by rw [List.length_take]; omega) (take_lt hbb _ _)) rfl rfl ?_
    refine e_as (show _ = u (w8 (bl l z) 1) from rfl) ?_
    refine (Qm) ?_
    refine e_sliceStr 16 24 (Uu 9) rfl rfl rfl ⟨_, rfl⟩ ⟨_, rfl⟩ (by omega) (by omega) rfl ?_
    refine e_call rfl (Un 74) (number_fn _ (by rw [List.length_take]; omega) (take_lt hbb _ _)) rfl rfl ?_
    refine e_as (show _ = u (w8 (bl l z) 2) from rfl) ?_
    refine e_build (arr .u64 3 (w8 (bl l z))) (Ub 124 rfl) (Uu 124 rfl) (Uz 24 rfl) rfl rfl rfl ?_
    refine e_call rfl (Un 113) (partsOf_fn _ (w8_lt hbb 0) (w8_lt hbb 1) (w8_top hb hl hbm)) rfl rfl ?_
    refine e_as (congrArg p5 (((w8_all hbm).trans (bl_leN l z)).trans hBe.symm)) ?_
    refine (QH 2) fun r3=>(Qt 2)<|Qn<|Qs<|Qp<|(Qf 4)<|(Qv 2 0) ?_
    refine e_call rfl (Un 113) (partsOf_fn a ha0 ha1 ha2) rfl rfl ?_
    refine (QH 3) fun r4=>(Qt 3)<|Qn<|Qs<|Qs<|Qp<|(Qm)<|Qn<|Qb ?_
    refine Qz (fun kk E m => ∃ (i : Nat) (s : Nat → Nat), kk = 5 - i ∧ E = [(2, ptr r1), (4, ptr r2), (6, ptr r3), (7, ptr r4), (30, ii i)] ∧ m = [(0, some ⟨r1, cells 24 [pI .u64 2 r, pI .u64 2 p, pI .u64 3 a, pI .u8 16 h, pV (.int .i64 n)], 126⟩), (1, some ⟨r2, cells 24 [pI .u64 2 (fun _ => 0), pI .u64 2 (fun _ => 0), pI .u64 3 (fun _ => 0), pI .u8 16 (fun _ => 0), pV (.int .i64 0)], 126⟩), (2, some ⟨r3, arr .u64 5 (d26 B), 150⟩), (3, some ⟨r4, arr .u64 5 s, 150⟩)] ∧ (i ≤ 5) ∧ (∀ j, j < i → s j = d26 (w3 a) j + d26 B j) ∧ (∀ j, i ≤ j → s j = d26 (w3 a) j)) ⟨0, d26 (w3 a), rfl, rfl, rfl, by omega, fun j hj => absurd hj (Nat.not_lt_zero j), fun j _ => rfl⟩ ⟨rfl, rfl, rfl, rfl, rfl, trivial⟩ ⟨rfl, rfl, rfl, rfl, trivial⟩ ?_
    rintro kk E m ⟨i, s, rfl, rfl, rfl, hf1_0, hf1_1, hf1_2⟩
    have hd1 := d26_lt (w3 a) i
    have hd2 := d26_lt B i
    have hsi := hf1_2 i (Nat.le_refl i)
    refine Qs<|Qp<|(Ql)<|Qn<|Qs ?_
    refine e_cond rfl ?_ ?_
    · intro hc1
      have hc1 := of_decide_eq_true hc1
      refine Qk<|Qs<|Qb<|Qs<|Qp<|(Qm)<|(Qa)<|Qn<|(Qg)<|(Qm)<|(Qi)<|(Q1 3)<|(Qm)<|(Qi)<|(Q1 2) ?_
      refine e_add_u rfl rfl rfl  ?_
      refine e_as (congrArg u (Nat.mod_eq_of_lt (show s i + d26 B i < 18446744073709551616 by omega))) ?_
      refine (Qi)<|(Qu 3)<|Qn<|Qp<|(Q2 1)<|(Qm)<|Qn ?_
      refine Qzr ⟨i + 1, upd s i _, rfl, rfl, rfl, by omega, upd_lt hf1_1 (by rw [hf1_2 i (Nat.le_refl i)]), upd_ge hf1_2⟩ ⟨rfl, rfl, rfl, rfl, rfl, trivial⟩ ⟨rfl, rfl, rfl, rfl, trivial⟩ ?_
      omega
    · intro hc1
      have hc1 := of_decide_eq_false hc1
      have hi5 : i = 5 := by omega
      subst hi5
      refine Qe<|Qs<|(Qg)<|(Qd 3) ?_
      refine e_as (congrArg Value.agg (arr_congr hf1_1)) ?_
      refine e_call rfl (Un 114) (carried_fn _ (fun j _ => by have := d26_lt (w3 a) j; have := d26_lt B j; omega)) rfl rfl ?_
      refine e_as (congrArg (fun z => p5 (z % QQ)) (add_five _ _ hA hB)) ?_
      refine (Qf 0)<|(Qj 0)<|(QI 0 0 0)<|(Qf 0)<|(Qj 1)<|(QI 0 1 0) ?_
      refine e_build (arr .u64 3 (upd r 2 0)) (Ub 124 rfl) (Uu 124 rfl) (Uz 24 rfl) rfl rfl rfl ?_
      refine e_call rfl (Un 113) (partsOf_fn (upd r 2 0) hr0 hr1 (by rw [upd_on]; decide)) rfl rfl ?_
      refine e_as (congrArg p5 (w3_k3 r)) ?_
      refine e_call rfl (Un 116) (times5_fn _ _ (mod_lt30 _) (k3_lt hr0 hr1)) rfl rfl ?_
      refine e_as (congrArg p5 hps.symm) ?_
      refine e_call rfl (Un 115) (whole_fn _ (mod_lt30 _)) rfl rfl ?_
      refine (Qf 4) ?_
      refine e_stC (i := 0) 2 (Uz 124) rfl rfl rfl rfl (by decide) (.inl rfl) ?_
      refine Qn<|Qs<|Qp ?_
      refine e_build0 (Ub 96 rfl) (Uu 96 rfl) sis5 rfl ?_
      refine (Qf 7) ?_
      refine e_stC (i := 0) 3 (Uz 96) rfl rfl rfl rfl (by decide) (.inl rfl) ?_
      refine (Qf 23) ?_
      refine e_stV (i := 0) 4 (Uz 3) rfl rfl rfl rfl rfl (by decide) (.inl rfl) ?_
      refine Qn<|Qs<|Qp<|(QD 0) ?_
      refine e_as (show _ = PV r p (wd (pst (k3 r) (w3 a) l)) (fun _ => 0) 0 from rfl) ?_
      refine e_storeA (i := 1) (Uz 126) rfl rfl (arrv_size _ _) (cells_one ⟨fun _ => rfl, fun _ => rfl, fun _ => rfl, fun _ => rfl, fun _ => rfl, trivial⟩) rfl cells_sz (.inl rfl) ?_
      refine Qn<|Qr ?_
      exact ⟨_, rfl, .cell (i := 1) rfl rfl (Uu 126) rfl (Uz 126) (arrv_size _ _)⟩
end Go.Proofs.YtbjaenjgahjikaaDoor
namespace Go.Proofs.YtbjaenjgahjikaaDoor
open Go Go.RowKit
variable {G : Mem}
set_option maxHeartbeats 2000000 in
theorem begun_fn (f : Nat → Nat) (hf : L8 32 f) : Fn Tryd.prog G 98 #[.agg (arr .u8 32 f)] (PV (w8 (bL f)) (fun j => w8 (bL f) (j + 2)) (fun _ => 0) (fun _ => 0) 0) := by
  have hLl := bL_len f
  have hLb := bL_lt hf
  refine Qf1 Tryd.func98 ?_
  refine Qs<|Qp<|(Qh 0) fun r1=>(QH 1) fun r2=>Qn<|Qs<|Qs<|Qp<|(Qm)<|Qn<|Qb ?_
  refine Qz (fun kk E m => ∃ (i : Nat) (s : Nat → Nat), kk = 4 - i ∧ E = [(1, ptr r1), (2, ptr r2), (6, ii i)] ∧ m = [(0, some ⟨r1, arr .u8 32 s, 23⟩), (1, some ⟨r2, cells 24 [pI .u64 2 (fun _ => 0), pI .u64 2 (fun _ => 0), pI .u64 3 (fun _ => 0), pI .u8 16 (fun _ => 0), pV (.int .i64 0)], 126⟩)] ∧ (i ≤ 4) ∧ (∀ j, s j = mk1 f i j)) ⟨0, f, rfl, rfl, rfl, by omega, fun j => by unfold mk1; rw [if_neg (by omega)]⟩ ⟨rfl, rfl, rfl, trivial⟩ ⟨rfl, rfl, trivial⟩ ?_
  rintro kk E m ⟨i, s, rfl, rfl, rfl, hf0_0, hf0_1⟩
  refine Qs<|Qp<|(Ql)<|Qn<|Qs ?_
  refine e_cond rfl ?_ ?_
  · intro hc0
    have hc0 := of_decide_eq_true hc0
    refine Qk<|Qs<|Qb<|Qs<|Qp<|(Qm)<|(Qa)<|Qn<|Qp<|(Qm)<|(Q7 4)<|(Q2 3)<|(Qi)<|(Q1 0) ?_
    refine e_and_b (q := 15) rfl rfl rfl  ?_
    refine (Qi)<|(Qu 0)<|Qn<|Qp<|(Q2 1)<|(Qm)<|Qn ?_
    refine Qzr ⟨i + 1, upd s (4 * i + 3) _, rfl, rfl, rfl, by omega, mk1_next hf0_1⟩ ⟨rfl, rfl, rfl, trivial⟩ ⟨rfl, rfl, trivial⟩ ?_
    omega
  · intro hc0
    have hc0 := of_decide_eq_false hc0
    have hi4 : i = 4 := by omega
    subst hi4
    refine Qe<|Qs<|Qs<|Qp<|(Qa)<|Qn<|Qb ?_
    refine Qz (fun kk E m => ∃ (e : Nat) (q : Nat → Nat), kk = 3 - e ∧ E = [(1, ptr r1), (2, ptr r2), (4, ii (4 * (e + 1)))] ∧ m = [(0, some ⟨r1, arr .u8 32 q, 23⟩), (1, some ⟨r2, cells 24 [pI .u64 2 (fun _ => 0), pI .u64 2 (fun _ => 0), pI .u64 3 (fun _ => 0), pI .u8 16 (fun _ => 0), pV (.int .i64 0)], 126⟩)] ∧ (e ≤ 3) ∧ (∀ j, q j = mk2 f e j)) ⟨0, s, rfl, rfl, rfl, by omega, fun j => (hf0_1 j).trans (mk1_mk2 j)⟩ ⟨rfl, rfl, rfl, trivial⟩ ⟨rfl, rfl, trivial⟩ ?_
    rintro kk E m ⟨e, q, rfl, rfl, rfl, hf1_0, hf1_1⟩
    refine Qs<|Qs<|Qp<|(Qm)<|(Ql)<|Qn ?_
    refine e_cond rfl ?_ ?_
    · intro hc1
      have hc1 := of_decide_eq_true hc1
      refine Qk<|Qs<|Qb<|Qp<|(Qm)<|(Qi)<|(Q1 0) ?_
      refine e_and_b (q := 252) rfl rfl rfl  ?_
      refine (Qi)<|(Qu 0)<|Qn<|Qp<|(Qm)<|(Q2 4)<|(Qa)<|Qn ?_
      refine Qzr ⟨e + 1, upd q (4 * (e + 1)) _, rfl, rfl, rfl, by omega, mk2_next (by omega) hf1_1⟩ ⟨rfl, rfl, rfl, trivial⟩ ⟨rfl, rfl, trivial⟩ ?_
      omega
    · intro hc1
      have hc1 := of_decide_eq_false hc1
      have he3 : e = 3 := by omega
      subst he3
      refine Qe<|Qs<|Qp ?_
      refine e_sliceA 0 32 (Uu 23) (Uz 5) rfl rfl rfl rfl rfl (by omega) (by omega) (by omega) rfl ?_
      refine e_conv_str (i := 0) (Uu 33) (Uu 5) (Uu 9) rfl rfl (by omega) rfl rfl ⟨[], trivial⟩ ?_
      refine e_as ((conv_all q 32).trans (congrArg sv (bL_of hf1_1))) ?_
      refine (Qa)<|Qn<|Qs<|(Qg)<|(Qm) ?_
      refine e_sliceStr 0 8 (Uu 9) rfl rfl rfl rfl ⟨_, rfl⟩ (by omega) (by omega) rfl ?_
      refine e_call rfl (Un 74) (number_fn _ (by rw [List.length_take]; omega) (take_lt hLb _ _)) rfl rfl ?_
      refine e_as (show _ = u (w8 (bL f) 0) from rfl) ?_
      refine (Qm) ?_
      refine e_sliceStr 8 16 (Uu 9) rfl rfl rfl ⟨_, rfl⟩ ⟨_, rfl⟩ (by omega) (by omega) rfl ?_
      refine e_call rfl (Un 74) (number_fn _ (by rw [List.length_take]; omega) (take_lt hLb _ _)) rfl rfl ?_
      refine e_as (show _ = u (w8 (bL f) 1) from rfl) ?_
      refine e_build (arr .u64 2 (w8 (bL f))) (Ub 123 rfl) (Uu 123 rfl) (Uz 24 rfl) rfl rfl rfl ?_
      refine (Qm) ?_
      refine e_sliceStr 16 24 (Uu 9) rfl rfl rfl ⟨_, rfl⟩ ⟨_, rfl⟩ (by omega) (by omega) rfl ?_
      refine e_call rfl (Un 74) (number_fn _ (by rw [List.length_take]; omega) (take_lt hLb _ _)) rfl rfl ?_
      refine e_as (show _ = u (w8 (bL f) (0 + 2)) from rfl) ?_
      refine (Qm) ?_
      refine e_sliceStr 24 32 (Uu 9) rfl rfl rfl ⟨_, rfl⟩ hLl.symm (by omega) (by omega) rfl ?_
      refine e_call rfl (Un 74) (number_fn _ (by rw [List.length_take]; omega) (take_lt hLb _ _)) rfl rfl ?_
      refine e_as (show _ = u (w8 (bL f) (1 + 2)) from rfl) ?_
      refine e_build (arr .u64 2 (fun j => w8 (bL f) (j + 2))) (Ub 123 rfl) (Uu 123 rfl) (Uz 24 rfl) rfl rfl rfl ?_
      refine e_buildS (cells 24 [pI .u64 2 (w8 (bL f)), pI .u64 2 (fun j => w8 (bL f) (j + 2)), pI .u64 3 (fun _ => 0), pI .u8 16 (fun _ => 0), pV (.int .i64 0)]) (Ub 126 rfl) (Uu 126 rfl) pls126 rfl rfl rfl ?_
      refine e_storeA (i := 1) (Uz 126) rfl rfl (arrv_size _ _) (cells_one ⟨fun _ => rfl, fun _ => rfl, fun _ => rfl, fun _ => rfl, fun _ => rfl, trivial⟩) rfl cells_sz (.inl rfl) ?_
      refine Qn<|Qr ?_
      exact ⟨_, rfl, .cell (i := 1) rfl rfl (Uu 126) rfl (Uz 126) (arrv_size _ _)⟩
end Go.Proofs.YtbjaenjgahjikaaDoor
namespace Go.Proofs.YtbjaenjgahjikaaDoor
open Go Go.RowKit
variable {G : Mem}
set_option maxHeartbeats 4000000 in
theorem fault_fn (r p a h : Nat → Nat) (n : Int) (ha0 : a 0 < 18446744073709551616) (ha1 : a 1 < 18446744073709551616) (hr0 : r 0 < 18446744073709551616) (hr1 : r 1 < 18446744073709551616) : Fn Tryd.prog G 108 #[PV r p a h n] (ii (if (okcd r a n && okh n h 16) = true then 0 else 9)) := by
  refine Qf1 Tryd.func108 ?_
  refine Qs<|Qp<|(Qh 0) fun r1=>(Qa)<|Qn<|Qs<|Qp ?_
  refine e_build0 (Ub 23 rfl) (Uu 23 rfl) sis5 rfl ?_
  refine (QH 1) fun r2=>(Qt 1)<|Qn<|Qs<|(Qg) ?_
  refine e_sliceA 0 32 (Uu 23) (Uz 5) rfl rfl rfl rfl rfl (by omega) (by omega) (by omega) rfl ?_
  refine (Qf 0)<|(Qj 0)<|(QI 0 0 0) ?_
  refine e_call rfl (Un 57) (low_fn (r 0) 8 hr0 (by decide)) rfl rfl ?_
  refine (Qf 0)<|(Qj 1)<|(QI 0 1 0) ?_
  refine e_call rfl (Un 57) (low_fn (r 1) 8 hr1 (by decide)) rfl rfl ?_
  refine e_catS rfl rfl rfl (by simp [lowl_len]) ?_
  refine e_as (show _ = sv (lw r) from rfl) ?_
  refine e_copyStr (i := 1) (Uu 33) (Uz 5) rfl rfl (lw_lt r) rfl (by omega) rfl ?_
  refine Qn<|Qs ?_
  rcases okcases r a n with hk0 | ⟨hk0, hk1⟩ | ⟨hk0, hk1, hk2⟩ | ⟨hk0, hk1, hk2, hk3⟩ | ⟨hk0, hk1, hk2, hk3, hk4⟩ | ⟨hk0, hk1, hk2, hk3, hk4⟩
  · skip
    refine (Qg)<|(Qd 1) ?_
    refine e_as (congrArg Value.agg (arr_congr (kq_copy r))) ?_
    refine e_call rfl (Un 98) (begun_fn (kq r) (kq_lt r)) rfl rfl ?_
    refine (QJ 0)<|(Qf 0)<|(Qv 0 0) ?_
    refine e_eqA (Uu 123) (Uu 24) (Uz 24) eqg123 rfl rfl rfl ?_
    refine e_as (congrArg Value.bool hk0) ?_
    refine (Qm)<|(Qo)<|(Qo)<|(Qo)<|(QF)<|(Qm)<|(Qo)<|(Qo)<|(Qo)<|(QF)<|(Qm)<|(Qo)<|(Qo)<|(Qo)<|(Qo)<|(QF)<|(Qm)<|(Qo)<|(Qo)<|(Qo)<|(Qo)<|(Qo)<|(Qo)<|(Qo)<|(Qo)<|(QF) ?_
    refine e_as (congrArg Value.bool (show false = okcd r a n from okbase (.inl (hk0)))) ?_
    refine (Qa)<|Qn<|Qs<|Qs<|Qp<|(Qf 7)<|(Qv 3 0)<|(Qm)<|Qn<|Qb ?_
    refine Qz (fun kk E m => ∃ (i : Nat), kk = 16 - i ∧ E = [(1, ptr r1), (2, ii 0), (4, .bool (okcd r a n && okh n h i)), (52, .agg (arr .u8 16 h)), (53, ii i)] ∧ m = [(0, some ⟨r1, cells 24 [pI .u64 2 r, pI .u64 2 p, pI .u64 3 a, pI .u8 16 h, pV (.int .i64 n)], 126⟩), (1, some ⟨r2, arr .u8 32 (fun j => if 0 ≤ j ∧ j < 0 + min (lw r).length 32 then (lw r).getD (j - 0) 0 else 0), 23⟩)] ∧ (i ≤ 16)) ⟨0, rfl, rfl, rfl, by omega⟩ ⟨rfl, rfl, by rw [show okh n h 0 = true from rfl, Bool.and_true]; rfl, rfl, rfl, trivial⟩ ⟨rfl, rfl, trivial⟩ ?_
    rintro kk E m ⟨i, rfl, rfl, rfl, hf0_0⟩
    refine Qs<|Qp<|(Ql)<|Qn<|Qs ?_
    refine e_cond rfl ?_ ?_
    · intro hc0
      have hc0 := of_decide_eq_true hc0
      refine Qk<|Qs<|Qb<|Qs<|Qp<|(Qm)<|(QX)<|(Qa)<|(Qa)<|Qn ?_
      rcases okcase2 (okcd r a n) n h i with hok | ⟨hok, hlt⟩ | ⟨hok, hlt⟩
      · skip
        refine Qp<|(Qm) ?_
        refine e_as (congrArg Value.bool hok) ?_
        refine (Qm)<|(Qo)<|(Qo)<|(Qo)<|(Qo)<|(Qo)<|(Qw)<|(Qw)<|(Qo)<|(QF) ?_
        refine e_as (congrArg Value.bool (okn_a hok)) ?_
        refine (Qa)<|Qn<|Qp<|(Q2 1)<|(Qm)<|Qn ?_
        refine Qzr ⟨i + 1, rfl, rfl, rfl, by omega⟩ ⟨rfl, rfl, rfl, rfl, rfl, trivial⟩ ⟨rfl, rfl, trivial⟩ ?_
        omega
      · skip
        refine Qp<|(Qm) ?_
        refine e_as (congrArg Value.bool hok) ?_
        refine (Qm)<|(Qy)<|(Qm)<|(Qy)<|(Qf 23)<|(Qy)<|(QV 4 0)<|(Qy)<|(Ql) ?_
        refine e_as (congrArg Value.bool (decide_eq_true hlt)) ?_
        refine (Qy)<|(Qm)<|(Qo)<|(Qo)<|(Qy)<|(QT)<|(QT) ?_
        refine e_as (congrArg Value.bool (okn_b hok hlt)) ?_
        refine (Qa)<|Qn<|Qp<|(Q2 1)<|(Qm)<|Qn ?_
        refine Qzr ⟨i + 1, rfl, rfl, rfl, by omega⟩ ⟨rfl, rfl, rfl, rfl, rfl, trivial⟩ ⟨rfl, rfl, trivial⟩ ?_
        omega
      · skip
        refine Qp<|(Qm) ?_
        refine e_as (congrArg Value.bool hok) ?_
        refine (Qm)<|(Qy)<|(Qm)<|(Qy)<|(Qf 23)<|(Qy)<|(QV 4 0)<|(Qy)<|(Ql) ?_
        refine e_as (congrArg Value.bool (decide_eq_false hlt)) ?_
        refine (Qy)<|(Qm)<|(Qy)<|(Qm)<|(Qy)<|(Qc)<|(Qy)<|(QF)<|(QT) ?_
        refine e_as (congrArg Value.bool (okn_c hok hlt)) ?_
        refine (Qa)<|Qn<|Qp<|(Q2 1)<|(Qm)<|Qn ?_
        refine Qzr ⟨i + 1, rfl, rfl, rfl, by omega⟩ ⟨rfl, rfl, rfl, rfl, rfl, trivial⟩ ⟨rfl, rfl, trivial⟩ ?_
        omega
    · intro hc0
      have hc0 := of_decide_eq_false hc0
      have hi16 : i = 16 := by omega
      subst hi16
      refine Qe<|Qs<|Qs<|Qp<|(Qm)<|(Q0)<|Qn ?_
      refine e_cond rfl ?_ ?_
      · intro hc1
        have hfin : ¬ (okcd r a n && okh n h 16) = true := fun hx => by rw [hx] at hc1; exact absurd hc1 (by decide)
        refine Qs<|Qp<|(Qa)<|Qn<|Qr ?_
        first | rw [if_pos hfin] | rw [if_neg hfin]
        exact ⟨_, rfl, .tmp rfl⟩
      · intro hc1
        have hfin : (okcd r a n && okh n h 16) = true := by simpa using hc1
        refine Qk<|Qs<|Qp<|(Qa)<|Qn<|Qr ?_
        first | rw [if_pos hfin] | rw [if_neg hfin]
        exact ⟨_, rfl, .tmp rfl⟩
  · skip
    refine (Qg)<|(Qd 1) ?_
    refine e_as (congrArg Value.agg (arr_congr (kq_copy r))) ?_
    refine e_call rfl (Un 98) (begun_fn (kq r) (kq_lt r)) rfl rfl ?_
    refine (QJ 0)<|(Qf 0)<|(Qv 0 0) ?_
    refine e_eqA (Uu 123) (Uu 24) (Uz 24) eqg123 rfl rfl rfl ?_
    refine e_as (congrArg Value.bool hk0) ?_
    refine (Qm)<|(Qy)<|(Qf 23)<|(Qy)<|(QV 4 0)<|(Qy)<|(QE) ?_
    refine e_as (congrArg Value.bool (decide_eq_false hk1)) ?_
    refine (QT)<|(Qm)<|(Qo)<|(Qo)<|(Qo)<|(QF)<|(Qm)<|(Qo)<|(Qo)<|(Qo)<|(Qo)<|(QF)<|(Qm)<|(Qo)<|(Qo)<|(Qo)<|(Qo)<|(Qo)<|(Qo)<|(Qo)<|(Qo)<|(QF) ?_
    refine e_as (congrArg Value.bool (show false = okcd r a n from okbase (.inr (.inl (decide_eq_false hk1))))) ?_
    refine (Qa)<|Qn<|Qs<|Qs<|Qp<|(Qf 7)<|(Qv 3 0)<|(Qm)<|Qn<|Qb ?_
    refine Qz (fun kk E m => ∃ (i : Nat), kk = 16 - i ∧ E = [(1, ptr r1), (2, ii 0), (4, .bool (okcd r a n && okh n h i)), (52, .agg (arr .u8 16 h)), (53, ii i)] ∧ m = [(0, some ⟨r1, cells 24 [pI .u64 2 r, pI .u64 2 p, pI .u64 3 a, pI .u8 16 h, pV (.int .i64 n)], 126⟩), (1, some ⟨r2, arr .u8 32 (fun j => if 0 ≤ j ∧ j < 0 + min (lw r).length 32 then (lw r).getD (j - 0) 0 else 0), 23⟩)] ∧ (i ≤ 16)) ⟨0, rfl, rfl, rfl, by omega⟩ ⟨rfl, rfl, by rw [show okh n h 0 = true from rfl, Bool.and_true]; rfl, rfl, rfl, trivial⟩ ⟨rfl, rfl, trivial⟩ ?_
    rintro kk E m ⟨i, rfl, rfl, rfl, hf0_0⟩
    refine Qs<|Qp<|(Ql)<|Qn<|Qs ?_
    refine e_cond rfl ?_ ?_
    · intro hc0
      have hc0 := of_decide_eq_true hc0
      refine Qk<|Qs<|Qb<|Qs<|Qp<|(Qm)<|(QX)<|(Qa)<|(Qa)<|Qn ?_
      rcases okcase2 (okcd r a n) n h i with hok | ⟨hok, hlt⟩ | ⟨hok, hlt⟩
      · skip
        refine Qp<|(Qm) ?_
        refine e_as (congrArg Value.bool hok) ?_
        refine (Qm)<|(Qo)<|(Qo)<|(Qo)<|(Qo)<|(Qo)<|(Qw)<|(Qw)<|(Qo)<|(QF) ?_
        refine e_as (congrArg Value.bool (okn_a hok)) ?_
        refine (Qa)<|Qn<|Qp<|(Q2 1)<|(Qm)<|Qn ?_
        refine Qzr ⟨i + 1, rfl, rfl, rfl, by omega⟩ ⟨rfl, rfl, rfl, rfl, rfl, trivial⟩ ⟨rfl, rfl, trivial⟩ ?_
        omega
      · skip
        refine Qp<|(Qm) ?_
        refine e_as (congrArg Value.bool hok) ?_
        refine (Qm)<|(Qy)<|(Qm)<|(Qy)<|(Qf 23)<|(Qy)<|(QV 4 0)<|(Qy)<|(Ql) ?_
        refine e_as (congrArg Value.bool (decide_eq_true hlt)) ?_
        refine (Qy)<|(Qm)<|(Qo)<|(Qo)<|(Qy)<|(QT)<|(QT) ?_
        refine e_as (congrArg Value.bool (okn_b hok hlt)) ?_
        refine (Qa)<|Qn<|Qp<|(Q2 1)<|(Qm)<|Qn ?_
        refine Qzr ⟨i + 1, rfl, rfl, rfl, by omega⟩ ⟨rfl, rfl, rfl, rfl, rfl, trivial⟩ ⟨rfl, rfl, trivial⟩ ?_
        omega
      · skip
        refine Qp<|(Qm) ?_
        refine e_as (congrArg Value.bool hok) ?_
        refine (Qm)<|(Qy)<|(Qm)<|(Qy)<|(Qf 23)<|(Qy)<|(QV 4 0)<|(Qy)<|(Ql) ?_
        refine e_as (congrArg Value.bool (decide_eq_false hlt)) ?_
        refine (Qy)<|(Qm)<|(Qy)<|(Qm)<|(Qy)<|(Qc)<|(Qy)<|(QF)<|(QT) ?_
        refine e_as (congrArg Value.bool (okn_c hok hlt)) ?_
        refine (Qa)<|Qn<|Qp<|(Q2 1)<|(Qm)<|Qn ?_
        refine Qzr ⟨i + 1, rfl, rfl, rfl, by omega⟩ ⟨rfl, rfl, rfl, rfl, rfl, trivial⟩ ⟨rfl, rfl, trivial⟩ ?_
        omega
    · intro hc0
      have hc0 := of_decide_eq_false hc0
      have hi16 : i = 16 := by omega
      subst hi16
      refine Qe<|Qs<|Qs<|Qp<|(Qm)<|(Q0)<|Qn ?_
      refine e_cond rfl ?_ ?_
      · intro hc1
        have hfin : ¬ (okcd r a n && okh n h 16) = true := fun hx => by rw [hx] at hc1; exact absurd hc1 (by decide)
        refine Qs<|Qp<|(Qa)<|Qn<|Qr ?_
        first | rw [if_pos hfin] | rw [if_neg hfin]
        exact ⟨_, rfl, .tmp rfl⟩
      · intro hc1
        have hfin : (okcd r a n && okh n h 16) = true := by simpa using hc1
        refine Qk<|Qs<|Qp<|(Qa)<|Qn<|Qr ?_
        first | rw [if_pos hfin] | rw [if_neg hfin]
        exact ⟨_, rfl, .tmp rfl⟩
  · skip
    refine (Qg)<|(Qd 1) ?_
    refine e_as (congrArg Value.agg (arr_congr (kq_copy r))) ?_
    refine e_call rfl (Un 98) (begun_fn (kq r) (kq_lt r)) rfl rfl ?_
    refine (QJ 0)<|(Qf 0)<|(Qv 0 0) ?_
    refine e_eqA (Uu 123) (Uu 24) (Uz 24) eqg123 rfl rfl rfl ?_
    refine e_as (congrArg Value.bool hk0) ?_
    refine (Qm)<|(Qy)<|(Qf 23)<|(Qy)<|(QV 4 0)<|(Qy)<|(QE) ?_
    refine e_as (congrArg Value.bool (decide_eq_true hk1)) ?_
    refine (QT)<|(Qm)<|(Qy)<|(Qf 23)<|(Qy)<|(QV 4 0)<|(Qy)<|(Ql) ?_
    refine e_as (congrArg Value.bool (decide_eq_false hk2)) ?_
    refine (QT)<|(Qm)<|(Qo)<|(Qo)<|(Qo)<|(Qo)<|(QF)<|(Qm)<|(Qo)<|(Qo)<|(Qo)<|(Qo)<|(Qo)<|(Qo)<|(Qo)<|(Qo)<|(QF) ?_
    refine e_as (congrArg Value.bool (show false = okcd r a n from okbase (.inr (.inr (.inl (decide_eq_false hk2)))))) ?_
    refine (Qa)<|Qn<|Qs<|Qs<|Qp<|(Qf 7)<|(Qv 3 0)<|(Qm)<|Qn<|Qb ?_
    refine Qz (fun kk E m => ∃ (i : Nat), kk = 16 - i ∧ E = [(1, ptr r1), (2, ii 0), (4, .bool (okcd r a n && okh n h i)), (52, .agg (arr .u8 16 h)), (53, ii i)] ∧ m = [(0, some ⟨r1, cells 24 [pI .u64 2 r, pI .u64 2 p, pI .u64 3 a, pI .u8 16 h, pV (.int .i64 n)], 126⟩), (1, some ⟨r2, arr .u8 32 (fun j => if 0 ≤ j ∧ j < 0 + min (lw r).length 32 then (lw r).getD (j - 0) 0 else 0), 23⟩)] ∧ (i ≤ 16)) ⟨0, rfl, rfl, rfl, by omega⟩ ⟨rfl, rfl, by rw [show okh n h 0 = true from rfl, Bool.and_true]; rfl, rfl, rfl, trivial⟩ ⟨rfl, rfl, trivial⟩ ?_
    rintro kk E m ⟨i, rfl, rfl, rfl, hf0_0⟩
    refine Qs<|Qp<|(Ql)<|Qn<|Qs ?_
    refine e_cond rfl ?_ ?_
    · intro hc0
      have hc0 := of_decide_eq_true hc0
      refine Qk<|Qs<|Qb<|Qs<|Qp<|(Qm)<|(QX)<|(Qa)<|(Qa)<|Qn ?_
      rcases okcase2 (okcd r a n) n h i with hok | ⟨hok, hlt⟩ | ⟨hok, hlt⟩
      · skip
        refine Qp<|(Qm) ?_
        refine e_as (congrArg Value.bool hok) ?_
        refine (Qm)<|(Qo)<|(Qo)<|(Qo)<|(Qo)<|(Qo)<|(Qw)<|(Qw)<|(Qo)<|(QF) ?_
        refine e_as (congrArg Value.bool (okn_a hok)) ?_
        refine (Qa)<|Qn<|Qp<|(Q2 1)<|(Qm)<|Qn ?_
        refine Qzr ⟨i + 1, rfl, rfl, rfl, by omega⟩ ⟨rfl, rfl, rfl, rfl, rfl, trivial⟩ ⟨rfl, rfl, trivial⟩ ?_
        omega
      · skip
        refine Qp<|(Qm) ?_
        refine e_as (congrArg Value.bool hok) ?_
        refine (Qm)<|(Qy)<|(Qm)<|(Qy)<|(Qf 23)<|(Qy)<|(QV 4 0)<|(Qy)<|(Ql) ?_
        refine e_as (congrArg Value.bool (decide_eq_true hlt)) ?_
        refine (Qy)<|(Qm)<|(Qo)<|(Qo)<|(Qy)<|(QT)<|(QT) ?_
        refine e_as (congrArg Value.bool (okn_b hok hlt)) ?_
        refine (Qa)<|Qn<|Qp<|(Q2 1)<|(Qm)<|Qn ?_
        refine Qzr ⟨i + 1, rfl, rfl, rfl, by omega⟩ ⟨rfl, rfl, rfl, rfl, rfl, trivial⟩ ⟨rfl, rfl, trivial⟩ ?_
        omega
      · skip
        refine Qp<|(Qm) ?_
        refine e_as (congrArg Value.bool hok) ?_
        refine (Qm)<|(Qy)<|(Qm)<|(Qy)<|(Qf 23)<|(Qy)<|(QV 4 0)<|(Qy)<|(Ql) ?_
        refine e_as (congrArg Value.bool (decide_eq_false hlt)) ?_
        refine (Qy)<|(Qm)<|(Qy)<|(Qm)<|(Qy)<|(Qc)<|(Qy)<|(QF)<|(QT) ?_
        refine e_as (congrArg Value.bool (okn_c hok hlt)) ?_
        refine (Qa)<|Qn<|Qp<|(Q2 1)<|(Qm)<|Qn ?_
        refine Qzr ⟨i + 1, rfl, rfl, rfl, by omega⟩ ⟨rfl, rfl, rfl, rfl, rfl, trivial⟩ ⟨rfl, rfl, trivial⟩ ?_
        omega
    · intro hc0
      have hc0 := of_decide_eq_false hc0
      have hi16 : i = 16 := by omega
      subst hi16
      refine Qe<|Qs<|Qs<|Qp<|(Qm)<|(Q0)<|Qn ?_
      refine e_cond rfl ?_ ?_
      · intro hc1
        have hfin : ¬ (okcd r a n && okh n h 16) = true := fun hx => by rw [hx] at hc1; exact absurd hc1 (by decide)
        refine Qs<|Qp<|(Qa)<|Qn<|Qr ?_
        first | rw [if_pos hfin] | rw [if_neg hfin]
        exact ⟨_, rfl, .tmp rfl⟩
      · intro hc1
        have hfin : (okcd r a n && okh n h 16) = true := by simpa using hc1
        refine Qk<|Qs<|Qp<|(Qa)<|Qn<|Qr ?_
        first | rw [if_pos hfin] | rw [if_neg hfin]
        exact ⟨_, rfl, .tmp rfl⟩
  · skip
    refine (Qg)<|(Qd 1) ?_
    refine e_as (congrArg Value.agg (arr_congr (kq_copy r))) ?_
    refine e_call rfl (Un 98) (begun_fn (kq r) (kq_lt r)) rfl rfl ?_
    refine (QJ 0)<|(Qf 0)<|(Qv 0 0) ?_
    refine e_eqA (Uu 123) (Uu 24) (Uz 24) eqg123 rfl rfl rfl ?_
    refine e_as (congrArg Value.bool hk0) ?_
    refine (Qm)<|(Qy)<|(Qf 23)<|(Qy)<|(QV 4 0)<|(Qy)<|(QE) ?_
    refine e_as (congrArg Value.bool (decide_eq_true hk1)) ?_
    refine (QT)<|(Qm)<|(Qy)<|(Qf 23)<|(Qy)<|(QV 4 0)<|(Qy)<|(Ql) ?_
    refine e_as (congrArg Value.bool (decide_eq_true hk2)) ?_
    refine (QT)<|(Qm)<|(Qy)<|(Qf 4)<|(Qy)<|(QA 6 2)<|(Qy)<|(QI 2 2 0)<|(Qy)<|(Ql)<|(Qaf)<|(QT)<|(Qm)<|(Qo)<|(Qo)<|(Qo)<|(Qo)<|(Qo)<|(Qo)<|(Qo)<|(Qo)<|(QF) ?_
    refine e_as (congrArg Value.bool (show false = okcd r a n from okbase (.inr (.inr (.inr (.inl (decide_eq_false hk3))))))) ?_
    refine (Qa)<|Qn<|Qs<|Qs<|Qp<|(Qf 7)<|(Qv 3 0)<|(Qm)<|Qn<|Qb ?_
    refine Qz (fun kk E m => ∃ (i : Nat), kk = 16 - i ∧ E = [(1, ptr r1), (2, ii 0), (4, .bool (okcd r a n && okh n h i)), (52, .agg (arr .u8 16 h)), (53, ii i)] ∧ m = [(0, some ⟨r1, cells 24 [pI .u64 2 r, pI .u64 2 p, pI .u64 3 a, pI .u8 16 h, pV (.int .i64 n)], 126⟩), (1, some ⟨r2, arr .u8 32 (fun j => if 0 ≤ j ∧ j < 0 + min (lw r).length 32 then (lw r).getD (j - 0) 0 else 0), 23⟩)] ∧ (i ≤ 16)) ⟨0, rfl, rfl, rfl, by omega⟩ ⟨rfl, rfl, by rw [show okh n h 0 = true from rfl, Bool.and_true]; rfl, rfl, rfl, trivial⟩ ⟨rfl, rfl, trivial⟩ ?_
    rintro kk E m ⟨i, rfl, rfl, rfl, hf0_0⟩
    refine Qs<|Qp<|(Ql)<|Qn<|Qs ?_
    refine e_cond rfl ?_ ?_
    · intro hc0
      have hc0 := of_decide_eq_true hc0
      refine Qk<|Qs<|Qb<|Qs<|Qp<|(Qm)<|(QX)<|(Qa)<|(Qa)<|Qn ?_
      rcases okcase2 (okcd r a n) n h i with hok | ⟨hok, hlt⟩ | ⟨hok, hlt⟩
      · skip
        refine Qp<|(Qm) ?_
        refine e_as (congrArg Value.bool hok) ?_
        refine (Qm)<|(Qo)<|(Qo)<|(Qo)<|(Qo)<|(Qo)<|(Qw)<|(Qw)<|(Qo)<|(QF) ?_
        refine e_as (congrArg Value.bool (okn_a hok)) ?_
        refine (Qa)<|Qn<|Qp<|(Q2 1)<|(Qm)<|Qn ?_
        refine Qzr ⟨i + 1, rfl, rfl, rfl, by omega⟩ ⟨rfl, rfl, rfl, rfl, rfl, trivial⟩ ⟨rfl, rfl, trivial⟩ ?_
        omega
      · skip
        refine Qp<|(Qm) ?_
        refine e_as (congrArg Value.bool hok) ?_
        refine (Qm)<|(Qy)<|(Qm)<|(Qy)<|(Qf 23)<|(Qy)<|(QV 4 0)<|(Qy)<|(Ql) ?_
        refine e_as (congrArg Value.bool (decide_eq_true hlt)) ?_
        refine (Qy)<|(Qm)<|(Qo)<|(Qo)<|(Qy)<|(QT)<|(QT) ?_
        refine e_as (congrArg Value.bool (okn_b hok hlt)) ?_
        refine (Qa)<|Qn<|Qp<|(Q2 1)<|(Qm)<|Qn ?_
        refine Qzr ⟨i + 1, rfl, rfl, rfl, by omega⟩ ⟨rfl, rfl, rfl, rfl, rfl, trivial⟩ ⟨rfl, rfl, trivial⟩ ?_
        omega
      · skip
        refine Qp<|(Qm) ?_
        refine e_as (congrArg Value.bool hok) ?_
        refine (Qm)<|(Qy)<|(Qm)<|(Qy)<|(Qf 23)<|(Qy)<|(QV 4 0)<|(Qy)<|(Ql) ?_
        refine e_as (congrArg Value.bool (decide_eq_false hlt)) ?_
        refine (Qy)<|(Qm)<|(Qy)<|(Qm)<|(Qy)<|(Qc)<|(Qy)<|(QF)<|(QT) ?_
        refine e_as (congrArg Value.bool (okn_c hok hlt)) ?_
        refine (Qa)<|Qn<|Qp<|(Q2 1)<|(Qm)<|Qn ?_
        refine Qzr ⟨i + 1, rfl, rfl, rfl, by omega⟩ ⟨rfl, rfl, rfl, rfl, rfl, trivial⟩ ⟨rfl, rfl, trivial⟩ ?_
        omega
    · intro hc0
      have hc0 := of_decide_eq_false hc0
      have hi16 : i = 16 := by omega
      subst hi16
      refine Qe<|Qs<|Qs<|Qp<|(Qm)<|(Q0)<|Qn ?_
      refine e_cond rfl ?_ ?_
      · intro hc1
        have hfin : ¬ (okcd r a n && okh n h 16) = true := fun hx => by rw [hx] at hc1; exact absurd hc1 (by decide)
        refine Qs<|Qp<|(Qa)<|Qn<|Qr ?_
        first | rw [if_pos hfin] | rw [if_neg hfin]
        exact ⟨_, rfl, .tmp rfl⟩
      · intro hc1
        have hfin : (okcd r a n && okh n h 16) = true := by simpa using hc1
        refine Qk<|Qs<|Qp<|(Qa)<|Qn<|Qr ?_
        first | rw [if_pos hfin] | rw [if_neg hfin]
        exact ⟨_, rfl, .tmp rfl⟩
  · skip
    refine (Qg)<|(Qd 1) ?_
    refine e_as (congrArg Value.agg (arr_congr (kq_copy r))) ?_
    refine e_call rfl (Un 98) (begun_fn (kq r) (kq_lt r)) rfl rfl ?_
    refine (QJ 0)<|(Qf 0)<|(Qv 0 0) ?_
    refine e_eqA (Uu 123) (Uu 24) (Uz 24) eqg123 rfl rfl rfl ?_
    refine e_as (congrArg Value.bool hk0) ?_
    refine (Qm)<|(Qy)<|(Qf 23)<|(Qy)<|(QV 4 0)<|(Qy)<|(QE) ?_
    refine e_as (congrArg Value.bool (decide_eq_true hk1)) ?_
    refine (QT)<|(Qm)<|(Qy)<|(Qf 23)<|(Qy)<|(QV 4 0)<|(Qy)<|(Ql) ?_
    refine e_as (congrArg Value.bool (decide_eq_true hk2)) ?_
    refine (QT)<|(Qm)<|(Qy)<|(Qf 4)<|(Qy)<|(QA 6 2)<|(Qy)<|(QI 2 2 0)<|(Qy)<|(Ql)<|(Qat)<|(QT)<|(Qm)<|(Qy)<|(Qf 4)<|(Qy)<|(Qv 2 0)<|(Qy) ?_
    refine e_call rfl (Un 113) (partsOf_fn a ha0 ha1 hk3) rfl rfl ?_
    refine (Qy) ?_
    refine e_call rfl (Un 114) (carried_fn _ (fun j _ => Nat.lt_trans (d26_lt _ j) (by decide))) rfl rfl ?_
    refine e_as (congrArg (fun z => p5 (z % QQ)) (self26 (w3_lt ha0 ha1 hk3))) ?_
    refine (Qy) ?_
    refine e_call rfl (Un 115) (whole_fn _ (mod_lt30 _)) rfl rfl ?_
    refine (Qy)<|(Qf 4)<|(Qy)<|(Qv 2 0)<|(Qy) ?_
    refine e_eqA (Uu 124) (Uu 24) (Uz 24) eqg124 rfl rfl rfl ?_
    refine e_as (congrArg Value.bool hk4) ?_
    refine (QT) ?_
    refine e_as (congrArg Value.bool (show false = okcd r a n from okbase (.inr (.inr (.inr (.inr (hk4))))))) ?_
    refine (Qa)<|Qn<|Qs<|Qs<|Qp<|(Qf 7)<|(Qv 3 0)<|(Qm)<|Qn<|Qb ?_
    refine Qz (fun kk E m => ∃ (i : Nat), kk = 16 - i ∧ E = [(1, ptr r1), (2, ii 0), (4, .bool (okcd r a n && okh n h i)), (52, .agg (arr .u8 16 h)), (53, ii i)] ∧ m = [(0, some ⟨r1, cells 24 [pI .u64 2 r, pI .u64 2 p, pI .u64 3 a, pI .u8 16 h, pV (.int .i64 n)], 126⟩), (1, some ⟨r2, arr .u8 32 (fun j => if 0 ≤ j ∧ j < 0 + min (lw r).length 32 then (lw r).getD (j - 0) 0 else 0), 23⟩)] ∧ (i ≤ 16)) ⟨0, rfl, rfl, rfl, by omega⟩ ⟨rfl, rfl, by rw [show okh n h 0 = true from rfl, Bool.and_true]; rfl, rfl, rfl, trivial⟩ ⟨rfl, rfl, trivial⟩ ?_
    rintro kk E m ⟨i, rfl, rfl, rfl, hf0_0⟩
    refine Qs<|Qp<|(Ql)<|Qn<|Qs ?_
    refine e_cond rfl ?_ ?_
    · intro hc0
      have hc0 := of_decide_eq_true hc0
      refine Qk<|Qs<|Qb<|Qs<|Qp<|(Qm)<|(QX)<|(Qa)<|(Qa)<|Qn ?_
      rcases okcase2 (okcd r a n) n h i with hok | ⟨hok, hlt⟩ | ⟨hok, hlt⟩
      · skip
        refine Qp<|(Qm) ?_
        refine e_as (congrArg Value.bool hok) ?_
        refine (Qm)<|(Qo)<|(Qo)<|(Qo)<|(Qo)<|(Qo)<|(Qw)<|(Qw)<|(Qo)<|(QF) ?_
        refine e_as (congrArg Value.bool (okn_a hok)) ?_
        refine (Qa)<|Qn<|Qp<|(Q2 1)<|(Qm)<|Qn ?_
        refine Qzr ⟨i + 1, rfl, rfl, rfl, by omega⟩ ⟨rfl, rfl, rfl, rfl, rfl, trivial⟩ ⟨rfl, rfl, trivial⟩ ?_
        omega
      · skip
        refine Qp<|(Qm) ?_
        refine e_as (congrArg Value.bool hok) ?_
        refine (Qm)<|(Qy)<|(Qm)<|(Qy)<|(Qf 23)<|(Qy)<|(QV 4 0)<|(Qy)<|(Ql) ?_
        refine e_as (congrArg Value.bool (decide_eq_true hlt)) ?_
        refine (Qy)<|(Qm)<|(Qo)<|(Qo)<|(Qy)<|(QT)<|(QT) ?_
        refine e_as (congrArg Value.bool (okn_b hok hlt)) ?_
        refine (Qa)<|Qn<|Qp<|(Q2 1)<|(Qm)<|Qn ?_
        refine Qzr ⟨i + 1, rfl, rfl, rfl, by omega⟩ ⟨rfl, rfl, rfl, rfl, rfl, trivial⟩ ⟨rfl, rfl, trivial⟩ ?_
        omega
      · skip
        refine Qp<|(Qm) ?_
        refine e_as (congrArg Value.bool hok) ?_
        refine (Qm)<|(Qy)<|(Qm)<|(Qy)<|(Qf 23)<|(Qy)<|(QV 4 0)<|(Qy)<|(Ql) ?_
        refine e_as (congrArg Value.bool (decide_eq_false hlt)) ?_
        refine (Qy)<|(Qm)<|(Qy)<|(Qm)<|(Qy)<|(Qc)<|(Qy)<|(QF)<|(QT) ?_
        refine e_as (congrArg Value.bool (okn_c hok hlt)) ?_
        refine (Qa)<|Qn<|Qp<|(Q2 1)<|(Qm)<|Qn ?_
        refine Qzr ⟨i + 1, rfl, rfl, rfl, by omega⟩ ⟨rfl, rfl, rfl, rfl, rfl, trivial⟩ ⟨rfl, rfl, trivial⟩ ?_
        omega
    · intro hc0
      have hc0 := of_decide_eq_false hc0
      have hi16 : i = 16 := by omega
      subst hi16
      refine Qe<|Qs<|Qs<|Qp<|(Qm)<|(Q0)<|Qn ?_
      refine e_cond rfl ?_ ?_
      · intro hc1
        have hfin : ¬ (okcd r a n && okh n h 16) = true := fun hx => by rw [hx] at hc1; exact absurd hc1 (by decide)
        refine Qs<|Qp<|(Qa)<|Qn<|Qr ?_
        first | rw [if_pos hfin] | rw [if_neg hfin]
        exact ⟨_, rfl, .tmp rfl⟩
      · intro hc1
        have hfin : (okcd r a n && okh n h 16) = true := by simpa using hc1
        refine Qk<|Qs<|Qp<|(Qa)<|Qn<|Qr ?_
        first | rw [if_pos hfin] | rw [if_neg hfin]
        exact ⟨_, rfl, .tmp rfl⟩
  · skip
    refine (Qg)<|(Qd 1) ?_
    refine e_as (congrArg Value.agg (arr_congr (kq_copy r))) ?_
    refine e_call rfl (Un 98) (begun_fn (kq r) (kq_lt r)) rfl rfl ?_
    refine (QJ 0)<|(Qf 0)<|(Qv 0 0) ?_
    refine e_eqA (Uu 123) (Uu 24) (Uz 24) eqg123 rfl rfl rfl ?_
    refine e_as (congrArg Value.bool hk0) ?_
    refine (Qm)<|(Qy)<|(Qf 23)<|(Qy)<|(QV 4 0)<|(Qy)<|(QE) ?_
    refine e_as (congrArg Value.bool (decide_eq_true hk1)) ?_
    refine (QT)<|(Qm)<|(Qy)<|(Qf 23)<|(Qy)<|(QV 4 0)<|(Qy)<|(Ql) ?_
    refine e_as (congrArg Value.bool (decide_eq_true hk2)) ?_
    refine (QT)<|(Qm)<|(Qy)<|(Qf 4)<|(Qy)<|(QA 6 2)<|(Qy)<|(QI 2 2 0)<|(Qy)<|(Ql)<|(Qat)<|(QT)<|(Qm)<|(Qy)<|(Qf 4)<|(Qy)<|(Qv 2 0)<|(Qy) ?_
    refine e_call rfl (Un 113) (partsOf_fn a ha0 ha1 hk3) rfl rfl ?_
    refine (Qy) ?_
    refine e_call rfl (Un 114) (carried_fn _ (fun j _ => Nat.lt_trans (d26_lt _ j) (by decide))) rfl rfl ?_
    refine e_as (congrArg (fun z => p5 (z % QQ)) (self26 (w3_lt ha0 ha1 hk3))) ?_
    refine (Qy) ?_
    refine e_call rfl (Un 115) (whole_fn _ (mod_lt30 _)) rfl rfl ?_
    refine (Qy)<|(Qf 4)<|(Qy)<|(Qv 2 0)<|(Qy) ?_
    refine e_eqA (Uu 124) (Uu 24) (Uz 24) eqg124 rfl rfl rfl ?_
    refine e_as (congrArg Value.bool hk4) ?_
    refine (QT) ?_
    refine e_as (congrArg Value.bool (ok_all hk0 hk1 hk2 hk3 hk4)) ?_
    refine (Qa)<|Qn<|Qs<|Qs<|Qp<|(Qf 7)<|(Qv 3 0)<|(Qm)<|Qn<|Qb ?_
    refine Qz (fun kk E m => ∃ (i : Nat), kk = 16 - i ∧ E = [(1, ptr r1), (2, ii 0), (4, .bool (okcd r a n && okh n h i)), (52, .agg (arr .u8 16 h)), (53, ii i)] ∧ m = [(0, some ⟨r1, cells 24 [pI .u64 2 r, pI .u64 2 p, pI .u64 3 a, pI .u8 16 h, pV (.int .i64 n)], 126⟩), (1, some ⟨r2, arr .u8 32 (fun j => if 0 ≤ j ∧ j < 0 + min (lw r).length 32 then (lw r).getD (j - 0) 0 else 0), 23⟩)] ∧ (i ≤ 16)) ⟨0, rfl, rfl, rfl, by omega⟩ ⟨rfl, rfl, by rw [show okh n h 0 = true from rfl, Bool.and_true]; rfl, rfl, rfl, trivial⟩ ⟨rfl, rfl, trivial⟩ ?_
    rintro kk E m ⟨i, rfl, rfl, rfl, hf0_0⟩
    refine Qs<|Qp<|(Ql)<|Qn<|Qs ?_
    refine e_cond rfl ?_ ?_
    · intro hc0
      have hc0 := of_decide_eq_true hc0
      refine Qk<|Qs<|Qb<|Qs<|Qp<|(Qm)<|(QX)<|(Qa)<|(Qa)<|Qn ?_
      rcases okcase2 (okcd r a n) n h i with hok | ⟨hok, hlt⟩ | ⟨hok, hlt⟩
      · skip
        refine Qp<|(Qm) ?_
        refine e_as (congrArg Value.bool hok) ?_
        refine (Qm)<|(Qo)<|(Qo)<|(Qo)<|(Qo)<|(Qo)<|(Qw)<|(Qw)<|(Qo)<|(QF) ?_
        refine e_as (congrArg Value.bool (okn_a hok)) ?_
        refine (Qa)<|Qn<|Qp<|(Q2 1)<|(Qm)<|Qn ?_
        refine Qzr ⟨i + 1, rfl, rfl, rfl, by omega⟩ ⟨rfl, rfl, rfl, rfl, rfl, trivial⟩ ⟨rfl, rfl, trivial⟩ ?_
        omega
      · skip
        refine Qp<|(Qm) ?_
        refine e_as (congrArg Value.bool hok) ?_
        refine (Qm)<|(Qy)<|(Qm)<|(Qy)<|(Qf 23)<|(Qy)<|(QV 4 0)<|(Qy)<|(Ql) ?_
        refine e_as (congrArg Value.bool (decide_eq_true hlt)) ?_
        refine (Qy)<|(Qm)<|(Qo)<|(Qo)<|(Qy)<|(QT)<|(QT) ?_
        refine e_as (congrArg Value.bool (okn_b hok hlt)) ?_
        refine (Qa)<|Qn<|Qp<|(Q2 1)<|(Qm)<|Qn ?_
        refine Qzr ⟨i + 1, rfl, rfl, rfl, by omega⟩ ⟨rfl, rfl, rfl, rfl, rfl, trivial⟩ ⟨rfl, rfl, trivial⟩ ?_
        omega
      · skip
        refine Qp<|(Qm) ?_
        refine e_as (congrArg Value.bool hok) ?_
        refine (Qm)<|(Qy)<|(Qm)<|(Qy)<|(Qf 23)<|(Qy)<|(QV 4 0)<|(Qy)<|(Ql) ?_
        refine e_as (congrArg Value.bool (decide_eq_false hlt)) ?_
        refine (Qy)<|(Qm)<|(Qy)<|(Qm)<|(Qy)<|(Qc)<|(Qy)<|(QF)<|(QT) ?_
        refine e_as (congrArg Value.bool (okn_c hok hlt)) ?_
        refine (Qa)<|Qn<|Qp<|(Q2 1)<|(Qm)<|Qn ?_
        refine Qzr ⟨i + 1, rfl, rfl, rfl, by omega⟩ ⟨rfl, rfl, rfl, rfl, rfl, trivial⟩ ⟨rfl, rfl, trivial⟩ ?_
        omega
    · intro hc0
      have hc0 := of_decide_eq_false hc0
      have hi16 : i = 16 := by omega
      subst hi16
      refine Qe<|Qs<|Qs<|Qp<|(Qm)<|(Q0)<|Qn ?_
      refine e_cond rfl ?_ ?_
      · intro hc1
        have hfin : ¬ (okcd r a n && okh n h 16) = true := fun hx => by rw [hx] at hc1; exact absurd hc1 (by decide)
        refine Qs<|Qp<|(Qa)<|Qn<|Qr ?_
        first | rw [if_pos hfin] | rw [if_neg hfin]
        exact ⟨_, rfl, .tmp rfl⟩
      · intro hc1
        have hfin : (okcd r a n && okh n h 16) = true := by simpa using hc1
        refine Qk<|Qs<|Qp<|(Qa)<|Qn<|Qr ?_
        first | rw [if_pos hfin] | rw [if_neg hfin]
        exact ⟨_, rfl, .tmp rfl⟩
end Go.Proofs.YtbjaenjgahjikaaDoor
namespace Go.Proofs.YtbjaenjgahjikaaDoor
open Go Go.RowKit
variable {G : Mem}
set_option maxHeartbeats 4000000 in
theorem added_ok (r p : Nat → Nat) (A : Nat) (h : Nat → Nat) (n : Nat) (v : Value) (l : List Nat) (hv : Sh G v l) (hlb : ∀ b ∈ l, b < 256) (hA : A < 2 ^ 130) (hr0 : r 0 < 18446744073709551616) (hr1 : r 1 < 18446744073709551616) (hn : n < 16) (hh : L8 16 h) (hok : (okcd r (wd A) n && okh n h 16) = true) (hlen : l.length + 16 ≤ 9223372036854775807) : Fn Tryd.prog G 97 #[PV r p (wd A) h n, v] (.tuple #[PV r p (wd (accs (k3 r) A (sS h n l) ((sS h n l).length / 16))) (fun i => ((sS h n l).drop (16 * ((sS h n l).length / 16))).getD i 0) (((sS h n l).drop (16 * ((sS h n l).length / 16))).length : Int), ii 0]) := by
  have hSl := sS_len h n l
  have hSb := sS_lt (n := n) (fun j hj => hh j (by omega)) hlb
  refine Qf2 Tryd.func97 ?_
  refine Qs<|Qp<|(Qh 0) fun r1=>(QH 1) fun r2=>(Qa)<|Qn<|Qs<|Qs<|Qp<|(QD 0) ?_
  refine e_call rfl (Un 108) (fault_fn r p (wd A) h n (wd_lt _ 0) (wd_lt _ 1) hr0 hr1) rfl rfl ?_
  refine e_as (congrArg ii (if_pos hok)) ?_
  refine (Qa)<|Qn<|Qs<|Qp<|(Qm)<|(QN)<|Qn ?_
  refine e_cond rfl ?_ ?_
  · intro hc0
    exact absurd hc0 (by decide)
  · intro hc0
    refine Qk<|Qs<|Qp<|(Qf 7)<|(Qv 3 0)<|(QH 2) fun r3=>(Qt 2)<|Qn<|Qs<|(Qg)<|(Qf 23)<|(QV 4 0) ?_
    refine e_sliceA 0 n (Uu 96) (Uz 5) rfl rfl rfl rfl ⟨_, rfl⟩ (by omega) (by omega) (by omega) rfl ?_
    refine e_conv_str (i := 2) (Uu 33) (Uu 5) (Uu 9) rfl rfl (by omega) rfl rfl ⟨[], trivial⟩ ?_
    refine e_as (conv_all h n) ?_
    refine (Qm) ?_
    refine e_conv_strV hv seenG (Uu 33) (Uu 5) (Uu 9) rfl rfl rfl ?_
    refine e_catS rfl rfl rfl (by simp; omega) ?_
    refine e_as (show _ = sv (sS h n l) from rfl) ?_
    refine (Qa)<|Qn<|Qs<|Qb ?_
    refine Qz (fun kk E m => ∃ (k : Nat) (ch : Nat → Nat) (cn : Int), kk = (sS h n l).length - 16 * k ∧ E = [(2, ptr r1), (4, ptr r2), (5, ii 0), (8, sv ((sS h n l).drop (16 * k)))] ∧ m = [(0, some ⟨r1, cells 24 [pI .u64 2 r, pI .u64 2 p, pI .u64 3 (wd (accs (k3 r) A (sS h n l) k)), pI .u8 16 ch, pV (.int .i64 cn)], 126⟩), (1, some ⟨r2, cells 24 [pI .u64 2 (fun _ => 0), pI .u64 2 (fun _ => 0), pI .u64 3 (fun _ => 0), pI .u8 16 (fun _ => 0), pV (.int .i64 0)], 126⟩), (2, some ⟨r3, arr .u8 16 h, 96⟩)] ∧ (16 * k ≤ (sS h n l).length)) ⟨0, h, (n : Int), rfl, rfl, rfl, by omega⟩ ⟨rfl, rfl, rfl, rfl, trivial⟩ ⟨rfl, rfl, rfl, trivial⟩ ?_
    rintro kk E m ⟨k, ch, cn, rfl, rfl, rfl, hf0_0⟩
    have hB := accs_lt (R := k3 r) (S := sS h n l) hA k
    have hdl : ((sS h n l).drop (16 * k)).length = (sS h n l).length - 16 * k := List.length_drop
    refine Qs<|Qs<|Qp<|(Qm)<|(QU)<|(QE)<|Qn ?_
    refine e_cond rfl ?_ ?_
    · intro hc1
      have hc1 := of_decide_eq_true hc1
      refine Qk<|Qb<|(Qg)<|(QD 0)<|(Qm) ?_
      refine e_sliceStr 0 16 (Uu 9) rfl rfl rfl rfl ⟨_, rfl⟩ (by omega) (by omega) rfl ?_
      refine e_call rfl (Un 109) (soaked_fn r p (wd (accs (k3 r) A (sS h n l) k)) ch cn (((sS h n l).drop (16 * k)).take 16) (by rw [List.length_take]; omega) (take_lt hSb _ _) (wd_lt _ 0) (wd_lt _ 1) (wd2_lt hB) hr0 hr1) rfl rfl ?_
      refine e_as (congrArg (fun z => PV r p (wd (pst (k3 r) z (((sS h n l).drop (16 * k)).take 16))) (fun _ => 0) 0) (w3_wd hB)) ?_
      refine (Qm) ?_
      refine e_sliceStr 16 ((sS h n l).drop (16 * k)).length (Uu 9) rfl rfl rfl ⟨_, rfl⟩ rfl (by omega) (by omega) rfl ?_
      refine e_as (congrArg sv (drop_next _ k)) ?_
      refine e_storeA (i := 0) (Uz 126) rfl rfl (arrv_size _ _) (cells_one ⟨fun _ => rfl, fun _ => rfl, fun _ => rfl, fun _ => rfl, fun _ => rfl, trivial⟩) rfl cells_sz (.inl rfl) ?_
      refine (Qa)<|Qn ?_
      refine Qzr ⟨k + 1, fun _ => 0, 0, rfl, rfl, rfl, by omega⟩ ⟨rfl, rfl, rfl, rfl, trivial⟩ ⟨rfl, rfl, rfl, trivial⟩ ?_
      omega
    · intro hc1
      have hc1 := of_decide_eq_false hc1
      have hk : k = (sS h n l).length / 16 := by omega
      subst hk
      refine Qe<|Qs<|Qp ?_
      refine e_build0 (Ub 96 rfl) (Uu 96 rfl) sis5 rfl ?_
      refine (Qm)<|(QU)<|(Qf 7) ?_
      refine e_stC (i := 0) 3 (Uz 96) rfl rfl rfl rfl (by decide) (.inl rfl) ?_
      refine (Qf 23) ?_
      refine e_stV (i := 0) 4 (Uz 3) rfl rfl rfl rfl rfl (by decide) (.inl rfl) ?_
      refine Qn<|Qs<|Qp<|(Qf 7) ?_
      refine e_sliceA 0 16 (Uu 96) (Uz 5) rfl rfl rfl rfl rfl (by omega) (by omega) (by omega) rfl ?_
      refine (Qm) ?_
      refine e_copyC (i := 0) 3 (Uu 33) (Uz 5) rfl rfl (fun b hb => hSb b (List.mem_of_mem_drop hb)) rfl rfl (Nat.le_of_ble_eq_true rfl) (by decide) rfl ?_
      refine Qn<|Qs<|Qp<|(QD 0) ?_
      refine e_as (Eq.trans (show _ = PV r p (wd (accs (k3 r) A (sS h n l) ((sS h n l).length / 16))) (fun i => if i < min ((sS h n l).drop (16 * ((sS h n l).length / 16))).length 16 then ((sS h n l).drop (16 * ((sS h n l).length / 16))).getD i 0 else 0) (((sS h n l).drop (16 * ((sS h n l).length / 16))).length : Int) from rfl) (congrArg (fun z => PV r p (wd (accs (k3 r) A (sS h n l) ((sS h n l).length / 16))) z (((sS h n l).drop (16 * ((sS h n l).length / 16))).length : Int)) (held_all _ (by omega)))) ?_
      refine e_storeA (i := 1) (Uz 126) rfl rfl (arrv_size _ _) (cells_one ⟨fun _ => rfl, fun _ => rfl, fun _ => rfl, fun _ => rfl, fun _ => rfl, trivial⟩) rfl cells_sz (.inl rfl) ?_
      refine (Qa)<|Qn<|Qr ?_
      exact ⟨_, _, rfl, .cell (i := 1) rfl rfl (Uu 126) rfl (Uz 126) (arrv_size _ _), .tmp rfl⟩
end Go.Proofs.YtbjaenjgahjikaaDoor
namespace Go.Proofs.YtbjaenjgahjikaaDoor
open Go Go.RowKit
variable {G : Mem}
set_option maxHeartbeats 4000000 in
theorem ended_zero (r p : Nat → Nat) (A : Nat) (h : Nat → Nat) (n : Nat) (hr0 : r 0 < 18446744073709551616) (hr1 : r 1 < 18446744073709551616) (hp0 : p 0 < 18446744073709551616) (hp1 : p 1 < 18446744073709551616) (hn : n = 0) (hok : (okcd r (wd A) n && okh n h 16) = true) : Fn Tryd.prog G 99 #[PV r p (wd A) h n] (.tuple #[.agg (arr .u8 16 (tgn (k3 (wd A)) (k3 p))), ii 0]) := by
  refine Qf2 Tryd.func99 ?_
  refine Qs<|Qp<|(Qh 0) fun r1=>(QH 1) fun r2=>(Qa)<|Qn<|Qs<|Qs<|Qp<|(QD 0) ?_
  refine e_call rfl (Un 108) (fault_fn r p (wd A) h n (wd_lt _ 0) (wd_lt _ 1) hr0 hr1) rfl rfl ?_
  refine e_as (congrArg ii (if_pos hok)) ?_
  refine (Qa)<|Qn<|Qs<|Qp<|(Qm)<|(QN)<|Qn ?_
  refine e_cond rfl ?_ ?_
  · intro hc0
    exact absurd hc0 (by decide)
  · intro hc0
    refine Qk<|Qs<|Qs<|Qp<|(Qf 7)<|(Qv 3 0)<|(QH 2) fun r3=>(Qt 2)<|Qn<|Qs<|Qp<|(Qf 23)<|(QV 4 0)<|(QG)<|Qn ?_
    refine e_cond rfl ?_ ?_
    · intro hc1
      exact absurd (of_decide_eq_true hc1) (by omega)
    · intro hc1
      refine Qk<|Qs<|Qp<|(QH 3) fun r4=>Qn<|Qs<|(Qg)<|(Qf 4)<|(QA 4 0)<|(QI 2 0 0) ?_
      refine e_call rfl (Un 57) (low_fn _ 8 (wd_lt _ 0) (by decide)) rfl rfl ?_
      refine (Qf 4)<|(QA 5 1)<|(QI 2 1 0) ?_
      refine e_call rfl (Un 57) (low_fn _ 8 (wd_lt _ 1) (by decide)) rfl rfl ?_
      refine e_catS rfl rfl rfl (by simp [lowl_len]) ?_
      refine e_as (show _ = sv (lw (wd A)) from rfl) ?_
      refine (Qa)<|Qn<|Qs<|(Qg)<|(Qf 2)<|(QA 2 0)<|(QI 1 0 0) ?_
      refine e_call rfl (Un 57) (low_fn _ 8 hp0 (by decide)) rfl rfl ?_
      refine (Qf 2)<|(QA 3 1)<|(QI 1 1 0) ?_
      refine e_call rfl (Un 57) (low_fn _ 8 hp1 (by decide)) rfl rfl ?_
      refine e_catS rfl rfl rfl (by simp [lowl_len]) ?_
      refine e_as (show _ = sv (lw p) from rfl) ?_
      refine (Qa)<|Qn<|Qs<|Qp<|(Qa)<|Qn<|Qs<|Qs<|Qp<|(Qm)<|Qn<|Qb ?_
      refine Qz (fun kk E m => ∃ (i : Nat) (s : Nat → Nat), kk = 16 - i ∧ E = [(2, ptr r2), (3, ii 0), (6, ptr r4), (7, sv (lw (wd A))), (8, sv (lw p)), (9, ii (cr (k3 (wd A)) (k3 p) i)), (46, ii i)] ∧ m = [(0, some ⟨r1, cells 24 [pI .u64 2 r, pI .u64 2 p, pI .u64 3 (wd A), pI .u8 16 h, pV (.int .i64 n)], 126⟩), (1, some ⟨r2, arr .u8 16 (fun _ => 0), 96⟩), (2, some ⟨r3, arr .u8 16 h, 96⟩), (3, some ⟨r4, arr .u8 16 s, 96⟩)] ∧ (i ≤ 16) ∧ (∀ j, j < i → s j = tgn (k3 (wd A)) (k3 p) j)) ⟨0, fun _ => 0, rfl, rfl, rfl, by omega, fun j hj => absurd hj (Nat.not_lt_zero j)⟩ ⟨rfl, rfl, rfl, rfl, rfl, by rw [cr_zero]; rfl, rfl, trivial⟩ ⟨rfl, rfl, rfl, rfl, trivial⟩ ?_
      rintro kk E m ⟨i, s, rfl, rfl, rfl, hf0_0, hf0_1⟩
      have hci := cr_le (k3 (wd A)) (k3 p) i
      have hx8 : (k3 (wd A)) / 256 ^ i % 256 < 256 := Nat.mod_lt _ (by decide)
      have hy8 : (k3 p) / 256 ^ i % 256 < 256 := Nat.mod_lt _ (by decide)
      refine Qs<|Qp<|(Ql)<|Qn<|Qs ?_
      refine e_cond rfl ?_ ?_
      · intro hc2
        have hc2 := of_decide_eq_true hc2
        refine Qk<|Qs<|Qb<|Qs<|Qp<|(Qm)<|(Qa)<|Qn<|Qs<|(Qg)<|(Qm)<|(Qm)<|(Qm) ?_
        refine e_idxStr (Uu 9) rfl rfl (lw_get (wd_lt _ 0) (by omega)) (by omega) rfl ?_
        refine e_conv_i (Uu 5) (Uu 3) rfl rfl rfl (by omega) ?_
        refine (Qm)<|(Qm) ?_
        refine e_idxStr (Uu 9) rfl rfl (lw_get hp0 (by omega)) (by omega) rfl ?_
        refine e_conv_i (Uu 5) (Uu 3) rfl rfl rfl (by omega) ?_
        refine (Q3)<|(Q3)<|(Qa)<|Qn<|Qs<|Qp<|(Qm)<|(Qm) ?_
        refine e_conv_u8 (Uu 3) (Uu 5) rfl rfl rfl ?_
        refine (Qi)<|(Qu 3)<|Qn<|Qp<|(Qm)<|(Q5 256)<|(Qa)<|Qn<|Qp<|(Q2 1)<|(Qm)<|Qn ?_
        refine Qzr ⟨i + 1, upd s i _, rfl, rfl, rfl, by omega, upd_lt hf0_1 (tgn_at (k3 (wd A)) (k3 p) i)⟩ ⟨rfl, rfl, rfl, rfl, rfl, by rw [← cr_next]; rfl, rfl, trivial⟩ ⟨rfl, rfl, rfl, rfl, trivial⟩ ?_
        omega
      · intro hc2
        have hc2 := of_decide_eq_false hc2
        have hi16 : i = 16 := by omega
        subst hi16
        refine Qe<|Qs<|Qp<|(Qd 3) ?_
        refine e_as (congrArg Value.agg (arr_congr hf0_1)) ?_
        refine (Qt 1)<|(Qa)<|Qn<|Qr ?_
        exact ⟨_, _, rfl, .cell (i := 1) rfl rfl (Uu 96) rfl (Uz 96) (arr_size _ _ _), .tmp rfl⟩
set_option maxHeartbeats 4000000 in
theorem ended_some (r p : Nat → Nat) (A : Nat) (h : Nat → Nat) (n : Nat) (hr0 : r 0 < 18446744073709551616) (hr1 : r 1 < 18446744073709551616) (hp0 : p 0 < 18446744073709551616) (hp1 : p 1 < 18446744073709551616) (hA : A < 2 ^ 130) (hh : L8 16 h) (hn : 0 < n) (hn2 : n < 16) (hok : (okcd r (wd A) n && okh n h 16) = true) : Fn Tryd.prog G 99 #[PV r p (wd A) h n] (.tuple #[.agg (arr .u8 16 (tgn (k3 (wd (pst (k3 r) A ((List.range n).map h)))) (k3 p))), ii 0]) := by
  refine Qf2 Tryd.func99 ?_
  refine Qs<|Qp<|(Qh 0) fun r1=>(QH 1) fun r2=>(Qa)<|Qn<|Qs<|Qs<|Qp<|(QD 0) ?_
  refine e_call rfl (Un 108) (fault_fn r p (wd A) h n (wd_lt _ 0) (wd_lt _ 1) hr0 hr1) rfl rfl ?_
  refine e_as (congrArg ii (if_pos hok)) ?_
  refine (Qa)<|Qn<|Qs<|Qp<|(Qm)<|(QN)<|Qn ?_
  refine e_cond rfl ?_ ?_
  · intro hc0
    exact absurd hc0 (by decide)
  · intro hc0
    refine Qk<|Qs<|Qs<|Qp<|(Qf 7)<|(Qv 3 0)<|(QH 2) fun r3=>(Qt 2)<|Qn<|Qs<|Qp<|(Qf 23)<|(QV 4 0)<|(QG)<|Qn ?_
    refine e_cond rfl ?_ ?_
    · intro hc1
      refine (Qg)<|(QD 0)<|(Qf 23)<|(QV 4 0) ?_
      refine e_sliceA 0 n (Uu 96) (Uz 5) rfl rfl rfl rfl ⟨_, rfl⟩ (by omega) (by omega) (by omega) rfl ?_
      refine e_conv_str (i := 2) (Uu 33) (Uu 5) (Uu 9) rfl rfl (by omega) rfl rfl ⟨[], trivial⟩ ?_
      refine e_as (conv_all h n) ?_
      refine e_call rfl (Un 109) (soaked_fn r p (wd A) h n ((List.range n).map h) (by simp; omega) (by intro b hb; obtain ⟨j, hj, rfl⟩ := List.mem_map.1 hb; exact hh j (by have := List.mem_range.1 hj; omega)) (wd_lt _ 0) (wd_lt _ 1) (wd2_lt hA) hr0 hr1) rfl rfl ?_
      refine e_as (congrArg (fun z => PV r p (wd (pst (k3 r) z ((List.range n).map h))) (fun _ => 0) 0) (w3_wd hA)) ?_
      refine e_storeA (i := 0) (Uz 126) rfl rfl (arrv_size _ _) (cells_one ⟨fun _ => rfl, fun _ => rfl, fun _ => rfl, fun _ => rfl, fun _ => rfl, trivial⟩) rfl cells_sz (.inl rfl) ?_
      refine Qn<|Qs<|Qp<|(QH 3) fun r4=>Qn<|Qs<|(Qg)<|(Qf 4)<|(QA 4 0)<|(QI 2 0 0) ?_
      refine e_call rfl (Un 57) (low_fn _ 8 (wd_lt _ 0) (by decide)) rfl rfl ?_
      refine (Qf 4)<|(QA 5 1)<|(QI 2 1 0) ?_
      refine e_call rfl (Un 57) (low_fn _ 8 (wd_lt _ 1) (by decide)) rfl rfl ?_
      refine e_catS rfl rfl rfl (by simp [lowl_len]) ?_
      refine e_as (show _ = sv (lw (wd (pst (k3 r) A ((List.range n).map h)))) from rfl) ?_
      refine (Qa)<|Qn<|Qs<|(Qg)<|(Qf 2)<|(QA 2 0)<|(QI 1 0 0) ?_
      refine e_call rfl (Un 57) (low_fn _ 8 hp0 (by decide)) rfl rfl ?_
      refine (Qf 2)<|(QA 3 1)<|(QI 1 1 0) ?_
      refine e_call rfl (Un 57) (low_fn _ 8 hp1 (by decide)) rfl rfl ?_
      refine e_catS rfl rfl rfl (by simp [lowl_len]) ?_
      refine e_as (show _ = sv (lw p) from rfl) ?_
      refine (Qa)<|Qn<|Qs<|Qp<|(Qa)<|Qn<|Qs<|Qs<|Qp<|(Qm)<|Qn<|Qb ?_
      refine Qz (fun kk E m => ∃ (i : Nat) (s : Nat → Nat), kk = 16 - i ∧ E = [(2, ptr r2), (3, ii 0), (6, ptr r4), (7, sv (lw (wd (pst (k3 r) A ((List.range n).map h))))), (8, sv (lw p)), (9, ii (cr (k3 (wd (pst (k3 r) A ((List.range n).map h)))) (k3 p) i)), (46, ii i)] ∧ m = [(0, some ⟨r1, cells 24 [pI .u64 2 r, pI .u64 2 p, pI .u64 3 (wd (pst (k3 r) A ((List.range n).map h))), pI .u8 16 (fun _ => 0), pV (.int .i64 0)], 126⟩), (1, some ⟨r2, arr .u8 16 (fun _ => 0), 96⟩), (2, some ⟨r3, arr .u8 16 h, 96⟩), (3, some ⟨r4, arr .u8 16 s, 96⟩)] ∧ (i ≤ 16) ∧ (∀ j, j < i → s j = tgn (k3 (wd (pst (k3 r) A ((List.range n).map h)))) (k3 p) j)) ⟨0, fun _ => 0, rfl, rfl, rfl, by omega, fun j hj => absurd hj (Nat.not_lt_zero j)⟩ ⟨rfl, rfl, rfl, rfl, rfl, by rw [cr_zero]; rfl, rfl, trivial⟩ ⟨rfl, rfl, rfl, rfl, trivial⟩ ?_
      rintro kk E m ⟨i, s, rfl, rfl, rfl, hf0_0, hf0_1⟩
      have hci := cr_le (k3 (wd (pst (k3 r) A ((List.range n).map h)))) (k3 p) i
      have hx8 : (k3 (wd (pst (k3 r) A ((List.range n).map h)))) / 256 ^ i % 256 < 256 := Nat.mod_lt _ (by decide)
      have hy8 : (k3 p) / 256 ^ i % 256 < 256 := Nat.mod_lt _ (by decide)
      refine Qs<|Qp<|(Ql)<|Qn<|Qs ?_
      refine e_cond rfl ?_ ?_
      · intro hc2
        have hc2 := of_decide_eq_true hc2
        refine Qk<|Qs<|Qb<|Qs<|Qp<|(Qm)<|(Qa)<|Qn<|Qs<|(Qg)<|(Qm)<|(Qm)<|(Qm) ?_
        refine e_idxStr (Uu 9) rfl rfl (lw_get (wd_lt _ 0) (by omega)) (by omega) rfl ?_
        refine e_conv_i (Uu 5) (Uu 3) rfl rfl rfl (by omega) ?_
        refine (Qm)<|(Qm) ?_
        refine e_idxStr (Uu 9) rfl rfl (lw_get hp0 (by omega)) (by omega) rfl ?_
        refine e_conv_i (Uu 5) (Uu 3) rfl rfl rfl (by omega) ?_
        refine (Q3)<|(Q3)<|(Qa)<|Qn<|Qs<|Qp<|(Qm)<|(Qm) ?_
        refine e_conv_u8 (Uu 3) (Uu 5) rfl rfl rfl ?_
        refine (Qi)<|(Qu 3)<|Qn<|Qp<|(Qm)<|(Q5 256)<|(Qa)<|Qn<|Qp<|(Q2 1)<|(Qm)<|Qn ?_
        refine Qzr ⟨i + 1, upd s i _, rfl, rfl, rfl, by omega, upd_lt hf0_1 (tgn_at (k3 (wd (pst (k3 r) A ((List.range n).map h)))) (k3 p) i)⟩ ⟨rfl, rfl, rfl, rfl, rfl, by rw [← cr_next]; rfl, rfl, trivial⟩ ⟨rfl, rfl, rfl, rfl, trivial⟩ ?_
        omega
      · intro hc2
        have hc2 := of_decide_eq_false hc2
        have hi16 : i = 16 := by omega
        subst hi16
        refine Qe<|Qs<|Qp<|(Qd 3) ?_
        refine e_as (congrArg Value.agg (arr_congr hf0_1)) ?_
        refine (Qt 1)<|(Qa)<|Qn<|Qr ?_
        exact ⟨_, _, rfl, .cell (i := 1) rfl rfl (Uu 96) rfl (Uz 96) (arr_size _ _ _), .tmp rfl⟩
    · intro hc1
      exact absurd (of_decide_eq_false hc1) (by omega)
end Go.Proofs.YtbjaenjgahjikaaDoor
namespace Go.Proofs.YtbjaenjgahjikaaDoor
open Go Go.RowKit
theorem added_msg {G : Mem} (f : Nat → Nat) (m : List Nat) (v : Value) (l : List Nat) (hf : ∀ j, j < 32 → f j < 256) (hm : ∀ b ∈ m, b < 256) (hv : Shows G 1 v l.length (l.map by8)) (hlb : ∀ b ∈ l, b < 256) (hlen : l.length + 16 ≤ 9223372036854775807) :
    Fn Tryd.prog G 97 #[stP f m, v] (.tuple #[stP f (m ++ l), ii 0]) := by
  have hb := bL_lt hf
  have h := added_ok (G := G) (w8 (bL f)) (fun j => w8 (bL f) (j + 2)) (acc0 (k3 (w8 (bL f))) m) (heldF m) (rem16 m).length v l hv hlb (Nat.lt_trans (acc0_lt _ _) QQ_lt) (w8_lt hb 0) (w8_lt hb 1) (by rw [rem16_len]; omega) (fun j _ => heldF_lt hm j) (ok_heldF (okR_begun hf) _ m) hlen
  rw [sS_held, acc0_app, rem16_app] at h
  exact h
theorem ended_msg {G : Mem} (f : Nat → Nat) (m : List Nat) (hf : ∀ j, j < 32 → f j < 256) (hm : ∀ b ∈ m, b < 256) : Fn Tryd.prog G 99 #[stP f m] (.tuple #[.agg (arr .u8 16 (ptg f m)), ii 0]) := by
  have hb := bL_lt hf
  have hok := ok_heldF (okR_begun hf) (k3 (w8 (bL f))) m
  by_cases h0 : (rem16 m).length = 0
  · have h := ended_zero (G := G) (w8 (bL f)) (fun j => w8 (bL f) (j + 2)) (acc0 (k3 (w8 (bL f))) m) (heldF m) (rem16 m).length (w8_lt hb 0) (w8_lt hb 1) (w8_lt hb 2) (w8_lt hb 3) h0 hok
    unfold stP cP
    rw [show acc0 (k3 (w8 (bL f))) m = accE (k3 (w8 (bL f))) m from (if_pos h0).symm] at h ⊢
    exact h
  · have h := ended_some (G := G) (w8 (bL f)) (fun j => w8 (bL f) (j + 2)) (acc0 (k3 (w8 (bL f))) m) (heldF m) (rem16 m).length (w8_lt hb 0) (w8_lt hb 1) (w8_lt hb 2) (w8_lt hb 3) (Nat.lt_trans (acc0_lt _ _) QQ_lt) (fun j _ => heldF_lt hm j) (by omega) (by rw [rem16_len]; omega) hok
    rw [held_list, show pst (k3 (w8 (bL f))) (acc0 (k3 (w8 (bL f))) m) (rem16 m) = accE (k3 (w8 (bL f))) m from (if_neg h0).symm] at h
    exact h
variable {G : Mem}
set_option maxHeartbeats 2000000 in
theorem tag_fn (f : Nat → Nat) (hf : L8 32 f) (l : List Nat) (hb : ∀ b ∈ l, b < 256) (hl : l.length ≤ 140737488351232) : Fn Tryd.prog G 82 #[.agg (arr .u8 32 f), sv l] (.agg (arr .u8 16 (ptg f l))) := by
  have hl2 : l.length + 16 ≤ 9223372036854775807 := by omega
  refine Qf1 Tryd.func82 ?_
  refine Qs<|Qp<|(Qh 0) fun r1=>(QH 1) fun r2=>Qn<|Qs<|QR ⟨[], 1, [33], none⟩<|(Qd 0) ?_
  refine e_call rfl (Un 98) (begun_fn f hf) rfl rfl ?_
  refine e_as (stP_nil f) ?_
  refine (Qm) ?_
  refine e_conv_own 2 (Uu 9) (Uu 33) (Uu 5) rfl hb (by simp only [maxLen]; omega) rfl rfl fun v1_1 oz1_1 ho1_1 => ?_
  refine e_callV oz1_1.toList rfl rfl (Un 97) (subM_opt (i := 2) rfl) (added_msg (G := oz1_1.toList) f [] v1_1 l hf (by simp) (own_bytes ho1_1) hb hl2) rfl rfl rfl ?_
  refine e_as (show _ = Value.tuple #[stP f l, ii 0] from rfl) ?_
  refine (Qm)<|(Qx)<|(Qx)<|(QH 3) fun r4=>?_
  refine e_storeA (i := 3) (Uz 126) rfl rfl (arrv_size _ _) (cells_one ⟨fun _ => rfl, fun _ => rfl, fun _ => rfl, fun _ => rfl, fun _ => rfl, trivial⟩) rfl cells_sz (.inl rfl) ?_
  refine (Qa)<|Qn<|Qs<|Qp<|(QD 3) ?_
  refine e_call rfl (Un 99) (ended_msg f l hf hb) rfl rfl ?_
  refine (Qm)<|(Qx)<|(Qx)<|(QH 4) fun r5=>(Qt 4)<|(Qa)<|Qn<|Qs<|Qp<|(Qd 4)<|(Qt 1)<|Qn<|Qr ?_
  exact ⟨_, rfl, .cell (i := 1) rfl rfl (Uu 96) rfl (Uz 96) (arr_size _ _ _)⟩
end Go.Proofs.YtbjaenjgahjikaaDoor
namespace Go.Proofs.YtbjaenjgahjikaaDoor
open Go Go.RowKit
variable {G : Mem}
set_option maxHeartbeats 2000000 in
theorem blockOf_fn (k : Nat → Nat) (c : Nat) (nn : Nat → Nat) (hk : L8 32 k) (hn : L8 12 nn) (hc : c < 4294967296) : Fn Tryd.prog G 81 #[.agg (arr .u8 32 k), uw c, .agg (arr .u8 12 nn)] (.agg (arr .u8 64 (blkf k c nn))) := by
  have hal := allb_len k c nn
  have hab := allb_lt (c := c) hk hn
  obtain ⟨A, hA⟩ : ∃ A, A = allb k c nn := ⟨_, rfl⟩
  rw [← hA] at hal hab
  have hbl := outl_len (dbls (wrd A) 10) (wrd A)
  refine Qf1 Tryd.func81 ?_
  refine Qs<|Qp<|(Qh 0) fun r1=>(Qh 1) fun r2=>(QH 2) fun r3=>Qn<|Qs<|(Qg) ?_
  refine e_sliceA 0 32 (Uu 23) (Uz 5) rfl rfl rfl rfl rfl (by omega) (by omega) (by omega) rfl ?_
  refine e_conv_str (i := 0) (Uu 33) (Uu 5) (Uu 9) rfl rfl (by omega) rfl rfl ⟨[], trivial⟩ ?_
  refine e_as (conv_all k 32) ?_
  refine e_catS (l := [101, 120, 112, 97, 110, 100, 32, 51, 50, 45, 98, 121, 116, 101, 32, 107]) rfl rfl rfl (by simp) ?_
  refine (Qm) ?_
  refine e_conv_u (Uu 63) (Uu 24) rfl rfl rfl ?_
  refine e_as (congrArg u (Nat.mod_eq_of_lt (show c < 18446744073709551616 by omega))) ?_
  refine e_call rfl (Un 57) (low_fn c 4 (by omega) (by decide)) rfl rfl ?_
  refine e_catS rfl rfl rfl (by simp [lowl_len]) ?_
  refine e_sliceA 0 12 (Uu 80) (Uz 5) rfl rfl rfl rfl rfl (by omega) (by omega) (by omega) rfl ?_
  refine e_conv_str (i := 1) (Uu 33) (Uu 5) (Uu 9) rfl rfl (by omega) rfl rfl ⟨[], trivial⟩ ?_
  refine e_as (conv_all nn 12) ?_
  refine e_catS rfl rfl rfl (by simp [lowl_len]) ?_
  refine e_as (congrArg sv hA.symm) ?_
  refine (Qa)<|Qn<|Qs<|Qp<|(QH 3) fun r4=>Qn<|Qs<|Qs<|Qp<|(Qm)<|Qn<|Qb ?_
  refine Qz (fun kk E m => ∃ (i : Nat) (s : Nat → Nat), kk = 16 - i ∧ E = [(6, ptr r3), (7, sv A), (8, ptr r4), (24, ii i)] ∧ m = [(0, some ⟨r1, arr .u8 32 k, 23⟩), (1, some ⟨r2, arr .u8 12 nn, 80⟩), (2, some ⟨r3, arr .u8 64 (fun _ => 0), 65⟩), (3, some ⟨r4, arr .u32 16 s, 104⟩)] ∧ (i ≤ 16) ∧ (∀ t, t < i → s t = wrd A t)) ⟨0, fun _ => 0, rfl, rfl, rfl, by omega, fun t ht => absurd ht (Nat.not_lt_zero t)⟩ ⟨rfl, rfl, rfl, rfl, trivial⟩ ⟨rfl, rfl, rfl, rfl, trivial⟩ ?_
  rintro kk E m ⟨i, s, rfl, rfl, rfl, hf0_0, hf0_1⟩
  refine Qs<|Qp<|(Ql)<|Qn<|Qs ?_
  refine e_cond rfl ?_ ?_
  · intro hc0
    have hc0 := of_decide_eq_true hc0
    refine Qk<|Qs<|Qb<|Qs<|Qp<|(Qm)<|(Qa)<|Qn<|(Qg)<|(Qm)<|(Q5 4)<|(Qm)<|(Q4 4)<|(Qm)<|(Qm)<|(Q7 4)<|(Qm)<|(Q7 4)<|(Q2 4) ?_
    refine e_sliceStr (4 * i) (4 * i + 4) (Uu 9) rfl rfl rfl ⟨_, rfl⟩ ⟨_, rfl⟩ (by omega) (by omega) rfl ?_
    refine e_as (congrArg (fun z => sv ((A.drop (4 * i)).take z)) (show 4 * i + 4 - 4 * i = 4 by omega)) ?_
    refine e_call rfl (Un 74) (number_fn _ (cut4_len A i) (cut4_lt hab i)) rfl rfl ?_
    refine e_conv_w (Uu 24) (Uu 63) rfl rfl rfl ?_
    refine e_as (congrArg uw (Nat.mod_eq_of_lt (wrd_lt hab i))) ?_
    refine (QB (4 * (i / 4)))<|(QB (i))<|(Qu 3)<|Qn<|Qp<|(Q2 1)<|(Qm)<|Qn ?_
    refine Qzr ⟨i + 1, upd s i _, rfl, rfl, rfl, by omega, upd_lt hf0_1 rfl⟩ ⟨rfl, rfl, rfl, rfl, trivial⟩ ⟨rfl, rfl, rfl, rfl, trivial⟩ ?_
    omega
  · intro hc0
    have hc0 := of_decide_eq_false hc0
    have hi16 : i = 16 := by omega
    subst hi16
    have hse : arr .u32 16 s = arr .u32 16 (wrd A) := arr_congr hf0_1
    rw [hse]
    refine Qe<|Qs<|Qp<|(Qd 3)<|(QH 4) fun r5=>(Qt 4)<|Qn<|Qs<|Qs<|Qp<|(Qm)<|Qn<|Qb ?_
    refine Qz (fun kk E m => ∃ (n : Nat), kk = 10 - n ∧ E = [(6, ptr r3), (8, ptr r4), (10, ptr r5), (44, ii n)] ∧ m = [(0, some ⟨r1, arr .u8 32 k, 23⟩), (1, some ⟨r2, arr .u8 12 nn, 80⟩), (2, some ⟨r3, arr .u8 64 (fun _ => 0), 65⟩), (3, some ⟨r4, arr .u32 16 (wrd A), 104⟩), (4, some ⟨r5, arr .u32 16 (dbls (wrd A) n), 104⟩)] ∧ (n ≤ 10)) ⟨0, rfl, rfl, rfl, by omega⟩ ⟨rfl, rfl, rfl, rfl, trivial⟩ ⟨rfl, rfl, rfl, rfl, rfl, trivial⟩ ?_
    rintro kk E m ⟨n, rfl, rfl, rfl, hf1_0⟩
    refine Qs<|Qp<|(Ql)<|Qn<|Qs ?_
    refine e_cond rfl ?_ ?_
    · intro hc1
      have hc1 := of_decide_eq_true hc1
      refine Qk<|Qs<|Qb<|Qp<|(Qd 4) ?_
      refine e_call rfl (Un 96) (round_fn _) rfl rfl ?_
      refine e_call rfl (Un 75) (sh1_fn _) rfl rfl ?_
      refine e_call rfl (Un 96) (round_fn _) rfl rfl ?_
      refine e_call rfl (Un 75) (shm_fn _) rfl rfl ?_
      refine (Qt 4)<|Qn<|Qp<|(Q2 1)<|(Qm)<|Qn ?_
      refine Qzr ⟨n + 1, rfl, rfl, rfl, by omega⟩ ⟨rfl, rfl, rfl, rfl, trivial⟩ ⟨rfl, rfl, rfl, rfl, rfl, trivial⟩ ?_
      omega
    · intro hc1
      have hc1 := of_decide_eq_false hc1
      have hn10 : n = 10 := by omega
      subst hn10
      refine Qe<|Qs<|Qp ?_
      refine e_assign (v := sv []) rfl rfl ?_
      refine Qn<|Qs<|Qs<|Qp<|(Qm)<|Qn<|Qb ?_
      refine Qz (fun kk E m => ∃ (q : Nat), kk = 16 - q ∧ E = [(6, ptr r3), (8, ptr r4), (10, ptr r5), (11, sv (outl (dbls (wrd A) 10) (wrd A) q)), (52, ii q)] ∧ m = [(0, some ⟨r1, arr .u8 32 k, 23⟩), (1, some ⟨r2, arr .u8 12 nn, 80⟩), (2, some ⟨r3, arr .u8 64 (fun _ => 0), 65⟩), (3, some ⟨r4, arr .u32 16 (wrd A), 104⟩), (4, some ⟨r5, arr .u32 16 (dbls (wrd A) 10), 104⟩)] ∧ (q ≤ 16)) ⟨0, rfl, rfl, rfl, by omega⟩ ⟨rfl, rfl, rfl, rfl, rfl, trivial⟩ ⟨rfl, rfl, rfl, rfl, rfl, trivial⟩ ?_
      rintro kk E m ⟨q, rfl, rfl, rfl, hf2_0⟩
      have hbq := hbl q
      refine Qs<|Qp<|(Ql)<|Qn<|Qs ?_
      refine e_cond rfl ?_ ?_
      · intro hc2
        have hc2 := of_decide_eq_true hc2
        refine Qk<|Qs<|Qb<|Qs<|Qp<|(Qm)<|(Qa)<|Qn<|(Qg)<|(Qm)<|(Qm)<|(Q5 4)<|(Qm)<|(Q4 4)<|(QB (4 * (q / 4)))<|(QB (q))<|(Q1 4)<|(Qm)<|(Q5 4)<|(Qm)<|(Q4 4)<|(QB (4 * (q / 4)))<|(QB (q))<|(Q1 3) ?_
        refine e_add_w rfl rfl rfl  ?_
        refine e_conv_u (Uu 63) (Uu 24) rfl rfl rfl ?_
        refine e_as (congrArg u (Nat.mod_eq_of_lt (Nat.lt_trans (Nat.mod_lt _ (by decide)) (by decide)))) ?_
        refine e_call rfl (Un 57) (low_fn _ 4 (Nat.lt_trans (Nat.mod_lt _ (by decide)) (by decide)) (by decide)) rfl rfl ?_
        refine e_catS rfl rfl rfl (by rw [lowl_len]; omega) ?_
        refine (Qa)<|Qn<|Qp<|(Q2 1)<|(Qm)<|Qn ?_
        refine Qzr ⟨q + 1, rfl, rfl, rfl, by omega⟩ ⟨rfl, rfl, rfl, rfl, rfl, trivial⟩ ⟨rfl, rfl, rfl, rfl, rfl, trivial⟩ ?_
        omega
      · intro hc2
        have hc2 := of_decide_eq_false hc2
        have hq16 : q = 16 := by omega
        subst hq16
        refine Qe<|Qs<|Qp<|(QH 5) fun r6=>Qn<|Qs<|Qp ?_
        refine e_sliceA 0 64 (Uu 65) (Uz 5) rfl rfl rfl rfl rfl (by omega) (by omega) (by omega) rfl ?_
        refine (Qm) ?_
        refine e_copyStr (i := 5) (Uu 33) (Uz 5) rfl rfl (outl_lt _ _ 16) rfl (by omega) rfl ?_
        refine Qn<|Qs<|Qp<|(Qd 5) ?_
        refine e_as (congrArg Value.agg (copy_end _ (hbl 16))) ?_
        refine (Qt 2)<|Qn<|Qr ?_
        subst hA
        exact ⟨_, rfl, .cell (i := 2) rfl rfl (Uu 65) rfl (Uz 65) (arr_size _ _ _)⟩
end Go.Proofs.YtbjaenjgahjikaaDoor
namespace Go.Proofs.YtbjaenjgahjikaaDoor
open Go Go.RowKit
variable {G : Mem}
set_option maxHeartbeats 400000 in
theorem rest_end (k : Nat → Nat) (c : Nat) (nn : Nat → Nat) (v : Value) (l : List Nat) (at_ : Nat) (hv : Sh G v l) (hat : l.length ≤ at_) : Fx Tryd.prog G [] 84 #[.agg (arr .u8 32 k), uw c, .agg (arr .u8 12 nn), v, ii at_] (fun v l1 nw => l1 = [] ∧ ∃ v', v = v' ∧ OwnS 5 1 v' (l.length - at_) ((strl k c nn l at_).map by8) nw) := by
  refine QfN Tryd.func84 ?_
  refine Qs<|Qp<|(Qh 0) fun r1=>(Qh 1) fun r2=>(Qa)<|Qn<|Qs<|Qs<|Qp<|(Qm)<|(Qm)<|(QC hv)<|(QE)<|(Qat)<|Qn<|(Qct)<|Qs<|Qp<|(Qa)<|Qn<|Qr ?_
  exact ⟨_, _, _, 99, rfl, .tmp rfl, (own_fix (own_nil _ _) (by omega) (by rw [strl_none k c nn l hat]; rfl)), rfl⟩
set_option maxHeartbeats 2000000 in
theorem rest_step (k : Nat → Nat) (c : Nat) (nn : Nat → Nat) (v : Value) (l : List Nat) (at_ : Nat) (hv : Sh G v l) (hk : L8 32 k) (hn : L8 12 nn) (hat : at_ < l.length) (h64 : at_ % 64 = 0) (hlen : l.length ≤ 4294967296) (ih : Fx Tryd.prog G [] 84 #[.agg (arr .u8 32 k), uw c, .agg (arr .u8 12 nn), v, ii (at_ + 64)] (fun v l1 nw => l1 = [] ∧ ∃ v', v = v' ∧ OwnS 5 1 v' (l.length - (at_ + 64)) ((strl k c nn l (at_ + 64)).map by8) nw)) : Fx Tryd.prog G [] 84 #[.agg (arr .u8 32 k), uw c, .agg (arr .u8 12 nn), v, ii at_] (fun v l1 nw => l1 = [] ∧ ∃ v', v = v' ∧ OwnS 5 1 v' (l.length - at_) ((strl k c nn l at_).map by8) nw) := by
  refine QfN Tryd.func84 ?_
  refine Qs<|Qp<|(Qh 0) fun r1=>(Qh 1) fun r2=>(Qa)<|Qn<|Qs<|Qs<|Qp<|(Qm)<|(Qm)<|(QC hv)<|(QE)<|(Qaf)<|Qn<|(Qcf)<|Qk<|Qs<|Qp<|(Qd 0)<|(Qm)<|(Qm)<|(Q5 64) ?_
  refine e_conv_w (Uu 3) (Uu 63) rfl rfl rfl ?_
  refine e_add_w rfl rfl rfl  ?_
  refine (Qd 1) ?_
  refine e_call rfl (Un 81) (blockOf_fn k _ nn hk hn (Nat.mod_lt _ (by decide))) rfl rfl ?_
  refine (QH 2) fun r3=>(Qt 2)<|Qn<|Qs<|Qp<|(Qa)<|Qn<|Qs<|Qs<|Qp<|(Qm)<|(Qa)<|Qn<|Qb ?_
  refine Qz (fun kk E m => ∃ (i : Nat) (vo : Value) (oz : Option Blk), kk = l.length - (at_ + i) ∧ E = [(1, uw c), (3, v), (4, ii at_), (5, ptr r1), (7, ptr r2), (11, ptr r3), (12, vo), (13, ii (at_ + i))] ∧ m = [(0, some ⟨r1, arr .u8 32 k, 23⟩), (1, some ⟨r2, arr .u8 12 nn, 80⟩), (2, some ⟨r3, (arr .u8 64 (blkf k ((c + at_ / 64 % 4294967296) % 4294967296) nn)), 65⟩), (9, oz)] ∧ (i ≤ 64) ∧ (at_ + i ≤ l.length) ∧ (OwnS 5 1 vo i ((strp k c nn l at_ i).map by8) (Option.toList oz))) ⟨0, nilS, none, rfl, rfl, rfl, by omega, by omega, own_nil _ _⟩ ⟨rfl, rfl, rfl, rfl, rfl, rfl, rfl, rfl, trivial⟩ ⟨rfl, rfl, rfl, rfl, trivial⟩ ?_
  rintro kk E m ⟨i, vo, oz, rfl, rfl, rfl, hf0_0, hf0_1, hf0_2⟩
  refine Qs<|Qs ?_
  rcases (show at_ + i < l.length ∨ ¬ at_ + i < l.length by omega) with hlt | hlt
  · skip
    refine Qp<|(Qm)<|(Qm)<|(QC hv)<|(Ql)<|(Qat)<|(Qm)<|(Qy)<|(Qm)<|(Qy)<|(Qm)<|(Qy)<|(Q2 64)<|(Qy)<|(Ql)<|(QT)<|Qn ?_
    refine e_cond rfl ?_ ?_
    · intro hc1
      have hc1 := of_decide_eq_true hc1
      refine Qk<|Qs<|Qb<|(Qg)<|(Qm)<|(Qm)<|(Qm) ?_
      refine e_atV hv (Uu 33) (Uz 5) rfl rfl (by omega) rfl ?_
      refine (QS) ?_
      refine e_loadV hv seenG (Uu 5) rfl rfl (by rw [List.getElem?_map, List.getElem?_eq_getElem (show at_ + i < l.length by omega)]; rfl) rfl ?_
      refine (Qm)<|(Qm) ?_
      refine e_sub_z rfl rfl rfl (by omega) (by omega) ?_
      refine e_as (congrArg (Value.int .i64) (show ((at_ + i : Nat) : Int) - ((at_ : Nat) : Int) = ((i : Nat) : Int) by omega)) ?_
      refine (Qi)<|(Q1 2) ?_
      refine e_xor_b rfl rfl rfl  ?_
      refine e_as (congrArg by8 (strv_at k c nn l (show at_ + i < l.length by omega) h64 (show i < 64 by omega))) ?_
      refine e_buildSl 3 #[by8 (strv k c nn l (at_ + i))] (Uu 33 rfl) (Uz 5 rfl) (Ub 5 rfl) (by decide) (by decide) rfl (by kernel_rfl) rfl fun r4 => ?_
      refine e_append 9 hf0_2 (shows_new _ _ (by rfl)) rfl (seen1 3 rfl ⟨[], trivial⟩) (Uu 33) (Uz 5) (Uy 5) (Ub 5) (by rfl) rfl rfl (by simp [Value.oneCell']) (by simp only [maxLen]; omega) (by omega) rfl fun v4_1 oz4_1 ho4_1 => ?_
      refine (Qa)<|Qn<|Qp<|(Qm)<|(Q2 1)<|(Qa)<|Qn ?_
      refine Qzr ⟨i + 1, _, _, rfl, rfl, rfl, by omega, by omega, own_fix ho4_1 rfl (by rw [← strp_succ, List.map_append]; rfl)⟩ ⟨rfl, rfl, rfl, rfl, rfl, rfl, rfl, rfl, trivial⟩ ⟨rfl, rfl, rfl, rfl, trivial⟩ ?_
      omega
    · intro hc1
      have hc1 := of_decide_eq_false hc1
      have hfin : (i = 64 ∧ at_ + 64 ≤ l.length) ∨ (at_ + i = l.length) := by omega
      refine Qe<|Qs<|QR ⟨[], 4, [], none⟩<|(Qm)<|(Qd 0)<|(Qm)<|(Qd 1)<|(Qm)<|(Qm)<|(Q2 64) ?_
      refine e_callN 3 (fun v => v) rfl rfl (Un 84) seenG ih (by simp only [maxLen]; omega) (by rw [List.length_map, strl_len, Nat.mul_one]) rfl rfl fun v4_1 oz4_1 ho4_1 => ?_
      refine e_append 9 hf0_2 ho4_1.shows rfl (seenM 3 rfl ⟨[], trivial⟩) (Uu 33) (Uz 5) (Uy 5) (Ub 5) (by rfl) rfl rfl by8_one (by simp only [maxLen]; omega) (by omega) rfl fun v4_2 oz4_2 ho4_2 => ?_
      refine (Qa)<|Qn<|Qr ?_
      exact ⟨_, _, _, 9, rfl, .tmp rfl, (own_fix ho4_2 (by omega) (by rw [← List.map_append, strp_all k c nn l hfin (by omega)])), rfl⟩
  · skip
    refine Qp<|(Qm)<|(Qm)<|(QC hv)<|(Ql)<|(Qaf)<|(Qm)<|(Qo)<|(Qo)<|(Qo)<|(Qo)<|(QF)<|Qn<|(Qcf) ?_
    have hfin : (i = 64 ∧ at_ + 64 ≤ l.length) ∨ (at_ + i = l.length) := by omega
    refine Qe<|Qs<|QR ⟨[], 4, [], none⟩<|(Qm)<|(Qd 0)<|(Qm)<|(Qd 1)<|(Qm)<|(Qm)<|(Q2 64) ?_
    refine e_callN 3 (fun v => v) rfl rfl (Un 84) seenG ih (by simp only [maxLen]; omega) (by rw [List.length_map, strl_len, Nat.mul_one]) rfl rfl fun v4_1 oz4_1 ho4_1 => ?_
    refine e_append 9 hf0_2 ho4_1.shows rfl (seenM 3 rfl ⟨[], trivial⟩) (Uu 33) (Uz 5) (Uy 5) (Ub 5) (by rfl) rfl rfl by8_one (by simp only [maxLen]; omega) (by omega) rfl fun v4_2 oz4_2 ho4_2 => ?_
    refine (Qa)<|Qn<|Qr ?_
    exact ⟨_, _, _, 9, rfl, .tmp rfl, (own_fix ho4_2 (by omega) (by rw [← List.map_append, strp_all k c nn l hfin (by omega)])), rfl⟩
end Go.Proofs.YtbjaenjgahjikaaDoor
namespace Go.Proofs.YtbjaenjgahjikaaDoor
open Go Go.RowKit
theorem rest_fn {G : Mem} (k : Nat → Nat) (c : Nat) (nn : Nat → Nat) (v : Value) (l : List Nat) (hv : Shows G 1 v l.length (l.map by8)) (hk : ∀ j, j < 32 → k j < 256) (hn : ∀ j, j < 12 → nn j < 256) (hlen : l.length ≤ 4294967296) :
    ∀ m at_, at_ % 64 = 0 → l.length ≤ at_ + 64 * m → Fx Tryd.prog G [] 84 #[.agg (arr .u8 32 k), uw c, .agg (arr .u8 12 nn), v, ii at_] (fun v l1 nw => l1 = [] ∧ ∃ v', v = v' ∧ OwnS 5 1 v' (l.length - at_) ((strl k c nn l at_).map by8) nw)
  | 0, at_, _, h => rest_end k c nn v l at_ hv (by omega)
  | m + 1, at_, h64, h => by
    by_cases hat : l.length ≤ at_
    · exact rest_end k c nn v l at_ hv hat
    · exact rest_step k c nn v l at_ hv hk hn (by omega) h64 hlen (rest_fn k c nn v l hv hk hn hlen m (at_ + 64) (by omega) (by omega))
variable {G : Mem}
set_option maxHeartbeats 400000 in
theorem streamed_over (k : Nat → Nat) (c : Nat) (nn : Nat → Nat) (v : Value) (l : List Nat) (hv : Sh G v l) (hc : c < 4294967296) (hb : l.length ≤ 1600) (ho : 64 * (4294967296 - c) < l.length) : Fn Tryd.prog G 69 #[.agg (arr .u8 32 k), uw c, .agg (arr .u8 12 nn), v] (.tuple #[nilS, ii 11]) := by
  refine Qf2 Tryd.func69 ?_
  refine Qs<|Qp<|(Qh 0) fun r1=>(Qh 1) fun r2=>(Qa)<|(Qa)<|Qn<|Qs<|Qs<|Qp<|(Qm)<|(QC hv)<|(QG)<|(Qaf)<|Qn<|(Qcf)<|Qk<|Qs<|Qs<|Qp<|(Qm)<|(QC hv)<|(Qm) ?_
  refine e_conv_i (Uu 63) (Uu 3) rfl rfl rfl (by omega) ?_
  refine e_sub_z (p := 4294967296) rfl rfl rfl (by omega) (by omega) ?_
  refine e_as (congrArg (Value.int .i64) (show (4294967296 : Int) - ((c : Nat) : Int) = ((4294967296 - c : Nat) : Int) by omega)) ?_
  refine (Q7 64)<|(QG)<|(Qat)<|Qn<|(Qct)<|Qs<|Qp<|(Qa)<|(Qa)<|Qn<|Qr ?_
  exact ⟨_, _, rfl, .tmp rfl, .tmp rfl⟩
set_option maxHeartbeats 400000 in
theorem streamed_ok (k : Nat → Nat) (c : Nat) (nn : Nat → Nat) (v : Value) (l : List Nat) (hv : Sh G v l) (hk : L8 32 k) (hn : L8 12 nn) (hc : c < 4294967296) (hb : l.length ≤ 1600) (ho : ¬ 64 * (4294967296 - c) < l.length) : Fx Tryd.prog G [] 69 #[.agg (arr .u8 32 k), uw c, .agg (arr .u8 12 nn), v] (fun v l1 nw => l1 = [] ∧ ∃ v', v = .tuple #[v', ii 0] ∧ OwnS 5 1 v' (l.length - 0) ((strl k c nn l 0).map by8) nw) := by
  refine QfM Tryd.func69 ?_
  refine Qs<|Qp<|(Qh 0) fun r1=>(Qh 1) fun r2=>(Qa)<|(Qa)<|Qn<|Qs<|Qs<|Qp<|(Qm)<|(QC hv)<|(QG)<|(Qaf)<|Qn<|(Qcf)<|Qk<|Qs<|Qs<|Qp<|(Qm)<|(QC hv)<|(Qm) ?_
  refine e_conv_i (Uu 63) (Uu 3) rfl rfl rfl (by omega) ?_
  refine e_sub_z (p := 4294967296) rfl rfl rfl (by omega) (by omega) ?_
  refine e_as (congrArg (Value.int .i64) (show (4294967296 : Int) - ((c : Nat) : Int) = ((4294967296 - c : Nat) : Int) by omega)) ?_
  refine (Q7 64)<|(QG)<|(Qaf)<|Qn<|(Qcf)<|Qk<|Qs<|QR ⟨[], 4, [], none⟩<|(Qd 0)<|(Qm)<|(Qd 1)<|(Qm) ?_
  refine e_callN 2 (fun v => v) rfl rfl (Un 84) seenG (rest_fn k c nn v l hv hk hn (by omega) 25 0 rfl (by omega)) (by simp only [maxLen]; omega) (by rw [List.length_map, strl_len, Nat.mul_one]) rfl rfl fun v3_1 oz3_1 ho3_1 => ?_
  refine (Qa)<|(Qa)<|Qn<|Qr ?_
  exact ⟨_, _, _, _, 2, rfl, .tmp rfl, .tmp rfl, ho3_1, rfl⟩
end Go.Proofs.YtbjaenjgahjikaaDoor
namespace Go.Proofs.YtbjaenjgahjikaaDoor
open Go Go.RowKit
variable {G : Mem}
set_option maxHeartbeats 400000 in
theorem noughts_fn (n : Nat) (hn : n ≤ 1000000) : Fn Tryd.prog G 58 #[ii n] (sv (zrs n)) := by
  refine Qf1 Tryd.func58 ?_
  refine Qs<|Qp ?_
  refine e_assign (v := sv []) rfl rfl ?_
  refine Qn<|Qs<|Qp<|(Qm) ?_
  refine e_make 0 (Uu 33) (Uz 5) (Uy 5) (Ub 5) rfl rfl rfl (by omega) (by omega) rfl fun r1 => ?_
  refine e_conv_strV (made_shows _ _ _) (seen1 0 rfl ⟨[], trivial⟩) (Uu 33) (Uu 5) (Uu 9) rfl rfl rfl ?_
  refine (Qa)<|Qn<|Qr ?_
  exact ⟨_, rfl, .tmp rfl⟩
set_option maxHeartbeats 400000 in
theorem fill_fn (l : List Nat) (hl : l.length ≤ 1000000) : Fn Tryd.prog G 83 #[sv l] (sv (pad16 l)) := by
  refine Qf1 Tryd.func83 ?_
  refine Qs<|Qp ?_
  refine e_assign (v := sv []) rfl rfl ?_
  refine Qn<|Qs<|Qp<|(Qm)<|(Qm)<|(QU)<|(Q4 16) ?_
  refine e_sub_in (p := 16) rfl rfl rfl (by omega) (by omega) ?_
  refine (Q4 16) ?_
  refine e_call rfl (Un 58) (noughts_fn ((16 - l.length % 16) % 16) (by omega)) rfl rfl ?_
  refine e_catS rfl rfl rfl (by rw [zrs_len]; omega) ?_
  refine e_as (show _ = sv (pad16 l) from rfl) ?_
  refine (Qa)<|Qn<|Qr ?_
  exact ⟨_, rfl, .tmp rfl⟩
set_option maxHeartbeats 2000000 in
theorem tagOf_fn (k nn : Nat → Nat) (ad b : List Nat) (hk : L8 32 k) (hn : L8 12 nn) (ha : ∀ x ∈ ad, x < 256) (hb : ∀ x ∈ b, x < 256) (hal : ad.length ≤ 10000) (hbl : b.length ≤ 10000) : Fn Tryd.prog G 68 #[.agg (arr .u8 32 k), .agg (arr .u8 12 nn), sv ad, sv b] (sv (tagl k nn ad b)) := by
  have hpa := pad16_len ad
  have hpb := pad16_len b
  have hml := macIn_len ad b
  refine Qf1 Tryd.func68 ?_
  refine Qs<|Qp<|(Qh 0) fun r1=>(Qh 1) fun r2=>?_
  refine e_assign (v := sv []) rfl rfl ?_
  refine Qn<|Qs<|Qp<|(Qd 0)<|(Qd 1) ?_
  refine e_call rfl (Un 81) (blockOf_fn k 0 nn hk hn (by decide)) rfl rfl ?_
  refine (QH 2) fun r3=>(Qt 2)<|Qn<|Qs<|Qp<|(QH 3) fun r4=>Qn<|Qs<|(Qg) ?_
  refine e_sliceA 0 32 (Uu 23) (Uz 5) rfl rfl rfl rfl rfl (by omega) (by omega) (by omega) rfl ?_
  refine e_sliceA 0 32 (Uu 65) (Uz 5) rfl rfl rfl rfl ⟨_, rfl⟩ (by omega) (by omega) (by omega) rfl ?_
  refine e_copyB (i := 3) (Uu 33) (Uz 5) (arr_shows r3 64 (blkf k 0 nn) 65 0 32 64 (by decide) (by decide)) (seen1 2 rfl ⟨[], trivial⟩) rfl rfl rfl (by omega) rfl ?_
  refine Qn<|Qs<|(Qg)<|(Qd 3) ?_
  refine e_as (congrArg Value.agg (arr_congr (okey_copy k nn))) ?_
  refine (Qm) ?_
  refine e_call rfl (Un 83) (fill_fn ad (by omega)) rfl rfl ?_
  refine (Qm) ?_
  refine e_call rfl (Un 83) (fill_fn b (by omega)) rfl rfl ?_
  refine e_catS rfl rfl rfl (by omega) ?_
  refine (Qm)<|(QU) ?_
  refine e_conv_un (Uu 3) (Uu 24) rfl rfl rfl (by omega) ?_
  refine e_call rfl (Un 57) (low_fn ad.length 8 (by omega) (by decide)) rfl rfl ?_
  refine e_catS rfl rfl rfl (by rw [lowl_len, List.length_append]; omega) ?_
  refine (Qm)<|(QU) ?_
  refine e_conv_un (Uu 3) (Uu 24) rfl rfl rfl (by omega) ?_
  refine e_call rfl (Un 57) (low_fn b.length 8 (by omega) (by decide)) rfl rfl ?_
  refine e_catS rfl rfl rfl (by rw [lowl_len, List.length_append, List.length_append, lowl_len]; omega) ?_
  refine e_as (show _ = sv (macIn ad b) from rfl) ?_
  refine e_call rfl (Un 82) (tag_fn (okey k nn) (okey_lt k nn) (macIn ad b) (macIn_lt ha hb) (by omega)) rfl rfl ?_
  refine (QH 4) fun r5=>(Qt 4)<|Qn<|Qs<|Qp ?_
  refine e_sliceA 0 16 (Uu 96) (Uz 5) rfl rfl rfl rfl rfl (by omega) (by omega) (by omega) rfl ?_
  refine e_conv_str (i := 4) (Uu 33) (Uu 5) (Uu 9) rfl rfl (by omega) rfl rfl ⟨[], trivial⟩ ?_
  refine e_as (conv_all (ptg (okey k nn) (macIn ad b)) 16) ?_
  refine (Qa)<|Qn<|Qr ?_
  exact ⟨_, rfl, .tmp rfl⟩
end Go.Proofs.YtbjaenjgahjikaaDoor
