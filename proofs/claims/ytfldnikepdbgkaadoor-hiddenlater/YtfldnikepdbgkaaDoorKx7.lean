import Derived.Test.YtfldnikepdbgkaaDoorKx6
namespace Go.Proofs.YtfldnikepdbgkaaDoor
open Go Go.RowKit
theorem toldBy_fn {G : Mem} (base : List Nat) (late : Bool) (vp v0 v1 vt : Value) (tvs : List Value) (ps p0 p1 : List Int) (ts : List (List Int)) (hvp : Shows G 1 vp ps.length (ps.map iv)) (hvt : Shows G 1 vt tvs.length tvs) (hLI : ShowsLI G (v0 :: v1 :: tvs) (p0 :: p1 :: ts)) (h5 : ts.length ≤ 5) (h6 : ∀ i, i < ts.length → (ts.getD i []).length ≤ 6) (h60 : p0.length ≤ 6) (h61 : p1.length ≤ 6) : Fx Tryd.prog G [] 25 #[.agg (cells 6 [pV (sv base), pV (.bool late), pV vp, pV v0, pV v1, pV vt])] (fun v l1 nw => l1 = [] ∧ ∃ xs, TL nw (toldW late ps.length p0 p1 ts).told v xs) := by
  by_cases h : 0 < ps.length
  · exact toldBy_psk base late vp v0 v1 vt tvs ps p0 p1 ts hvp hvt hLI h5 h6 h60 h61 h
  · exact toldBy_plain base late vp v0 v1 vt tvs ps p0 p1 ts hvp hvt hLI h5 h6 (by omega)
variable {G : Mem}
set_option maxHeartbeats 4000000 in
theorem told_ok (base : List Nat) (late : Bool) (vp v0 v1 vt : Value) (tvs : List Value) (ps p0 p1 : List Int) (ts : List (List Int)) (hvp : Shows G 1 vp ps.length (ps.map iv)) (hvt : Shows G 1 vt tvs.length tvs) (hLI : ShowsLI G (v0 :: v1 :: tvs) (p0 :: p1 :: ts)) (hpf : pfault late p0 p1 ts = 0) (h4 : ps.length ≤ 4) : Fx Tryd.prog G [] 13 #[.agg (cells 6 [pV (sv base), pV (.bool late), pV vp, pV v0, pV v1, pV vt])] (fun v l1 nw => l1 = [] ∧ ToldD late ps.length p0 p1 ts v nw) := by
  have hT := li_tail (li_tail hLI)
  have htl : tvs.length = ts.length := hT.1
  have o1 := shows_oneC hvp
  have o2 := shows_oneC (vq_show hLI 0 (by decide))
  have o3 := shows_oneC (vq_show hLI 1 (by decide))
  have o4 := shows_oneC hvt
  obtain ⟨⟨h1, h5⟩, ⟨h60, h61⟩, h6⟩ := pf_sizes hpf
  refine fxDV (n := 16) Tryd.func13 rfl rfl (by simp) (argE [.agg (cells 6 [pV (sv base), pV (.bool late), pV vp, pV v0, pV v1, pV vt])] 0) (argE_ok _) ?_
  refine Qs<|Qp<|(Qh 0) fun r1=>(Qa)<|(Qa)<|Qn<|Qs<|Qs<|Qp<|(QD 0) ?_
  refine e_call rfl (Un 24) (chk_all base late vp v0 v1 vt tvs p0 p1 ts hvt hLI) rfl rfl ?_
  refine e_as (congrArg ii hpf) ?_
  refine (Qa)<|Qn<|Qs<|Qp<|(Qm)<|(QN) ?_
  refine e_as (congrArg Value.bool (decide_eq_false (by decide))) ?_
  refine Qn<|(Qcf)<|Qk<|Qs<|Qs<|Qp<|(Qf 2)<|(QV 2 0)<|(QC hvp)<|(QG)<|(Qaf)<|Qn<|(Qcf)<|Qk<|Qs<|QR ⟨[], 4, [], none, none⟩<|(QD 0) ?_
  refine e_callD [(0, _)] (by repeat (first | exact bag_nil | exact bag_lab _ | apply bag_skip rfl)) ⟨rfl, trivial⟩ rfl rfl rfl (Un 25) seenG (toldBy_fn base late vp v0 v1 vt tvs ps p0 p1 ts hvp hvt hLI h5 h6 h60 h61) (fun m' => told_room 53 h5 h6 m') rfl rfl fun v3_1 nw3_1 hD3_1 => ?_
  simp only [catL]
  obtain ⟨x8, ht8⟩ := hD3_1
  refine (Qa)<|(Qa)<|Qn<|Qr ?_
  exact ⟨_, _, _, _, ([] ++ nw3_1), rfl, .tmp rfl, .tmp rfl, ⟨_, x8, rfl, ht8⟩, (by repeat (first | exact bag_nil | exact bag_lab _ | apply bag_skip rfl))⟩
end Go.Proofs.YtfldnikepdbgkaaDoor
namespace Go.Proofs.YtfldnikepdbgkaaDoor
open Go Go.RowKit
variable {G : Mem}
set_option maxHeartbeats 4000000 in
theorem public_fn (base : List Nat) (late : Bool) (vp v0 v1 vt : Value) (tvs : List Value) (ps p0 p1 : List Int) (ts : List (List Int)) (hvp : Shows G 1 vp ps.length (ps.map iv)) (hvt : Shows G 1 vt tvs.length tvs) (hLI : ShowsLI G (v0 :: v1 :: tvs) (p0 :: p1 :: ts)) (h60 : p0.length ≤ 6) (h61 : p1.length ≤ 6) : Fx Tryd.prog G [] 18 #[.agg (cells 6 [pV (sv base), pV (.bool late), pV vp, pV v0, pV v1, pV vt])] (fun v l1 nw => l1 = [] ∧ ∃ v', v = v' ∧ OwnS 53 4 v' ([atomT 0, pubT 1, pubT 2] ++ earlyT p0 p1).length (lfC ([atomT 0, pubT 1, pubT 2] ++ earlyT p0 p1)) nw) := by
  have hT := li_tail (li_tail hLI)
  have htl : tvs.length = ts.length := hT.1
  have o1 := shows_oneC hvp
  have o2 := shows_oneC (vq_show hLI 0 (by decide))
  have o3 := shows_oneC (vq_show hLI 1 (by decide))
  have o4 := shows_oneC hvt
  have hel := early_len p0 p1 2
  rw [early_all] at hel
  refine QfN Tryd.func18 ?_
  refine Qs<|Qp<|(Qh 0) fun r1=>(Qa)<|Qn<|Qs ?_
  refine e_order ⟨[], 4, [], none, none⟩ [4, 0, 1, 2, 5, 3, 6, 7] mixed (by kernel_rfl) ?_
  refine (QD 0) ?_
  refine e_call rfl (Un 20) (tatom_fn 0) rfl rfl ?_
  refine e_call rfl (Un 32) (tpub_fn 1) rfl rfl ?_
  refine e_call rfl (Un 32) (tpub_fn 2) rfl rfl ?_
  refine e_callN 1 (fun v => v) rfl rfl (Un 33) seenG (early_fn base late vp v0 v1 vt tvs ps p0 p1 ts hvp hvt hLI h60 h61) (by simp only [maxLen]; omega) (lf_to (G := []) (earlyT p0 p1) (early_args p0 p1)).1 rfl rfl fun v1_1 oz1_1 ho1_1 => ?_
  refine e_buildSl 2 ((tC (atomT 0) nilS).toList ++ (tC (pubT 1) nilS).toList ++ (tC (pubT 2) nilS).toList).toArray (Uu 45 rfl) (Uz 53 rfl) (Ub 53 rfl) (by decide) (by decide) rfl (fill_tC3 (by kernel_rfl)) rfl fun r3 => ?_
  refine e_append 2 (own_blkS (n := 3) (c := ((tC (atomT 0) nilS).toList ++ (tC (pubT 1) nilS).toList ++ (tC (pubT 2) nilS).toList).toArray) (by rfl) (by decide)) ho1_1.shows rfl (seenM 1 rfl ⟨[], trivial⟩) (Uu 45) (Uz 53) (Uy 53) (Ub 53) (by rfl) rfl rfl (lf_to (G := []) (earlyT p0 p1) (early_args p0 p1)).ones (by simp only [maxLen]; omega) (by omega) rfl fun v1_2 oz1_2 ho1_2 => ?_
  refine (Qa)<|Qn<|Qr ?_
  exact ⟨_, _, _, 2, rfl, .tmp rfl, (own_fix ho1_2 (by rw [List.length_append]; rfl) (by unfold lfC; rw [List.flatMap_append]; rfl)), rfl⟩
end Go.Proofs.YtfldnikepdbgkaaDoor
namespace Go.Proofs.YtfldnikepdbgkaaDoor
open Go Go.RowKit
variable {G : Mem}
set_option maxHeartbeats 400000 in
theorem growt_zero (n : Nat) (hn : n = 0) : Fx Tryd.prog G [] 31 #[nilS, ii n] (fun v l1 nw => l1 = [] ∧ ∃ v', v = v' ∧ OwnS 53 4 v' 0 [] nw) := by
  refine QfN Tryd.func31 ?_
  refine Qs<|Qp<|(Qa)<|Qn<|Qs<|Qs<|Qp<|(Qm)<|(Ql)<|(Qaf)<|Qn<|(Qcf)<|Qk<|Qs<|Qs<|Qp<|(Qm)<|(Qm) ?_
  refine e_capSl (Uu 45) rfl rfl rfl ?_
  refine (Qm)<|(QC (shows_nil [] 4)) ?_
  refine e_sub_in rfl rfl rfl (by omega) (by omega) ?_
  refine e_as (show _ = ii 0 from rfl) ?_
  refine e_sub_in rfl rfl rfl (by omega) (by omega) ?_
  refine e_as (show _ = ii n from rfl) ?_
  refine (Qa)<|Qn<|Qs<|Qp<|(Qm)<|(QG)<|(Qaf)<|Qn<|(Qcf)<|Qk<|Qs<|Qp<|(Qm)<|(Qa)<|Qn<|Qr ?_
  exact ⟨_, _, _, 99, rfl, .tmp rfl, (own_nil _ _), rfl⟩
set_option maxHeartbeats 400000 in
theorem growt_some (n : Nat) (hn : 0 < n) (hm : n ≤ 1000000) : Fx Tryd.prog G [] 31 #[nilS, ii n] (fun v l1 nw => l1 = [] ∧ ∃ v', v = v' ∧ OwnS 53 4 v' 0 [] nw) := by
  refine QfN Tryd.func31 ?_
  refine Qs<|Qp<|(Qa)<|Qn<|Qs<|Qs<|Qp<|(Qm)<|(Ql)<|(Qaf)<|Qn<|(Qcf)<|Qk<|Qs<|Qs<|Qp<|(Qm)<|(Qm) ?_
  refine e_capSl (Uu 45) rfl rfl rfl ?_
  refine (Qm)<|(QC (shows_nil [] 4)) ?_
  refine e_sub_in rfl rfl rfl (by omega) (by omega) ?_
  refine e_as (show _ = ii 0 from rfl) ?_
  refine e_sub_in rfl rfl rfl (by omega) (by omega) ?_
  refine e_as (show _ = ii n from rfl) ?_
  refine (Qa)<|Qn<|Qs<|Qp<|(Qm)<|(QG)<|(Qat)<|Qn<|(Qct)<|Qp<|(Qm)<|(Qm) ?_
  refine e_capSl (Uu 45) rfl rfl rfl ?_
  refine e_sliceV 0 0 (shows_nil [] 4) (Uu 45) (Uz 53) rfl rfl rfl rfl ⟨_, rfl⟩ (by omega) (by omega) rfl ?_
  refine (Qm) ?_
  refine e_appendZ 0 (z := 4) (Uu 45) (Uu 3) (Uz 53) (Uy 53) (Ub 53) rfl rfl rfl (by omega) (by simp only [maxLen]; omega) (by omega) rfl fun v3_1 oz3_1 xs3_1 ho3_1 => ?_
  refine (Qm)<|(QC (shows_nil [] 4)) ?_
  refine e_sliceV 0 0 ho3_1.shows (Uu 45) (Uz 53) rfl rfl rfl rfl ⟨_, rfl⟩ (by omega) (by omega) rfl ?_
  refine (Qa)<|Qn<|Qs<|Qp<|(Qm)<|(Qa)<|Qn<|Qr ?_
  exact ⟨_, _, _, 0, rfl, .tmp rfl, (own_cut0 ho3_1), rfl⟩
end Go.Proofs.YtfldnikepdbgkaaDoor
namespace Go.Proofs.YtfldnikepdbgkaaDoor
open Go Go.RowKit
theorem growt_fn {G : Mem} (n : Nat) (hm : n ≤ 1000000) : Fx Tryd.prog G [] 31 #[nilS, ii n] (fun v l1 nw => l1 = [] ∧ ∃ v', v = v' ∧ OwnS 53 4 v' 0 [] nw) := by
  by_cases h : n = 0
  · exact growt_zero n h
  · exact growt_some n (by omega) hm
variable {G : Mem}
set_option maxHeartbeats 4000000 in
theorem concatt_fn (v : Value) (vs : List Value) (ls : List (List TT)) (cx : Nat → List Value) (hv : Shows G 1 v vs.length vs) (hvl : vs.length = ls.length) (hL : ∀ i, i < ls.length → TL G (ls.getD i []) (vs.getD i undef) (cx i)) (hn : vs.length ≤ 1000) (hm : ls.flatten.length ≤ 100000) : Fx Tryd.prog G [] 17 #[v] (fun v l1 nw => l1 = [] ∧ ∃ v', v = v' ∧ OwnS 53 4 v' ls.flatten.length (uptoC cx ls.length) nw) := by
  have hup := uptoL_le ls
  refine QfN Tryd.func17 ?_
  refine Qs<|Qp<|(Qa)<|Qn<|Qs<|Qp<|(Qa)<|Qn<|Qs<|Qs<|Qp<|(Qm)<|(QC hv)<|(Qm)<|Qn<|Qb ?_
  refine QzK [(0, _), (2, _), (9, _), (10, _)] [] (fun kk E m => ∃ (i : Nat) (s : Nat), kk = vs.length - i ∧ E = [(3, ii s), (11, ii i)] ∧ m = [] ∧ (i ≤ vs.length) ∧ (s = (uptoL ls i).length)) ⟨0, 0, rfl, rfl, rfl, by omega, rfl⟩ ⟨rfl, rfl, rfl, rfl, rfl, rfl, trivial⟩ trivial ?_
  rintro kk E m ⟨i, s, rfl, rfl, rfl, hf0_0, hf0_1⟩
  simp only [catE, catL]
  have hs1 := hup (i + 1)
  have hs2 : i < ls.length → (uptoL ls (i + 1)).length = (uptoL ls i).length + (ls.getD i []).length := fun h => by rw [uptoL_next h, List.length_append]
  refine Qs<|Qp<|(Ql)<|Qn<|Qs ?_
  refine e_cond rfl ?_ ?_
  · intro hc0
    have hc0 : i < vs.length := by have := of_decide_eq_true hc0; omega
    refine Qk<|Qs<|Qb<|Qs<|Qp ?_
    refine e_atV hv (Uu 66) (Uz 45) rfl rfl (by omega) rfl ?_
    refine (QS) ?_
    refine e_loadV hv seenG (Uu 45) rfl rfl (get_getD (by omega)) rfl ?_
    refine (Qa)<|Qn<|Qs<|Qp<|(Qm)<|(Qm) ?_
    refine e_lenV (hL i (by omega)).2.1 (Uu 45) rfl rfl rfl ?_
    refine e_add_i rfl rfl rfl (by have := hs2 (by omega); omega) ?_
    refine (Qa)<|Qn<|Qs<|Qp<|(Qm)<|(Ql)<|(Qaf)<|Qn<|(Qcf)<|Qk<|Qp<|(Q2 1)<|(Qm)<|Qn ?_
    refine QzL ⟨i + 1, _, rfl, rfl, rfl, by omega, (by rw [uptoL_next (by omega), List.length_append, hf0_1])⟩ ⟨rfl, rfl, rfl, rfl, rfl, rfl, trivial⟩ trivial ?_
    omega
  · intro hc0
    have hc0 := of_decide_eq_false hc0
    have hz0 : i = vs.length := by omega
    refine Qe<|Qs<|QR ⟨[], 4, [], none, none⟩<|(Qm) ?_
    refine e_callN 0 (fun v => v) rfl rfl (Un 31) seenG (growt_fn s (by have := hup i; omega)) (by decide) rfl rfl rfl fun v2_1 oz2_1 ho2_1 => ?_
    refine (Qa)<|Qn<|Qs<|Qs<|Qp<|(Qm)<|(QC hv)<|(Qm)<|Qn<|Qb ?_
    refine QzK [(0, _), (2, _), (3, _), (9, _), (10, _), (11, _), (25, _), (26, _)] [] (fun kk E m => ∃ (j : Nat) (w : Value) (oz : Option Blk), kk = vs.length - j ∧ E = [(6, w), (27, ii j)] ∧ m = [(0, oz)] ∧ (j ≤ vs.length) ∧ (OwnS 53 4 w (uptoL ls j).length (uptoC cx j) (Option.toList oz))) ⟨0, v2_1, oz2_1, rfl, rfl, rfl, by omega, ho2_1⟩ ⟨rfl, rfl, rfl, rfl, rfl, rfl, rfl, rfl, rfl, rfl, trivial⟩ ⟨rfl, trivial⟩ ?_
    rintro kk E m ⟨j, w, oz, rfl, rfl, rfl, hf1_0, hf1_1⟩
    simp only [catE, catL]
    have hs3 := hup (j + 1)
    have hs4 : j < ls.length → (uptoL ls (j + 1)).length = (uptoL ls j).length + (ls.getD j []).length := fun h => by rw [uptoL_next h, List.length_append]
    refine Qs<|Qp<|(Ql)<|Qn<|Qs ?_
    refine e_cond rfl ?_ ?_
    · intro hc2
      have hc2 : j < vs.length := by have := of_decide_eq_true hc2; omega
      refine Qk<|Qs<|Qb<|Qs<|Qp ?_
      refine e_atV hv (Uu 66) (Uz 45) rfl rfl (by omega) rfl ?_
      refine (QS) ?_
      refine e_loadV hv seenG (Uu 45) rfl rfl (get_getD (by omega)) rfl ?_
      refine (Qa)<|Qn<|Qp<|(Qm)<|(Qm) ?_
      refine e_append 0 hf1_1 (hL j (by omega)).2.1 rfl seenG (Uu 45) (Uz 53) (Uy 53) (Ub 53) (by rfl) rfl rfl (hL j (by omega)).to.ones (by have := hs4 (by omega); simp only [maxLen]; omega) (by have := hs4 (by omega); omega) rfl fun v3_2 oz3_2 ho3_2 => ?_
      refine (Qa)<|Qn ?_
      have hown9 := ho3_2
      refine Qp<|(Q2 1)<|(Qm)<|Qn ?_
      refine QzL ⟨j + 1, _, _, rfl, rfl, rfl, by omega, (own_fix hown9 (by rw [uptoL_next (by omega), List.length_append]) (by rw [uptoC_next]))⟩ ⟨rfl, rfl, rfl, rfl, rfl, rfl, rfl, rfl, rfl, rfl, trivial⟩ ⟨rfl, trivial⟩ ?_
      omega
    · intro hc2
      have hc2 := of_decide_eq_false hc2
      have hz1 : j = vs.length := by omega
      refine Qe<|Qs<|Qp<|(Qm)<|(Qa)<|Qn<|Qr ?_
      exact ⟨_, _, _, 0, rfl, .tmp rfl, (own_fix hf1_1 (by rw [hz1, hvl, uptoL_all]) (by rw [hz1, hvl])), rfl⟩
end Go.Proofs.YtfldnikepdbgkaaDoor
namespace Go.Proofs.YtfldnikepdbgkaaDoor
open Go Go.RowKit
variable {G : Mem}
set_option maxHeartbeats 400000 in
theorem eqfun_rec (l q : List TT) (c c2 : Value) (xs xs2 : List Value) (hT : TL G l c xs) (hU : TL G q c2 xs2) (hrec : ∀ (t u : TT) (c c2 : Value) (ys ys2 : List Value), t ∈ l → TL G t.args c ys → TL G u.args c2 ys2 → Fn Tryd.prog G 44 #[.agg (tC t c), .agg (tC u c2)] (.bool (t.eqb u))) : Fn Tryd.prog G 60 #[c, c2, .func (.func 44) #[] #[]] (.bool (eqbL l q)) := by
  have hml := hT.1
  simp only [maxLen] at hml
  have hmm := hU.1
  simp only [maxLen] at hmm
  refine Qf1 Tryd.func60 ?_
  refine Qs<|Qp<|(Qa)<|Qn<|Qs<|Qs<|Qp<|(Qm)<|(QC hT.2.1)<|(Qm)<|(QC hU.2.1)<|(QN)<|Qn ?_
  refine e_cond rfl ?_ ?_
  · intro hc0
    rw [eqbL_len (by have := of_decide_eq_true hc0; omega)]
    refine Qs<|Qp<|(Qa)<|Qn<|Qr ?_
    first | rw [eqbL_all hlen (fun j h h2 => hf0_1 j h h2 (by omega))] | skip
    exact ⟨_, rfl, .tmp rfl⟩
  · intro hc0
    have hlen : l.length = q.length := by have := of_decide_eq_false hc0; omega
    refine Qk<|Qs<|Qs<|Qp<|(Qm)<|(QC hT.2.1)<|(Qm)<|Qn<|Qb ?_
    refine QzK [(1, _), (2, _), (15, _), (16, _)] [] (fun kk E m => ∃ (i : Nat), kk = l.length - i ∧ E = [(17, ii i)] ∧ m = [] ∧ (i ≤ l.length) ∧ (∀ j (h : j < l.length) (h2 : j < q.length), j < i → l[j].eqb q[j] = true)) ⟨0, rfl, rfl, rfl, by omega, fun _ _ _ h => absurd h (Nat.not_lt_zero _)⟩ ⟨rfl, rfl, rfl, rfl, rfl, trivial⟩ trivial ?_
    rintro kk E m ⟨i, rfl, rfl, rfl, hf0_0, hf0_1⟩
    simp only [catE, catL]
    refine Qs<|Qp<|(Ql)<|Qn<|Qs ?_
    refine e_cond rfl ?_ ?_
    · intro hc1
      have hc1 : i < l.length := by have := of_decide_eq_true hc1; omega
      obtain ⟨c1, ys1, hcs1, hl1⟩ := hT.at (show i < l.length by omega)
      have hin1 := List.getElem_mem (show i < l.length by omega)
      obtain ⟨c2, ys2, hcs2, hl2⟩ := hU.at (show i < q.length by omega)
      have hin2 := List.getElem_mem (show i < q.length by omega)
      refine Qk<|Qs<|Qb<|Qs<|Qp<|(Qm) ?_
      refine e_atV hT.2.1 (Uu 45) (Uz 53) rfl rfl (by omega) rfl ?_
      refine e_loadVS hT.2.1 seenG (Uu 53) rfl (Uz 53) rfl (by decide) (by have := hT.2.1.len; omega) hcs1 rfl ?_
      refine e_as (show _ = Value.agg (tC l[i] c1) from rfl) ?_
      refine (QH 0) fun r1=>(Qa) ?_
      refine e_storeA (i := 0) (Uz 53) rfl rfl (arrv_size _ _) (cells_one ⟨fun _ => rfl, fun _ => rfl, fun _ => rfl, fun _ => shows_oneC hl1.2.1, trivial⟩) rfl cells_sz (.inl rfl) ?_
      refine Qn<|Qs<|Qp<|(Qm)<|(Qm) ?_
      refine e_atV hU.2.1 (Uu 45) (Uz 53) rfl rfl (by omega) rfl ?_
      refine e_loadVS hU.2.1 seenG (Uu 53) rfl (Uz 53) rfl (by decide) (by have := hU.2.1.len; omega) hcs2 rfl ?_
      refine e_as (show _ = Value.agg (tC q[i] c2) from rfl) ?_
      refine (QH 1) fun r2=>?_
      refine e_storeA (i := 1) (Uz 53) rfl rfl (arrv_size _ _) (cells_one ⟨fun _ => rfl, fun _ => rfl, fun _ => rfl, fun _ => shows_oneC hl2.2.1, trivial⟩) rfl cells_sz (.inl rfl) ?_
      refine Qn<|Qs<|Qp<|(Qm)<|(QD 0)<|(QD 1) ?_
      refine e_callS rfl rfl (Un 44) seenG (hrec l[i] q[i] c1 c2 ys1 ys2 hin1 hl1 hl2) rfl rfl ?_
      refine (Q0)<|Qn ?_
      refine e_cond rfl ?_ ?_
      · intro hc2
        rw [eqbL_at (j := i) (by assumption) (by omega) (by simpa using hc2)]
        refine Qs<|Qp<|(Qa)<|Qn<|Qr ?_
        first | rw [eqbL_all hlen (fun j h h2 => hf0_1 j h h2 (by omega))] | skip
        exact ⟨_, rfl, .tmp rfl⟩
      · intro hc2
        have hz9 : l[i].eqb q[i] = true := by simpa using hc2
        refine Qk<|Qp<|(Q2 1)<|(Qm)<|Qn ?_
        refine QzL ⟨i + 1, rfl, rfl, rfl, by omega, fun j h h2 hj => by by_cases e : j = i; (subst e; exact hz9); exact hf0_1 j h h2 (by omega)⟩ ⟨rfl, rfl, rfl, rfl, rfl, trivial⟩ trivial ?_
        omega
    · intro hc1
      have hc1 := of_decide_eq_false hc1
      have hz0 : i = l.length := by omega
      refine Qe<|Qs<|Qp<|(Qa)<|Qn<|Qr ?_
      first | rw [eqbL_all hlen (fun j h h2 => hf0_1 j h h2 (by omega))] | skip
      exact ⟨_, rfl, .tmp rfl⟩
set_option maxHeartbeats 400000 in
theorem same_rec (t u : TT) (c c2 : Value) (xs xs2 : List Value) (hT : TL G t.args c xs) (hU : TL G u.args c2 xs2) (hrec : Fn Tryd.prog G 60 #[c, c2, .func (.func 44) #[] #[]] (.bool (eqbL t.args u.args))) : Fn Tryd.prog G 44 #[.agg (tC t c), .agg (tC u c2)] (.bool (t.eqb u)) := by
  have hco := shows_oneC hT.2.1
  have hco2 := shows_oneC hU.2.1
  rw [eqb_parts]
  refine Qf1 Tryd.func44 ?_
  refine Qs<|Qp<|(Qh 0) fun r1=>(Qh 1) fun r2=>(Qa)<|Qn<|Qs<|Qp ?_
  refine e_join [(0, _), (1, _), (2, _), (3, _)] [(4, .bool (decide (t.kind = u.kind) && decide (t.id = u.id) && decide (t.other = u.other) && eqbL t.args u.args))] [(0, some _), (1, some _)] ⟨rfl, rfl, rfl, rfl, trivial⟩ ⟨rfl, rfl, trivial⟩ ?_ ?_
  · skip
    refine (Qf 0)<|(QV 0 0)<|(Qf 0)<|(QV 0 1)<|(Qc)<|(Qm) ?_
    refine e_case (fun hb0 => ?_) (fun hb0 => ?_)
    · skip
      refine (Qy)<|(Qf 1)<|(Qy)<|(QV 1 0)<|(Qy)<|(Qf 1)<|(Qy)<|(QV 1 1)<|(Qy)<|(Qc)<|(QT)<|(Qm) ?_
      refine e_case (fun hb1 => ?_) (fun hb1 => ?_)
      · skip
        refine (Qy)<|(Qf 2)<|(Qy)<|(QV 2 0)<|(Qy)<|(Qf 2)<|(Qy)<|(QV 2 1)<|(Qy)<|(Qc)<|(QT)<|(Qm) ?_
        refine e_case (fun hb2 => ?_) (fun hb2 => ?_)
        · skip
          refine (Qy)<|(Qf 3)<|(Qy)<|(QV 3 0)<|(Qy)<|(Qf 3)<|(Qy)<|(QV 3 1)<|(Qy) ?_
          refine e_call rfl (Un 60) hrec rfl rfl ?_
          refine (QT)<|(Qa)<|Qn ?_
          exact ⟨⟨rfl, rfl, rfl, rfl, trivial⟩, ⟨bool_fin (by rw [hb0, hb1, hb2] <;> rfl), trivial⟩, ⟨rfl, rfl, trivial⟩⟩
        · skip
          refine (Qo)<|(Qo)<|(Qo)<|(Qo)<|(Qo)<|(QF)<|(Qa)<|Qn ?_
          exact ⟨⟨rfl, rfl, rfl, rfl, trivial⟩, ⟨bool_fin (by rw [hb0, hb1, hb2] <;> rfl), trivial⟩, ⟨rfl, rfl, trivial⟩⟩
      · skip
        refine (Qo)<|(Qo)<|(Qo)<|(Qo)<|(Qo)<|(QF)<|(Qm)<|(Qo)<|(Qo)<|(Qo)<|(Qo)<|(Qo)<|(QF)<|(Qa)<|Qn ?_
        exact ⟨⟨rfl, rfl, rfl, rfl, trivial⟩, ⟨bool_fin (by rw [hb0, hb1] <;> rfl), trivial⟩, ⟨rfl, rfl, trivial⟩⟩
    · skip
      refine (Qo)<|(Qo)<|(Qo)<|(Qo)<|(Qo)<|(QF)<|(Qm)<|(Qo)<|(Qo)<|(Qo)<|(Qo)<|(Qo)<|(QF)<|(Qm)<|(Qo)<|(Qo)<|(Qo)<|(Qo)<|(Qo)<|(QF)<|(Qa)<|Qn ?_
      exact ⟨⟨rfl, rfl, rfl, rfl, trivial⟩, ⟨bool_fin (by rw [hb0] <;> rfl), trivial⟩, ⟨rfl, rfl, trivial⟩⟩
  · simp only [catE]
    refine Qr ?_
    exact ⟨_, rfl, .tmp rfl⟩
end Go.Proofs.YtfldnikepdbgkaaDoor
namespace Go.Proofs.YtfldnikepdbgkaaDoor
open Go Go.RowKit
theorem same_fn {G : Mem} (t : TT) : ∀ (u : TT) (c c2 : Value) (ys ys2 : List Value), TL G t.args c ys → TL G u.args c2 ys2 → Fn Tryd.prog G 44 #[.agg (tC t c), .agg (tC u c2)] (.bool (t.eqb u)) := by
  refine TT.ind (p := fun t => ∀ (u : TT) (c c2 : Value) (ys ys2 : List Value), TL G t.args c ys → TL G u.args c2 ys2 → Fn Tryd.prog G 44 #[.agg (tC t c), .agg (tC u c2)] (.bool (t.eqb u))) (fun t ih u c c2 ys ys2 hT hU => ?_) t
  exact same_rec t u c c2 ys ys2 hT hU (eqfun_rec t.args u.args c c2 ys ys2 hT hU fun a b c c2 ys ys2 ha hA hB => ih a ha b c c2 ys ys2 hA hB)
variable {G : Mem}
end Go.Proofs.YtfldnikepdbgkaaDoor
namespace Go.Proofs.YtfldnikepdbgkaaDoor
open Go Go.RowKit
variable {G : Mem}
set_option maxHeartbeats 400000 in
theorem samek_fn (r : Nat) (x : TT) (c : Value) (xs : List Value) (hX : TL ((⟨r, tC x c, 53⟩ : Blk) :: G) x.args c xs) (y : TT) (c2 : Value) (ys : List Value) (hY : TL ((⟨r, tC x c, 53⟩ : Blk) :: G) y.args c2 ys) : Fn Tryd.prog ((⟨r, tC x c, 53⟩ : Blk) :: G) 43 #[.agg (tC y c2), ptr r] (.bool (x.eqb y)) := by
  have hco := shows_oneC hY.2.1
  refine Qf1 Tryd.func43 ?_
  refine Qs<|Qp<|(Qh 0) fun r1=>(Qa)<|Qn<|Qs<|Qp ?_
  refine e_loadAg (i := 0) (Uu 53) rfl (Uz 53) rfl rfl (arrv_size _ _) rfl ?_
  refine (QD 0) ?_
  refine e_call rfl (Un 44) (same_fn x y c c2 xs ys hX hY) rfl rfl ?_
  refine (Qa)<|Qn<|Qr ?_
  exact ⟨_, rfl, .tmp rfl⟩
set_option maxHeartbeats 400000 in
theorem indexk_fn (r : Nat) (x : TT) (c : Value) (xs : List Value) (hX : TL ((⟨r, tC x c, 53⟩ : Blk) :: G) x.args c xs) (L : List TT) (w : Value) (ws : List Value) (hL : TL ((⟨r, tC x c, 53⟩ : Blk) :: G) L w ws) : Fn Tryd.prog ((⟨r, tC x c, 53⟩ : Blk) :: G) 59 #[w, (Value.func (.func 43) #[] #[ptr r])] (iv (idxT x L)) := by
  have hml := hL.1
  simp only [maxLen] at hml
  refine Qf1 Tryd.func59 ?_
  refine Qs<|Qp<|(Qa)<|Qn<|Qs<|Qs<|Qp<|(Qm)<|(QC hL.2.1)<|(Qm)<|Qn<|Qb ?_
  refine QzK [(0, _), (1, _), (7, _)] [] (fun kk E m => ∃ (i : Nat), kk = L.length - i ∧ E = [(8, ii i)] ∧ m = [] ∧ (i ≤ L.length) ∧ (∀ j (h : j < L.length), j < i → x.eqb L[j] = false)) ⟨0, rfl, rfl, rfl, by omega, fun _ _ h => absurd h (Nat.not_lt_zero _)⟩ ⟨rfl, rfl, rfl, rfl, trivial⟩ trivial ?_
  rintro kk E m ⟨i, rfl, rfl, rfl, hf0_0, hf0_1⟩
  simp only [catE, catL]
  refine Qs<|Qp<|(Ql)<|Qn<|Qs ?_
  refine e_cond rfl ?_ ?_
  · intro hc0
    have hc0 : i < L.length := by have := of_decide_eq_true hc0; omega
    obtain ⟨c1, ys1, hcs1, hl1⟩ := hL.at (show i < L.length by omega)
    have hin1 := List.getElem_mem (show i < L.length by omega)
    refine Qk<|Qs<|Qb<|Qs<|Qp<|(Qm)<|(Qa)<|Qn<|Qs<|Qp<|(Qm)<|(Qm)<|(Qm) ?_
    refine e_atV hL.2.1 (Uu 45) (Uz 53) rfl rfl (by omega) rfl ?_
    refine e_loadVS hL.2.1 seenG (Uu 53) rfl (Uz 53) rfl (by decide) (by have := hL.2.1.len; omega) hcs1 rfl ?_
    refine e_as (show _ = Value.agg (tC L[i] c1) from rfl) ?_
    refine e_callS rfl rfl (Un 43) seenG (samek_fn (G := G) r x c xs hX L[i] c1 ys1 hl1) rfl rfl ?_
    refine Qn ?_
    refine e_cond rfl ?_ ?_
    · intro hc1
      rw [idxT_at (i := i) (by assumption) hf0_1 hc1]
      refine Qs<|Qp<|(Qm)<|(Qa)<|Qn<|Qr ?_
      first | rw [idxT_none (fun j h => hf0_1 j h (by omega))] | skip
      exact ⟨_, rfl, .tmp rfl⟩
    · intro hc1
      have hz9 := hc1
      refine Qk<|Qp<|(Q2 1)<|(Qm)<|Qn ?_
      refine QzL ⟨i + 1, rfl, rfl, rfl, by omega, fun j h hj => by by_cases e : j = i; (subst e; exact hz9); exact hf0_1 j h (by omega)⟩ ⟨rfl, rfl, rfl, rfl, trivial⟩ trivial ?_
      omega
  · intro hc0
    have hc0 := of_decide_eq_false hc0
    have hz0 : i = L.length := by omega
    refine Qe<|Qs<|Qp<|(Qa)<|Qn<|Qr ?_
    first | rw [idxT_none (fun j h => hf0_1 j h (by omega))] | skip
    exact ⟨_, rfl, .tmp rfl⟩
set_option maxHeartbeats 400000 in
theorem containsk_fn (r : Nat) (x : TT) (c : Value) (xs : List Value) (hX : TL ((⟨r, tC x c, 53⟩ : Blk) :: G) x.args c xs) (L : List TT) (w : Value) (ws : List Value) (hL : TL ((⟨r, tC x c, 53⟩ : Blk) :: G) L w ws) : Fn Tryd.prog ((⟨r, tC x c, 53⟩ : Blk) :: G) 42 #[w, (Value.func (.func 43) #[] #[ptr r])] (.bool (hsL L x)) := by
  refine Qf1 Tryd.func42 ?_
  refine Qs<|Qp<|(Qa)<|Qn<|Qs<|Qp<|(Qm)<|(Qm) ?_
  refine e_callS rfl rfl (Un 59) seenG (indexk_fn (G := G) r x c xs hX L w ws hL) rfl rfl ?_
  refine (QE) ?_
  refine e_as (congrArg Value.bool (idxT_has x L)) ?_
  refine (Qa)<|Qn<|Qr ?_
  exact ⟨_, rfl, .tmp rfl⟩
set_option maxHeartbeats 400000 in
theorem hask_fn (r : Nat) (L : List TT) (w : Value) (ws : List Value) (hL : TL ((⟨r, #[w], 45⟩ : Blk) :: G) L w ws) (x : TT) (c : Value) (xs : List Value) (hX : TL ((⟨r, #[w], 45⟩ : Blk) :: G) x.args c xs) : Fn Tryd.prog ((⟨r, #[w], 45⟩ : Blk) :: G) 41 #[.agg (tC x c), ptr r] (.bool (hsL L x)) := by
  have hco := shows_oneC hX.2.1
  refine Qf1 Tryd.func41 ?_
  refine Qs<|Qp<|(Qh 0) fun r1=>(Qa)<|Qn<|Qs<|Qp ?_
  refine e_load1g (i := 0) (Uu 45) rfl rfl rfl (show _ = some _ from rfl) rfl ?_
  refine (QY) ?_
  refine e_callS rfl rfl (Un 42) (seen_cons 0 rfl) (containsk_fn (G := (⟨r, #[w], 45⟩ : Blk) :: G) r1 x c xs (hX.mono (fun _ h => List.mem_cons_of_mem _ h)) L w ws (hL.mono (fun _ h => List.mem_cons_of_mem _ h))) rfl rfl ?_
  refine (Qa)<|Qn<|Qr ?_
  exact ⟨_, rfl, .tmp rfl⟩
end Go.Proofs.YtfldnikepdbgkaaDoor
namespace Go.Proofs.YtfldnikepdbgkaaDoor
open Go Go.RowKit
variable {G : Mem}
set_option maxHeartbeats 2000000 in
theorem make_rec (r : Nat) (hs : TT → Bool) (hHas : ∀ (x : TT) (c : Value) (ys : List Value), TL G x.args c ys → Fn Tryd.prog G 41 #[.agg (tC x c), ptr r] (.bool (hs x))) (t : TT) (c : Value) (xs : List Value) (hT : TL G t.args c xs) (hAgr : t.kind = 3 → ∀ a b : Int, Fn Tryd.prog G 61 #[iv a, iv b, (Value.func (.func 41) #[] #[ptr r])] (.bool (agB hs a b))) (hrec : ∀ (a : TT) (c : Value) (ys : List Value), a ∈ t.args → TL G a.args c ys → Fn Tryd.prog G 46 #[.agg (tC a c), (Value.func (.func 41) #[] #[ptr r])] (.bool (TT.canB hs a))) : Fn Tryd.prog G 46 #[.agg (tC t c), (Value.func (.func 41) #[] #[ptr r])] (.bool (TT.canB hs t)) := by
  have hco := shows_oneC hT.2.1
  have hml := hT.1
  simp only [maxLen] at hml
  rw [canB_eq]
  obtain ⟨l, hl⟩ : ∃ l, l = t.args := ⟨_, rfl⟩
  have hT0 := hT
  rw [← hl] at hT hml hrec
  rw [← hl]
  refine Qf1 Tryd.func46 ?_
  refine Qs<|Qp<|(Qh 0) fun r1=>(Qa)<|Qn<|Qs<|Qs<|Qp<|(Qm)<|(QD 0) ?_
  refine e_callS rfl rfl (Un 41) seenG (hHas t c _ hT0) rfl rfl ?_
  refine Qn ?_
  refine e_cond rfl ?_ ?_
  · intro hc0
    rw [hc0, Bool.true_or]
    refine Qs<|Qp<|(Qa)<|Qn<|Qr ?_
    first | rw [all_yes (fun j h => hf0_1 j h (by omega))] | skip
    exact ⟨_, rfl, .tmp rfl⟩
  · intro hc0
    rw [hc0, Bool.false_or]
    refine Qk<|Qs<|Qs<|Qp<|(Qf 0)<|(QV 0 0)<|Qn<|Qb<|Qs<|Qp<|(Qc)<|(Qa)<|Qn ?_
    refine e_cond rfl ?_ ?_
    · intro hc1
      rw [if_pos (of_decide_eq_true hc1)]
      refine Qs<|Qp<|(Qa)<|Qn<|Qr ?_
      first | rw [all_yes (fun j h => hf0_1 j h (by omega))] | skip
      exact ⟨_, rfl, .tmp rfl⟩
    · intro hc1
      rw [if_neg (of_decide_eq_false hc1)]
      refine Qs<|Qp<|(Qc)<|(Qa)<|Qn ?_
      refine e_cond rfl ?_ ?_
      · intro hc2
        rw [if_pos (of_decide_eq_true hc2)]
        refine Qs<|Qp<|(Qm)<|(Qf 1)<|(QV 1 0) ?_
        refine e_buildS (tC (atomT t.id) nilS) (Ub 53 rfl) (Uu 53 rfl) pls53 rfl (by kernel_rfl) rfl ?_
        refine e_callS rfl rfl (Un 41) seenG (hHas (atomT t.id) nilS _ tl_nil) rfl rfl ?_
        refine (Qa)<|Qn<|Qr ?_
        first | rw [all_yes (fun j h => hf0_1 j h (by omega))] | skip
        exact ⟨_, rfl, .tmp rfl⟩
      · intro hc2
        rw [if_neg (of_decide_eq_false hc2)]
        refine Qs<|Qp<|(Qc)<|(Qa)<|Qn ?_
        refine e_cond rfl ?_ ?_
        · intro hc3
          have h58 := of_decide_eq_true hc3
          rw [if_pos h58]
          refine Qs<|Qp ?_
          refine e_join [(0, _), (1, _), (2, _), (7, _), (8, _), (9, _), (10, _), (11, _), (12, _), (13, _), (14, _), (15, _), (21, _), (22, _)] [(4, .bool (agB hs t.id t.other || agB hs t.other t.id))] [(0, some _)] ⟨rfl, rfl, rfl, rfl, rfl, rfl, rfl, rfl, rfl, rfl, rfl, rfl, rfl, rfl, trivial⟩ ⟨rfl, trivial⟩ ?_ ?_
          · skip
            refine (Qf 1)<|(QV 1 0)<|(Qf 2)<|(QV 2 0)<|(Qm) ?_
            refine e_call rfl (Un 61) (hAgr h58 t.id t.other) rfl rfl ?_
            refine (Qm) ?_
            refine e_case (fun hb0 => ?_) (fun hb0 => ?_)
            · skip
              refine (Qo)<|(Qo)<|(Qo)<|(Qo)<|(Qo)<|(Qo)<|(QT)<|(Qa)<|Qn ?_
              exact ⟨⟨rfl, rfl, rfl, rfl, rfl, rfl, rfl, rfl, rfl, rfl, rfl, rfl, rfl, rfl, trivial⟩, ⟨bool_fin (by rw [hb0] <;> rfl), trivial⟩, ⟨rfl, trivial⟩⟩
            · skip
              refine (Qy)<|(Qf 2)<|(Qy)<|(QV 2 0)<|(Qy)<|(Qf 1)<|(Qy)<|(QV 1 0)<|(Qy)<|(Qm)<|(Qy) ?_
              refine e_call rfl (Un 61) (hAgr h58 t.other t.id) rfl rfl ?_
              refine (QF)<|(Qa)<|Qn ?_
              exact ⟨⟨rfl, rfl, rfl, rfl, rfl, rfl, rfl, rfl, rfl, rfl, rfl, rfl, rfl, rfl, trivial⟩, ⟨bool_fin (by rw [hb0] <;> rfl), trivial⟩, ⟨rfl, trivial⟩⟩
          · simp only [catE]
            refine Qr ?_
            first | rw [all_yes (fun j h => hf0_1 j h (by omega))] | skip
            exact ⟨_, rfl, .tmp rfl⟩
        · intro hc3
          rw [if_neg (of_decide_eq_false hc3)]
          refine Qk<|Qs<|Qs<|Qp<|(Qf 3)<|(QV 3 0)<|(QC hT.2.1)<|(Qm)<|Qn<|Qb ?_
          refine QzK [(1, _), (38, _), (39, _)] [(0, _)] (fun kk E m => ∃ (i : Nat), kk = l.length - i ∧ E = [(40, ii i)] ∧ m = [] ∧ (i ≤ l.length) ∧ (∀ j (h : j < l.length), j < i → (l[j]).canB hs = true)) ⟨0, rfl, rfl, rfl, by omega, fun _ _ h => absurd h (Nat.not_lt_zero _)⟩ ⟨rfl, rfl, rfl, rfl, trivial⟩ ⟨rfl, trivial⟩ ?_
          rintro kk E m ⟨i, rfl, rfl, rfl, hf0_0, hf0_1⟩
          simp only [catE, catL]
          refine Qs<|Qp<|(Ql)<|Qn<|Qs ?_
          refine e_cond rfl ?_ ?_
          · intro hc4
            have hc4 : i < l.length := by have := of_decide_eq_true hc4; omega
            obtain ⟨c1, ys1, hcs1, hl1⟩ := hT.at (show i < l.length by omega)
            have hin1 := List.getElem_mem (show i < l.length by omega)
            refine Qk<|Qs<|Qb<|Qs<|Qp ?_
            refine e_atV hT.2.1 (Uu 45) (Uz 53) rfl rfl (by omega) rfl ?_
            refine e_loadVS hT.2.1 seenG (Uu 53) rfl (Uz 53) rfl (by decide) (by have := hT.2.1.len; omega) hcs1 rfl ?_
            refine e_as (show _ = Value.agg (tC l[i] c1) from rfl) ?_
            refine (QH 1) fun r2=>?_
            refine e_storeA (i := 1) (Uz 53) rfl rfl (arrv_size _ _) (cells_one ⟨fun _ => rfl, fun _ => rfl, fun _ => rfl, fun _ => shows_oneC hl1.2.1, trivial⟩) rfl cells_sz (.inl rfl) ?_
            refine Qn<|Qs<|Qp<|(QD 1)<|(Qm) ?_
            refine e_call rfl (Un 46) (hrec l[i] c1 ys1 hin1 hl1) rfl rfl ?_
            refine (Q0)<|Qn ?_
            refine e_cond rfl ?_ ?_
            · intro hc5
              rw [all_no (i := i) (by assumption) (by simpa using hc5)]
              refine Qs<|Qp<|(Qa)<|Qn<|Qr ?_
              first | rw [all_yes (fun j h => hf0_1 j h (by omega))] | skip
              exact ⟨_, rfl, .tmp rfl⟩
            · intro hc5
              have hz9 : (l[i]).canB hs = true := by simpa using hc5
              refine Qk<|Qp<|(Q2 1)<|(Qm)<|Qn ?_
              refine QzL ⟨i + 1, rfl, rfl, rfl, by omega, fun j h hj => by by_cases e : j = i; (subst e; exact hz9); exact hf0_1 j h (by omega)⟩ ⟨rfl, rfl, rfl, rfl, trivial⟩ ⟨rfl, trivial⟩ ?_
              omega
          · intro hc4
            have hc4 := of_decide_eq_false hc4
            have hz0 : i = l.length := by omega
            refine Qe<|Qs<|Qp<|(Qa)<|Qn<|Qr ?_
            first | rw [all_yes (fun j h => hf0_1 j h (by omega))] | skip
            exact ⟨_, rfl, .tmp rfl⟩
set_option maxHeartbeats 400000 in
theorem agree_rec (r : Nat) (hs : TT → Bool) (hHas : ∀ (x : TT) (c : Value) (ys : List Value), TL G x.args c ys → Fn Tryd.prog G 41 #[.agg (tC x c), ptr r] (.bool (hs x))) (a b : Int) (hMk : Fn Tryd.prog G 46 #[.agg (tC (pubT b) nilS), (Value.func (.func 41) #[] #[ptr r])] (.bool (TT.canB hs (pubT b)))) : Fn Tryd.prog G 61 #[iv a, iv b, (Value.func (.func 41) #[] #[ptr r])] (.bool (agB hs a b)) := by
  refine Qf1 Tryd.func61 ?_
  refine Qs<|Qp<|(Qa)<|Qn<|Qs<|Qp ?_
  refine e_join [(0, _), (1, _), (2, _)] [(6, .bool (agB hs a b))] [] ⟨rfl, rfl, rfl, trivial⟩ trivial ?_ ?_
  · skip
    refine (Qm)<|(Qm) ?_
    refine e_buildS (tC (atomT a) nilS) (Ub 53 rfl) (Uu 53 rfl) pls53 rfl (by kernel_rfl) rfl ?_
    refine e_callS rfl rfl (Un 41) seenG (hHas (atomT a) nilS _ tl_nil) rfl rfl ?_
    refine (Qm) ?_
    refine e_case (fun hb0 => ?_) (fun hb0 => ?_)
    · skip
      refine (Qy)<|(Qm)<|(Qy) ?_
      refine e_buildS (tC (pubT b) nilS) (Ub 53 rfl) (Uu 53 rfl) pls53 rfl (by kernel_rfl) rfl ?_
      refine (Qy)<|(Qm)<|(Qy) ?_
      refine e_call rfl (Un 46) hMk rfl rfl ?_
      refine e_as (congrArg Value.bool (canB_pub hs b)) ?_
      refine (QT)<|(Qa)<|Qn ?_
      exact ⟨⟨rfl, rfl, rfl, trivial⟩, ⟨bool_fin (by rw [agB, hb0] <;> rfl), trivial⟩, trivial⟩
    · skip
      refine (Qo)<|(Qo)<|(Qo)<|(Qo)<|(QF)<|(Qa)<|Qn ?_
      exact ⟨⟨rfl, rfl, rfl, trivial⟩, ⟨bool_fin (by rw [agB, hb0] <;> rfl), trivial⟩, trivial⟩
  · simp only [catE]
    refine Qr ?_
    exact ⟨_, rfl, .tmp rfl⟩
end Go.Proofs.YtfldnikepdbgkaaDoor
namespace Go.Proofs.YtfldnikepdbgkaaDoor
open Go Go.RowKit
theorem agree_fn {G : Mem} (r : Nat) (hs : TT → Bool) (hHas : ∀ (x : TT) (c : Value) (ys : List Value), TL G x.args c ys → Fn Tryd.prog G 41 #[.agg (tC x c), ptr r] (.bool (hs x))) (a b : Int) : Fn Tryd.prog G 61 #[iv a, iv b, (Value.func (.func 41) #[] #[ptr r])] (.bool (agB hs a b)) :=
  agree_rec r hs hHas a b (make_rec r hs hHas (pubT b) nilS [] tl_nil (fun h => absurd h (show ¬ (2 : Int) = 3 by decide)) fun a _ _ h => by cases h)
theorem make_fn {G : Mem} (r : Nat) (hs : TT → Bool) (hHas : ∀ (x : TT) (c : Value) (ys : List Value), TL G x.args c ys → Fn Tryd.prog G 41 #[.agg (tC x c), ptr r] (.bool (hs x))) (t : TT) : ∀ (c : Value) (ys : List Value), TL G t.args c ys → Fn Tryd.prog G 46 #[.agg (tC t c), (Value.func (.func 41) #[] #[ptr r])] (.bool (TT.canB hs t)) := by
  refine TT.ind (p := fun t => ∀ (c : Value) (ys : List Value), TL G t.args c ys → Fn Tryd.prog G 46 #[.agg (tC t c), (Value.func (.func 41) #[] #[ptr r])] (.bool (TT.canB hs t))) (fun t ih c ys hT => ?_) t
  exact make_rec r hs hHas t c ys hT (fun _ a b => agree_fn r hs hHas a b) fun a c ys ha hA => ih a ha c ys hA
variable {G : Mem}
set_option maxHeartbeats 400000 in
theorem cank_fn (r r2 : Nat) (hs : TT → Bool) (hHas : ∀ (x : TT) (c : Value) (ys : List Value), TL ((⟨r2, #[(Value.func (.func 41) #[] #[ptr r])], 78⟩ : Blk) :: G) x.args c ys → Fn Tryd.prog ((⟨r2, #[(Value.func (.func 41) #[] #[ptr r])], 78⟩ : Blk) :: G) 41 #[.agg (tC x c), ptr r] (.bool (hs x))) (x : TT) (c : Value) (xs : List Value) (hX : TL ((⟨r2, #[(Value.func (.func 41) #[] #[ptr r])], 78⟩ : Blk) :: G) x.args c xs) : Fn Tryd.prog ((⟨r2, #[(Value.func (.func 41) #[] #[ptr r])], 78⟩ : Blk) :: G) 45 #[.agg (tC x c), ptr r2] (.bool (x.canB hs)) := by
  have hco := shows_oneC hX.2.1
  refine Qf1 Tryd.func45 ?_
  refine Qs<|Qp<|(Qh 0) fun r1=>(Qa)<|Qn<|Qs<|Qp<|(QD 0) ?_
  refine e_load1g (i := 0) (Uu 78) rfl rfl rfl (show _ = some _ from rfl) rfl ?_
  refine e_callS rfl rfl (Un 46) seenG (make_fn (G := ((⟨r2, #[(Value.func (.func 41) #[] #[ptr r])], 78⟩ : Blk) :: G)) r hs hHas x c xs hX) rfl rfl ?_
  refine (Qa)<|Qn<|Qr ?_
  exact ⟨_, rfl, .tmp rfl⟩
end Go.Proofs.YtfldnikepdbgkaaDoor
namespace Go.Proofs.YtfldnikepdbgkaaDoor
open Go Go.RowKit
variable {G : Mem}
set_option maxHeartbeats 400000 in
theorem opens_fn (r2 : Nat) (hs : TT → Bool) (hCan : ∀ (x : TT) (c : Value) (ys : List Value), TL G x.args c ys → Fn Tryd.prog G 45 #[.agg (tC x c), ptr r2] (.bool (x.canB hs))) (t : TT) (c : Value) (xs : List Value) (hT : TL G t.args c xs) (h7 : t.kind = 7 → t.args.length = 3) : Fn Tryd.prog G 48 #[.agg (tC t c), (Value.func (.func 45) #[] #[ptr r2])] (.bool (opB hs t)) := by
  have hco := shows_oneC hT.2.1
  have hml := hT.1
  simp only [maxLen] at hml
  refine Qf1 Tryd.func48 ?_
  refine Qs<|Qp<|(Qh 0) fun r1=>(Qa)<|Qn<|Qs ?_
  rcases first_ways hT h7 with ⟨k7, k3, c1, ys1, hcs1, hl1⟩ | k7
  · skip
    refine Qp<|(Qf 0)<|(QV 0 0)<|(QN) ?_
    refine e_as (congrArg Value.bool (decide_eq_false (fun h => h k7))) ?_
    refine (Qm)<|(Qy)<|(Qm)<|(Qy)<|(Qf 3)<|(Qy)<|(QV 3 0)<|(Qy) ?_
    refine e_atV (j := 0) hT.2.1 (Uu 45) (Uz 53) rfl rfl (by omega) rfl ?_
    refine (Qy) ?_
    refine e_loadVS hT.2.1 seenG (Uu 53) rfl (Uz 53) rfl (by decide) (by have := hT.2.1.len; omega) hcs1 rfl ?_
    refine e_as (show _ = Value.agg (tC (keyT t) c1) from rfl) ?_
    refine (Qy) ?_
    refine e_callS rfl rfl (Un 45) seenG (hCan (keyT t) c1 ys1 hl1) rfl rfl ?_
    refine (QF)<|(Qa)<|Qn<|Qr ?_
    first | rw [show opB hs t = true by unfold opB; rw [decide_eq_true k7]; rfl] | rw [show opB hs t = (keyT t).canB hs by unfold opB; rw [decide_eq_false (fun h => h k7)]; rfl]
    exact ⟨_, rfl, .tmp rfl⟩
  · skip
    refine Qp<|(Qf 0)<|(QV 0 0)<|(QN) ?_
    refine e_as (congrArg Value.bool (decide_eq_true k7)) ?_
    refine (Qm)<|(Qo)<|(Qo)<|(Qo)<|(Qo)<|(Qo)<|(Qo)<|(QT)<|(Qa)<|Qn<|Qr ?_
    first | rw [show opB hs t = true by unfold opB; rw [decide_eq_true k7]; rfl] | rw [show opB hs t = (keyT t).canB hs by unfold opB; rw [decide_eq_false (fun h => h k7)]; rfl]
    exact ⟨_, rfl, .tmp rfl⟩
set_option maxHeartbeats 400000 in
theorem parts_fn (t : TT) (c : Value) (xs : List Value) (hT : TL G t.args c xs) (h7 : t.kind = 7 → t.args.length = 3) : Fn Tryd.prog G 47 #[.agg (tC t c)] (prV t c) := by
  have hco := shows_oneC hT.2.1
  have hml := hT.1
  simp only [maxLen] at hml
  refine Qf1 Tryd.func47 ?_
  refine Qs<|Qp<|(Qh 0) fun r1=>(Qa)<|Qn<|Qs<|Qs<|Qp<|(Qf 0)<|(QV 0 0)<|Qn<|Qb<|Qs<|Qp<|(Qc)<|(Qa)<|Qn ?_
  refine e_cond rfl ?_ ?_
  · intro hc0
    rw [show prV t c = c from if_pos (of_decide_eq_true hc0)]
    refine Qs<|Qp<|(Qf 3)<|(QV 3 0)<|(Qa)<|Qn<|Qr ?_
    exact ⟨_, rfl, .tmp rfl⟩
  · intro hc0
    have h35 := of_decide_eq_false hc0
    refine Qs<|Qp<|(Qc)<|(Qa)<|Qn ?_
    refine e_cond rfl ?_ ?_
    · intro hc1
      have h37 := of_decide_eq_true hc1
      rw [show prV t c = slPart 4 c 2 t.args.length from (if_neg h35).trans (if_pos h37)]
      refine Qs<|Qp<|(Qf 3)<|(QV 3 0) ?_
      refine e_sliceV 2 t.args.length hT.2.1 (Uu 45) (Uz 53) rfl rfl rfl ⟨_, rfl⟩ rfl (by have := h7 h37; omega) (by omega) rfl ?_
      refine (Qa)<|Qn<|Qr ?_
      exact ⟨_, rfl, .tmp rfl⟩
    · intro hc1
      rw [show prV t c = nilS from (if_neg h35).trans (if_neg (of_decide_eq_false hc1))]
      refine Qk<|Qs<|Qp<|(Qa)<|Qn<|Qr ?_
      exact ⟨_, rfl, .tmp rfl⟩
set_option maxHeartbeats 2000000 in
theorem clone_term (v : Value) (n : Nat) (xs : List Value) (hv : Shows G 4 v n xs) (h1 : ∀ u ∈ xs, u.oneCell' = true) (hm : n * 48 ≤ 140737488355328) : Fx Tryd.prog G [] 40 #[v] (fun u l1 nw => l1 = [] ∧ ∃ v', u = v' ∧ OwnS 53 4 v' n xs nw) := by
  refine QfN Tryd.func40 ?_
  refine Qs<|Qp<|(Qa)<|Qn<|Qs<|Qs<|Qp<|(Qm) ?_
  refine e_eqNil hv (Uu 45) rfl rfl rfl fun bq1_1 hbq1_1 => ?_
  refine Qn ?_
  refine e_cond rfl ?_ ?_
  · intro hc0
    obtain rfl : n = 0 := hbq1_1 hc0
    obtain rfl : xs = [] := List.length_eq_zero_iff.1 (by have := hv.len; simpa using this)
    refine Qs<|Qp<|(Qa)<|Qn<|Qr ?_
    exact ⟨_, _, _, 99, rfl, .tmp rfl, (own_fix (own_nil _ _) (by simp) (by simp)), rfl⟩
  · intro hc0
    refine Qk<|Qs<|Qp ?_
    refine e_buildSl0 0 (Uu 45 rfl) (Uz 53 rfl) rfl fun r1 => ?_
    refine (Qm) ?_
    refine e_append 0 own_none hv rfl seenG (Uu 45) (Uz 53) (Uy 53) (Ub 53) (by rfl) rfl rfl h1 (by simp only [maxLen]; omega) (by omega) rfl fun v2_2 oz2_2 ho2_2 => ?_
    refine (Qa)<|Qn<|Qr ?_
    exact ⟨_, _, _, 0, rfl, .tmp rfl, (own_fix ho2_2 (by simp) (by simp)), rfl⟩
end Go.Proofs.YtfldnikepdbgkaaDoor
namespace Go.Proofs.YtfldnikepdbgkaaDoor
open Go Go.RowKit
variable {G : Mem}
set_option maxHeartbeats 8000000 in
theorem knows_fn (l : List TT) (v : Value) (vs : List Value) (hL : TL G l v vs) (t : TT) (c : Value) (xs : List Value) (hT : TL G t.args c xs) (hn3 : nodesL l ≤ 300) (hg : ∀ x ∈ l, x.form = 0) (b : Bool) (hb : b = true ↔ KN l t) : Fn Tryd.prog G 30 #[v, .agg (tC t c)] (.bool b) := by
  have hco := shows_oneC hT.2.1
  have hll := len_nodes l
  refine Qf1 Tryd.func30 ?_
  refine Qs<|Qp<|(Qh 0) fun r1=>(Qa)<|Qn ?_
  refine e_scope (l := 0) rfl ?_
  refine Qs<|QR ⟨[], 4, [], none, none⟩<|(Qm) ?_
  refine e_callN 1 (fun v => v) rfl rfl (Un 40) seenG (clone_term v l.length vs hL.2.1 hL.to.ones (by omega)) (by simp only [maxLen]; omega) hL.to.1 rfl rfl fun v1_1 oz1_1 ho1_1 => ?_
  refine (QH 2) fun r3=>?_
  refine e_store1 (i := 2) (Uz 45) rfl rfl (shows_oneC (OwnS.shows ho1_1)) rfl rfl (hid_none rfl (.inl rfl)) ?_
  refine Qn<|Qs<|Qp<|(QY)<|(QH 3) fun r4=>?_
  refine e_store1 (i := 3) (Uz 78) rfl rfl rfl rfl rfl (hid_none rfl (.inl rfl)) ?_
  refine Qn<|Qs<|Qp<|(QY)<|(Qa)<|Qn ?_
  refine e_markK (l := 0) rfl [(3, _), (5, _), (6, _), (7, _)] [(0, _), (3, _)] (fun kk E m => ∃ (L0 : List TT) (w0 : Value) (oz0 : Option Blk) (ws0 : List Value), kk = 600 - L0.length ∧ E = [] ∧ m = [(1, oz0), (2, (some ⟨r3, #[w0], 45⟩))] ∧ (OwnS 53 4 w0 L0.length ws0 (Option.toList oz0)) ∧ (TO G L0 ws0) ∧ (GrowT l L0)) [] [(1, oz1_1), (2, (some ⟨r3, #[v1_1], 45⟩))] (600 - l.length) ⟨rfl, rfl, rfl, rfl, trivial⟩ ⟨rfl, rfl, rfl, rfl, trivial⟩ ⟨l, v1_1, oz1_1, vs, rfl, rfl, rfl, ho1_1, hL.to, (grow_zero hg)⟩ ?_
  rintro kk E m ⟨L0, w0, oz0, ws0, rfl, rfl, rfl, hf0_0, hf0_1, hf0_2⟩
  simp only [catE, catL]
  refine Qs<|Qp ?_
  refine e_load1 (i := 2) (Uu 45) rfl rfl rfl (show _ = some _ from rfl) rfl ⟨[], trivial⟩ ?_
  refine (QC hf0_0.shows)<|(Qa)<|Qn<|Qs<|Qs<|Qp<|(Qa)<|Qn<|Qb ?_
  refine QzK [(3, _), (5, _), (6, _), (7, _), (8, _)] [(0, _), (3, _)] (fun kk E m => ∃ (i : Nat) (L1 : List TT) (w1 : Value) (oz1 : Option Blk) (ws1 : List Value), kk = 601 - i ∧ E = [(9, ii i)] ∧ m = [(1, oz1), (2, (some ⟨r3, #[w1], 45⟩))] ∧ (i ≤ L1.length) ∧ (OwnS 53 4 w1 L1.length ws1 (Option.toList oz1)) ∧ (TO G L1 ws1) ∧ (GrowT l L1) ∧ (Pre L0 L1) ∧ (Shut L0 L1 i)) ⟨0, L0, w0, oz0, ws0, rfl, rfl, rfl, (Nat.zero_le _), hf0_0, hf0_1, hf0_2, (Pre.refl _), shut_zero⟩ ⟨rfl, rfl, rfl, rfl, rfl, rfl, trivial⟩ ⟨rfl, rfl, rfl, rfl, trivial⟩ ?_
  rintro kk E m ⟨i, L1, w1, oz1, ws1, rfl, rfl, rfl, hf1_0, hf1_1, hf1_2, hf1_3, hf1_4, hf1_5⟩
  simp only [catE, catL]
  refine Qs<|Qs<|Qp<|(Qm) ?_
  refine e_load1 (i := 2) (Uu 45) rfl rfl rfl (show _ = some _ from rfl) rfl ⟨[], trivial⟩ ?_
  refine (QC hf1_1.shows)<|(Ql)<|Qn ?_
  refine e_cond rfl ?_ ?_
  · intro hc0
    have hi1 : i < L1.length := by have := of_decide_eq_true hc0; omega
    obtain ⟨c1, ys1, hcs1, hl1⟩ := hf1_2.at hi1
    obtain ⟨y, hy⟩ : ∃ y, y = L1[i] := ⟨_, rfl⟩
    have hyL : y ∈ L1 := hy ▸ List.getElem_mem hi1
    have h7 := wdt_seven (hf1_3.good _ (List.getElem_mem hi1))
    have hL16 := hf1_3.len hn3
    have hpt : TL G (prT y) (prV y c1) (prX y ys1) := hy ▸ prT_tl hl1 (fun e => by have := h7 e; omega)
    have hptm := hpt.1
    simp only [maxLen] at hptm
    refine Qk<|Qs<|Qb<|Qs<|Qp ?_
    refine e_load1 (i := 2) (Uu 45) rfl rfl rfl (show _ = some _ from rfl) rfl ⟨[], trivial⟩ ?_
    refine (Qm) ?_
    refine e_atV hf1_1.shows (Uu 45) (Uz 53) rfl rfl (by omega) rfl ?_
    refine e_loadVS hf1_1.shows (seenM 1 rfl ⟨[], trivial⟩) (Uu 53) rfl (Uz 53) rfl (by decide) (by have := hf1_2.1; omega) hcs1 rfl ?_
    refine e_as (show _ = Value.agg (tC L1[i] c1) from rfl) ?_
    refine e_call rfl (Un 47) (parts_fn L1[i] c1 ys1 hl1 h7) rfl rfl ?_
    refine e_as (congrArg (fun z => prV z c1) hy.symm) ?_
    refine (QC (hpt.2.1))<|(Qm)<|Qn<|Qb ?_
    refine QzK [(3, _), (5, _), (6, _), (7, _), (8, _), (9, _), (28, _), (29, _)] [(0, _), (3, _)] (fun kk E m => ∃ (j : Nat) (L2 : List TT) (w2 : Value) (oz2 : Option Blk) (ws2 : List Value), kk = (prT y).length - j ∧ E = [(30, ii j)] ∧ m = [(1, oz2), (2, (some ⟨r3, #[w2], 45⟩))] ∧ (j ≤ (prT y).length) ∧ (OwnS 53 4 w2 L2.length ws2 (Option.toList oz2)) ∧ (TO G L2 ws2) ∧ (GrowT l L2) ∧ (Pre L1 L2) ∧ (ShutP L0 L2 y j)) ⟨0, L1, w1, oz1, ws1, rfl, rfl, rfl, by omega, hf1_1, hf1_2, hf1_3, (Pre.refl _), shutP_zero⟩ ⟨rfl, rfl, rfl, rfl, rfl, rfl, rfl, rfl, rfl, trivial⟩ ⟨rfl, rfl, rfl, rfl, trivial⟩ ?_
    rintro kk E m ⟨j, L2, w2, oz2, ws2, rfl, rfl, rfl, hf2_0, hf2_1, hf2_2, hf2_3, hf2_4, hf2_5⟩
    simp only [catE, catL]
    refine Qs<|Qp<|(Ql)<|Qn<|Qs ?_
    refine e_cond rfl ?_ ?_
    · intro hc1
      have hc1 : j < (prT y).length := by have := of_decide_eq_true hc1; omega
      obtain ⟨c2, ys2, hcs2, hl2⟩ := hpt.at (show j < (prT y).length by omega)
      have hj2 : j < (prT y).length := by omega
      obtain ⟨x, hx9⟩ : ∃ x, x = (prT y)[j] := ⟨_, rfl⟩
      have hL26 := hf2_3.len hn3
      obtain ⟨hi3, hy3⟩ := hf2_4.at hi1
      have hy3 := hy3.trans hy.symm
      obtain ⟨c3, ys3, hcs3, hl3⟩ := hf2_2.at hi3
      have h73 := wdt_seven (hf2_3.good _ (List.getElem_mem hi3))
      have htl2 := hf2_2.tl hf2_1 (by simp only [maxLen]; omega)
      have hy2 : y ∈ L2 := hy3 ▸ List.getElem_mem hi3
      refine Qk<|Qs<|Qb<|Qs<|Qp ?_
      refine e_atV (hpt.2.1) (Uu 45) (Uz 53) rfl rfl (by omega) rfl ?_
      refine e_loadVS (hpt.2.1) seenG (Uu 53) rfl (Uz 53) rfl (by decide) (by have := hpt.2.1.len; omega) hcs2 rfl ?_
      refine e_as (show _ = Value.agg (tC (prT y)[j] c2) from rfl) ?_
      refine (QH 4) fun r5=>?_
      refine e_storeA (i := 4) (Uz 53) rfl rfl (arrv_size _ _) (cells_one ⟨fun _ => rfl, fun _ => rfl, fun _ => rfl, fun _ => shows_oneC hl2.2.1, trivial⟩) rfl cells_sz (.inl rfl) ?_
      refine Qn<|Qs<|Qp ?_
      refine e_join [(3, _), (5, _), (6, _), (7, _), (8, _), (9, _), (11, _), (28, _), (29, _), (30, _), (31, _), (32, _), (33, _)] [(45, .bool (!(hsL L2 x) && opB (hsL L2) y))] [(0, some _), (1, oz2), (2, (some ⟨r3, #[w2], 45⟩)), (3, some _), (4, some _)] ⟨rfl, rfl, rfl, rfl, rfl, rfl, rfl, rfl, rfl, rfl, rfl, rfl, rfl, trivial⟩ ⟨rfl, rfl, rfl, rfl, rfl, trivial⟩ ?_ ?_
      · skip
        refine e_load1 (i := 3) (Uu 78) rfl rfl rfl (show _ = some _ from rfl) rfl ⟨[], trivial⟩ ?_
        refine (QD 4) ?_
        refine e_callS rfl rfl (Un 41) (seen_app (A := [_]) (seen1 3 rfl ⟨[], trivial⟩) (seen_app (A := [_]) (seen1 2 rfl ⟨[], trivial⟩) (seen_app (seenM 1 rfl ⟨[], trivial⟩) seenG))) (Fn.more (hask_fn (G := (⟨r4, #[(Value.func (.func 41) #[] #[ptr r3])], 78⟩ : Blk) :: (Option.toList oz2 ++ G)) r3 L2 w2 ws2 (htl2.mono (fun z hz => List.mem_cons_of_mem _ (List.mem_cons_of_mem _ hz))) (prT y)[j] c2 ys2 (hl2.mono (fun z hz => List.mem_cons_of_mem _ (List.mem_cons_of_mem _ (List.mem_append_right _ hz))))) swap_mem) rfl rfl ?_
        refine e_as (congrArg Value.bool (congrArg (hsL L2) hx9.symm)) ?_
        refine (Q0)<|(Qm) ?_
        refine e_case (fun hb0 => ?_) (fun hb0 => ?_)
        · skip
          refine (Qy) ?_
          refine e_load1 (i := 2) (Uu 45) rfl rfl rfl (show _ = some _ from rfl) rfl ⟨[], trivial⟩ ?_
          refine (Qy)<|(Qm)<|(Qy) ?_
          refine e_atV hf2_1.shows (Uu 45) (Uz 53) rfl rfl (by omega) rfl ?_
          refine (Qy) ?_
          refine e_loadVS hf2_1.shows (seenM 1 rfl ⟨[], trivial⟩) (Uu 53) rfl (Uz 53) rfl (by decide) (by have := hf2_2.1; omega) hcs3 rfl ?_
          refine e_as (show _ = Value.agg (tC L2[i] c3) from rfl) ?_
          refine (Qy)<|(Qm)<|(Qy) ?_
          refine e_callS rfl rfl (Un 48) (seen_app (A := [_]) (seen1 3 rfl ⟨[], trivial⟩) (seen_app (A := [_]) (seen1 2 rfl ⟨[], trivial⟩) (seen_app (seenM 1 rfl ⟨[], trivial⟩) seenG))) (opens_fn (G := ((⟨r4, #[(Value.func (.func 41) #[] #[ptr r3])], 78⟩ : Blk) :: (⟨r3, #[w2], 45⟩ : Blk) :: (Option.toList oz2 ++ G))) r4 (hsL L2) (fun x c ys hX => cank_fn (G := (⟨r3, #[w2], 45⟩ : Blk) :: (Option.toList oz2 ++ G)) r3 r4 (hsL L2) (fun x c ys hX => Fn.more (hask_fn (G := (⟨r4, #[(Value.func (.func 41) #[] #[ptr r3])], 78⟩ : Blk) :: (Option.toList oz2 ++ G)) r3 L2 w2 ws2 (htl2.mono (fun z hz => List.mem_cons_of_mem _ (List.mem_cons_of_mem _ hz))) x c ys (hX.mono swap_mem)) swap_mem) x c ys hX) L2[i] c3 ys3 (hl3.mono (fun z hz => List.mem_cons_of_mem _ (List.mem_cons_of_mem _ (List.mem_append_right _ hz)))) h73) rfl rfl ?_
          refine e_as (congrArg (fun z => Value.bool (opB (hsL L2) z)) hy3) ?_
          refine (QT)<|Qn ?_
          exact ⟨⟨rfl, rfl, rfl, rfl, rfl, rfl, rfl, rfl, rfl, rfl, rfl, rfl, rfl, trivial⟩, ⟨bool_fin (by rw [hb0] <;> rfl), trivial⟩, ⟨rfl, rfl, rfl, rfl, rfl, trivial⟩⟩
        · skip
          refine (Qo)<|(Qo)<|(Qo)<|(Qo)<|(Qo)<|(Qo)<|(QF)<|Qn ?_
          exact ⟨⟨rfl, rfl, rfl, rfl, rfl, rfl, rfl, rfl, rfl, rfl, rfl, rfl, rfl, trivial⟩, ⟨bool_fin (by rw [hb0] <;> rfl), trivial⟩, ⟨rfl, rfl, rfl, rfl, rfl, trivial⟩⟩
      · simp only [catE]
        refine e_cond rfl ?_ ?_
        · intro hc2
          have hno := hc2
          have hnw : hsL L2 x = false ∧ opB (hsL L2) y = true := by simpa using hc2
          have hgr9 := hf2_3.next hy2 (hx9 ▸ List.getElem_mem hj2) hnw.1 hnw.2
          have hto9 : TO G (L2 ++ [x]) (ws2 ++ (tC (prT y)[j] c2).toList) := by rw [hx9]; exact hf2_2.app (to_one hl2)
          refine (Qq ⟨[], 1, [], none, (some (5, r3))⟩) ?_
          refine e_load1 (i := 2) (Uu 45) rfl rfl rfl (show _ = some _ from rfl) rfl ⟨[], trivial⟩ ?_
          refine (QD 4)<|(QC hf2_1.shows) ?_
          refine e_buildSl 5 #[iv 0, iv 0, iv 0, nilS] (Uu 45 rfl) (Uz 53 rfl) (Ub 53 rfl) (by decide) (by decide) rfl (by kernel_rfl) rfl fun r6 => ?_
          refine e_append 1 hf2_1 (shows_new _ _ (by rfl)) rfl (seen1 5 rfl ⟨[], trivial⟩) (Uu 45) (Uz 53) (Uy 53) (Ub 53) (by rfl) rfl rfl (by decide) (by simp only [maxLen]; omega) (by omega) rfl fun v5_2 oz5_2 ho5_2 => ?_
          refine e_atV ho5_2.shows (Uu 45) (Uz 53) rfl rfl (by omega) rfl ?_
          refine e_stOwnS (i := 1) ho5_2 (Uz 53) rfl rfl (arrv_size _ _) (cells_one ⟨fun _ => rfl, fun _ => rfl, fun _ => rfl, fun _ => shows_oneC hl2.2.1, trivial⟩) rfl (by omega) rfl (fun oz5_3 ho5_3 => ?_) (y_off 2 rfl (by decide) rfl (by decide))
          refine e_store1 (i := 2) (Uz 45) rfl rfl (shows_oneC (OwnS.shows (own_fill hf2_2.1 rfl ho5_3))) rfl rfl (hid_var rfl rfl) ?_ (y_var rfl rfl)
          refine Qn ?_
          have hown9 := own_app (L := L2) x (own_fill hf2_2.1 rfl ho5_3)
          refine Qp<|(Q2 1)<|(Qm)<|Qn ?_
          refine QzL ⟨j + 1, _, _, _, _, rfl, rfl, rfl, by omega, (by first | exact hown9 | exact hf2_1), (by first | exact hto9 | exact hf2_2), (by first | exact hgr9 | exact hf2_3), (by first | exact hf2_4.app _ | exact hf2_4), (by first | exact shutP_more (hf1_4.trans hf2_4) | exact shutP_next hj2 hx9 hno hf2_5)⟩ ⟨rfl, rfl, rfl, rfl, rfl, rfl, rfl, rfl, rfl, trivial⟩ ⟨rfl, rfl, rfl, rfl, trivial⟩ ?_
          omega
        · intro hc2
          have hno := hc2
          refine Qk<|Qp<|(Q2 1)<|(Qm)<|Qn ?_
          refine QzL ⟨j + 1, _, _, _, _, rfl, rfl, rfl, by omega, (by first | exact hown9 | exact hf2_1), (by first | exact hto9 | exact hf2_2), (by first | exact hgr9 | exact hf2_3), (by first | exact hf2_4.app _ | exact hf2_4), (by first | exact shutP_more (hf1_4.trans hf2_4) | exact shutP_next hj2 hx9 hno hf2_5)⟩ ⟨rfl, rfl, rfl, rfl, rfl, rfl, rfl, rfl, rfl, trivial⟩ ⟨rfl, rfl, rfl, rfl, trivial⟩ ?_
          omega
    · intro hc1
      have hc1 := of_decide_eq_false hc1
      have hz2 : j = (prT y).length := by omega
      refine Qe<|Qp<|(Qm)<|(Q2 1)<|(Qa)<|Qn ?_
      refine QzL ⟨i + 1, _, _, _, _, rfl, rfl, rfl, (by have := hf2_4.len; omega), hf2_1, hf2_2, hf2_3, (hf1_4.trans hf2_4), (shut_next hi1 hy hf1_4 hf2_4 hf1_5 hf2_5 hz2)⟩ ⟨rfl, rfl, rfl, rfl, rfl, rfl, trivial⟩ ⟨rfl, rfl, rfl, rfl, trivial⟩ ?_
      omega
  · intro hc0
    have hi1 : i = L1.length := by have := of_decide_eq_false hc0; omega
    have hL16 := hf1_3.len hn3
    refine Qe<|Qs<|Qs<|Qp ?_
    refine e_load1 (i := 2) (Uu 45) rfl rfl rfl (show _ = some _ from rfl) rfl ⟨[], trivial⟩ ?_
    refine (QC hf1_1.shows)<|(Qm)<|(QG)<|Qn ?_
    refine e_cond rfl ?_ ?_
    · intro hc3
      have hg9 := hc3
      refine e_goto ?_
      have hl1 := hf1_3.len hn3
      have hc9 := of_decide_eq_true hg9
      refine ⟨rfl, _, [], [(1, _), (2, (some ⟨r3, #[_], 45⟩))], ?_, ⟨rfl, rfl, rfl, rfl, trivial⟩, ⟨rfl, rfl, rfl, rfl, trivial⟩, _, _, _, _, rfl, rfl, rfl, hf1_1, hf1_2, hf1_3⟩
      omega
    · intro hc3
      have hg9 := of_decide_eq_false hc3
      rw [← hf1_3.fin hf1_4 (by omega) (hi1 ▸ hf1_5) hb]
      refine Qk<|Qs<|Qp<|(Qm)<|(QD 0) ?_
      refine e_callS rfl rfl (Un 45) (seen_app (A := [_]) (seen1 3 rfl ⟨[], trivial⟩) (seen_app (A := [_]) (seen1 2 rfl ⟨[], trivial⟩) (seen_app (seenM 1 rfl ⟨[], trivial⟩) seenG))) ((fun x c ys hX => cank_fn (G := (⟨r3, #[w1], 45⟩ : Blk) :: (Option.toList oz1 ++ G)) r3 r4 (hsL L1) (fun x c ys hX => Fn.more (hask_fn (G := (⟨r4, #[(Value.func (.func 41) #[] #[ptr r3])], 78⟩ : Blk) :: (Option.toList oz1 ++ G)) r3 L1 w1 ws1 ((hf1_2.tl hf1_1 (by simp only [maxLen]; omega)).mono (fun z hz => List.mem_cons_of_mem _ (List.mem_cons_of_mem _ hz))) x c ys (hX.mono swap_mem)) swap_mem) x c ys hX) t c xs (hT.mono (fun z hz => List.mem_cons_of_mem _ (List.mem_cons_of_mem _ (List.mem_append_right _ hz))))) rfl rfl ?_
      refine (Qa)<|Qn<|Qr ?_
      exact ⟨_, rfl, .tmp rfl⟩
end Go.Proofs.YtfldnikepdbgkaaDoor
namespace Go.Proofs.YtfldnikepdbgkaaDoor
open Go Go.RowKit
variable {G : Mem}
set_option maxHeartbeats 400000 in
theorem room_rec (l : List TT) (c : Value) (xs : List Value) (r d : Nat) (hT : TL G l c xs) (hr : r ≤ 300) (hd : d ≤ 40) (hrec : ∀ (u : List TT) (c : Value) (xs : List Value) (r d : Nat), deepL u < deepL l → TL G u c xs → r ≤ 300 → d ≤ 40 → Fn Tryd.prog G 38 #[c, ii r, ii d] (iv (roomL u r d))) : Fn Tryd.prog G 38 #[c, ii r, ii d] (iv (roomL l r d)) := by
  have hml := hT.1
  simp only [maxLen] at hml
  refine Qf1 Tryd.func38 ?_
  refine Qs<|Qp<|(Qa)<|Qn<|Qs<|Qs<|Qp<|(Qm)<|(QC hT.2.1)<|(Qm)<|Qn<|Qb ?_
  refine QzK [(2, _), (9, _), (10, _)] [] (fun kk E m => ∃ (i : Nat), kk = l.length - i ∧ E = [(1, ii (r - nodesL (l.take i))), (11, ii i)] ∧ m = [] ∧ (i ≤ l.length) ∧ (nodesL (l.take i) ≤ r) ∧ (∀ j (h : j < l.length), j < i → l[j].deep ≤ d)) ⟨0, rfl, rfl, rfl, by omega, by simp [nodesL], fun _ _ h => absurd h (Nat.not_lt_zero _)⟩ ⟨rfl, rfl, rfl, rfl, rfl, trivial⟩ trivial ?_
  rintro kk E m ⟨i, rfl, rfl, rfl, hf0_0, hf0_1, hf0_2⟩
  simp only [catE, catL]
  refine Qs<|Qp<|(Ql)<|Qn<|Qs ?_
  refine e_cond rfl ?_ ?_
  · intro hc0
    have hc0 : i < l.length := by have := of_decide_eq_true hc0; omega
    obtain ⟨c1, ys1, hcs1, hl1⟩ := hT.at (show i < l.length by omega)
    have hin1 := List.getElem_mem (show i < l.length by omega)
    have hdp : deepL l[i].args < deepL l := by have h1 := deepL_le.1 (Nat.le_refl (deepL l)) _ hin1; have h2 := l[i].deep_eq; omega
    refine Qk<|Qs<|Qb<|Qs<|Qp ?_
    refine e_atV hT.2.1 (Uu 45) (Uz 53) rfl rfl (by omega) rfl ?_
    refine e_loadVS hT.2.1 seenG (Uu 53) rfl (Uz 53) rfl (by decide) (by have := hT.2.1.len; omega) hcs1 rfl ?_
    refine e_as (show _ = Value.agg (tC l[i] c1) from rfl) ?_
    refine (QH 0) fun r1=>?_
    refine e_storeA (i := 0) (Uz 53) rfl rfl (arrv_size _ _) (cells_one ⟨fun _ => rfl, fun _ => rfl, fun _ => rfl, fun _ => shows_oneC hl1.2.1, trivial⟩) rfl cells_sz (.inl rfl) ?_
    refine Qn<|Qs<|Qs<|Qp ?_
    refine e_join [(1, _), (2, _), (8, _), (9, _), (10, _), (11, _), (12, _), (13, _), (14, _)] [(20, .bool (decide (((r - nodesL (l.take i) : Nat) : Int) = 0) || decide ((d : Int) = 0)))] [(0, some _)] ⟨rfl, rfl, rfl, rfl, rfl, rfl, rfl, rfl, rfl, trivial⟩ ⟨rfl, trivial⟩ ?_ ?_
    · skip
      refine (Qm)<|(Qc)<|(Qm) ?_
      refine e_case (fun hb0 => ?_) (fun hb0 => ?_)
      · skip
        refine (Qo)<|(Qo)<|(QT)<|Qn ?_
        exact ⟨⟨rfl, rfl, rfl, rfl, rfl, rfl, rfl, rfl, rfl, trivial⟩, ⟨bool_fin (by rw [hb0] <;> rfl), trivial⟩, ⟨rfl, trivial⟩⟩
      · skip
        refine (Qy)<|(Qm)<|(Qy)<|(Qc)<|(QF)<|Qn ?_
        exact ⟨⟨rfl, rfl, rfl, rfl, rfl, rfl, rfl, rfl, rfl, trivial⟩, ⟨bool_fin (by rw [hb0] <;> rfl), trivial⟩, ⟨rfl, trivial⟩⟩
    · simp only [catE]
      refine e_cond rfl ?_ ?_
      · intro hc1
        rw [room_full (by assumption) (by have := or_true2 hc1; omega)]
        refine Qs<|Qp<|(Qa)<|Qn<|Qr ?_
        first | rw [room_end (by rw [← hz0]; exact hf0_1) (fun j h => hf0_2 j h (by omega)), ← hz0] | skip
        exact ⟨_, rfl, .tmp rfl⟩
      · intro hc1
        have hz := or_false2 hc1
        refine Qk<|Qs<|Qp<|(Qf 3)<|(QV 3 0)<|(Qm) ?_
        refine e_sub_in (q := 1) rfl rfl rfl (by omega) (by omega) ?_
        refine (Qm) ?_
        refine e_sub_in (q := 1) rfl rfl rfl (by omega) (by omega) ?_
        refine e_call rfl (Un 38) (hrec l[i].args c1 ys1 (r - nodesL (l.take i) - 1) (d - 1) hdp hl1 (by omega) (by omega)) rfl rfl ?_
        refine (Qa)<|Qn<|Qs<|Qp<|(Qm)<|(Ql)<|Qn ?_
        refine e_cond rfl ?_ ?_
        · intro hc2
          rw [room_bad (l := l) (r := r) (d := d) (i := i) (by assumption) (by omega) (by omega) (by have := of_decide_eq_true hc2; exact this)]
          refine Qs<|Qp<|(Qa)<|Qn<|Qr ?_
          first | rw [room_end (by rw [← hz0]; exact hf0_1) (fun j h => hf0_2 j h (by omega)), ← hz0] | skip
          exact ⟨_, rfl, .tmp rfl⟩
        · intro hc2
          have hnx := room_next (l := l) (r := r) (d := d) (i := i) (by assumption) (by omega) (by omega) (by have := of_decide_eq_false hc2; exact this)
          refine Qk<|Qp<|(Q2 1)<|(Qm)<|Qn ?_
          refine QzL ⟨i + 1, rfl, rfl, rfl, by omega, hnx.2.1, fun j h hj => by by_cases e : j = i; (subst e; exact hnx.2.2); exact hf0_2 j h (by omega)⟩ ⟨by rw [hnx.1]; rfl, rfl, rfl, rfl, rfl, trivial⟩ trivial ?_
          omega
  · intro hc0
    have hc0 := of_decide_eq_false hc0
    have hz0 : i = l.length := by omega
    refine Qe<|Qs<|Qp<|(Qm)<|(Qa)<|Qn<|Qr ?_
    first | rw [room_end (by rw [← hz0]; exact hf0_1) (fun j h => hf0_2 j h (by omega)), ← hz0] | skip
    exact ⟨_, rfl, .tmp rfl⟩
set_option maxHeartbeats 400000 in
theorem width_fn (k : Int) : Fn Tryd.prog G 57 #[iv k] (ii (wdt k)) := by
  refine Qf1 Tryd.func57 ?_
  refine Qs<|Qp<|(Qa)<|Qn<|Qs<|Qs<|Qp<|(Qm)<|Qn<|Qb<|Qs<|Qp<|(Qc)<|(Qa)<|Qn ?_
  refine e_cond rfl ?_ ?_
  · intro hc0
    have hc0 := of_decide_eq_true hc0
    refine Qs<|Qp<|(Qa)<|Qn<|Qr ?_
    rcases wdt_ways k with ⟨h9, e9⟩ | ⟨h8, h9, e9⟩ | ⟨h9, e9⟩ | ⟨h9, e9⟩ <;> first | (exfalso; omega) | rw [e9]
    exact ⟨_, rfl, .tmp rfl⟩
  · intro hc0
    have hc0 := of_decide_eq_false hc0
    refine Qs<|Qs<|Qp<|(Qc)<|(Qa)<|Qn ?_
    refine s_join [(0, _), (2, _), (3, _), (4, _), (5, _), (7, _)] [(6, .bool (decide (k = 4) || decide (k = 6)))] [] ⟨rfl, rfl, rfl, rfl, rfl, rfl, trivial⟩ trivial ?_ ?_
    · skip
      refine e_cond rfl ?_ ?_
      · intro hc1
        have hc1 := of_decide_eq_true hc1
        refine Qk ?_
        exact ⟨⟨rfl, rfl, rfl, rfl, rfl, rfl, trivial⟩, ⟨(by simp_all; rfl), trivial⟩, trivial⟩
      · intro hc1
        have hc1 := of_decide_eq_false hc1
        refine Qp<|(Qc)<|(Qa)<|Qn ?_
        exact ⟨⟨rfl, rfl, rfl, rfl, rfl, rfl, trivial⟩, ⟨(by simp_all; rfl), trivial⟩, trivial⟩
    · simp only [catE]
      refine e_cond rfl ?_ ?_
      · intro hc2
        have h50 := or_true2 hc2
        refine Qs<|Qp<|(Qa)<|Qn<|Qr ?_
        rcases wdt_ways k with ⟨h9, e9⟩ | ⟨h8, h9, e9⟩ | ⟨h9, e9⟩ | ⟨h9, e9⟩ <;> first | (exfalso; omega) | rw [e9]
        exact ⟨_, rfl, .tmp rfl⟩
      · intro hc2
        have h50 := or_false2 hc2
        refine Qs<|Qp<|(Qc)<|(Qa)<|Qn ?_
        refine e_cond rfl ?_ ?_
        · intro hc3
          have hc3 := of_decide_eq_true hc3
          refine Qs<|Qp<|(Qa)<|Qn<|Qr ?_
          rcases wdt_ways k with ⟨h9, e9⟩ | ⟨h8, h9, e9⟩ | ⟨h9, e9⟩ | ⟨h9, e9⟩ <;> first | (exfalso; omega) | rw [e9]
          exact ⟨_, rfl, .tmp rfl⟩
        · intro hc3
          have hc3 := of_decide_eq_false hc3
          refine Qk<|Qs<|Qp<|(Qa)<|Qn<|Qr ?_
          rcases wdt_ways k with ⟨h9, e9⟩ | ⟨h8, h9, e9⟩ | ⟨h9, e9⟩ | ⟨h9, e9⟩ <;> first | (exfalso; omega) | rw [e9]
          exact ⟨_, rfl, .tmp rfl⟩
set_option maxHeartbeats 400000 in
theorem numbered_fn (t : TT) (c : Value) : Fn Tryd.prog G 58 #[.agg (tC t c)] (.bool (numB t.kind t.id t.other)) := by
  refine Qf1 Tryd.func58 ?_
  refine Qs<|Qp<|(Qh 0) fun r1=>(Qa)<|Qn<|Qs<|Qs<|Qp<|(Qf 0)<|(QV 0 0)<|Qn<|Qb<|Qs<|Qp<|(Qc)<|(Qa)<|Qn ?_
  refine e_cond rfl ?_ ?_
  · intro hc0
    have hc0 := of_decide_eq_true hc0
    refine Qs<|Qp ?_
    refine e_join [(0, _), (1, _), (3, _), (4, _), (5, _), (6, _)] [(2, .bool (decide (0 ≤ t.id) && decide (t.id ≤ t.other)))] [(0, some _)] ⟨rfl, rfl, rfl, rfl, rfl, rfl, trivial⟩ ⟨rfl, trivial⟩ ?_ ?_
    · skip
      refine (Qf 1)<|(QV 1 0)<|(QE)<|(Qm) ?_
      refine e_case (fun hb0 => ?_) (fun hb0 => ?_)
      · skip
        refine (Qy)<|(Qf 2)<|(Qy)<|(QV 2 0)<|(Qy)<|(Qf 1)<|(Qy)<|(QV 1 0)<|(Qy)<|(QE)<|(QT)<|(Qa)<|Qn ?_
        exact ⟨⟨rfl, rfl, rfl, rfl, rfl, rfl, trivial⟩, ⟨bool_fin (by rw [hb0] <;> rfl), trivial⟩, ⟨rfl, trivial⟩⟩
      · skip
        refine (Qo)<|(Qo)<|(Qo)<|(Qo)<|(Qo)<|(QF)<|(Qa)<|Qn ?_
        exact ⟨⟨rfl, rfl, rfl, rfl, rfl, rfl, trivial⟩, ⟨bool_fin (by rw [hb0] <;> rfl), trivial⟩, ⟨rfl, trivial⟩⟩
    · simp only [catE]
      refine Qr ?_
      rcases num_ways t.kind t.id t.other with ⟨h9, e9⟩ | ⟨h9, e9⟩ | ⟨h9, e9⟩ <;> first | (exfalso; omega) | rw [e9]
      exact ⟨_, rfl, .tmp rfl⟩
  · intro hc0
    have hc0 := of_decide_eq_false hc0
    refine Qs<|Qs<|Qp<|(Qc)<|(Qa)<|Qn ?_
    refine s_join [(0, _), (1, _), (2, _), (3, _), (4, _), (5, _), (6, _), (18, _)] [(17, .bool (decide (t.kind = 1) || (decide (t.kind = 2) || decide (t.kind = 6))))] [(0, some _)] ⟨rfl, rfl, rfl, rfl, rfl, rfl, rfl, rfl, trivial⟩ ⟨rfl, trivial⟩ ?_ ?_
    · skip
      refine e_cond rfl ?_ ?_
      · intro hc1
        have hc1 := of_decide_eq_true hc1
        refine Qk ?_
        exact ⟨⟨rfl, rfl, rfl, rfl, rfl, rfl, rfl, rfl, trivial⟩, ⟨(by simp_all; rfl), trivial⟩, ⟨rfl, trivial⟩⟩
      · intro hc1
        have hc1 := of_decide_eq_false hc1
        refine Qs<|Qp<|(Qc)<|(Qa)<|Qn ?_
        refine e_cond rfl ?_ ?_
        · intro hc2
          have hc2 := of_decide_eq_true hc2
          refine Qk ?_
          exact ⟨⟨rfl, rfl, rfl, rfl, rfl, rfl, rfl, rfl, trivial⟩, ⟨(by simp_all; rfl), trivial⟩, ⟨rfl, trivial⟩⟩
        · intro hc2
          have hc2 := of_decide_eq_false hc2
          refine Qp<|(Qc)<|(Qa)<|Qn ?_
          exact ⟨⟨rfl, rfl, rfl, rfl, rfl, rfl, rfl, rfl, trivial⟩, ⟨(by simp_all; rfl), trivial⟩, ⟨rfl, trivial⟩⟩
    · simp only [catE]
      refine e_cond rfl ?_ ?_
      · intro hc3
        have h50 : t.kind = 1 ∨ t.kind = 2 ∨ t.kind = 6 := by simpa using hc3
        refine Qs<|Qp ?_
        refine e_join [(0, _), (1, _), (3, _), (4, _), (5, _), (6, _), (17, _), (18, _)] [(2, .bool (decide (0 ≤ t.id) && decide (t.other = 0)))] [(0, some _)] ⟨rfl, rfl, rfl, rfl, rfl, rfl, rfl, rfl, trivial⟩ ⟨rfl, trivial⟩ ?_ ?_
        · skip
          refine (Qf 1)<|(QV 1 0)<|(QE)<|(Qm) ?_
          refine e_case (fun hb1 => ?_) (fun hb1 => ?_)
          · skip
            refine (Qy)<|(Qf 2)<|(Qy)<|(QV 2 0)<|(Qy)<|(Qc)<|(QT)<|(Qa)<|Qn ?_
            exact ⟨⟨rfl, rfl, rfl, rfl, rfl, rfl, rfl, rfl, trivial⟩, ⟨bool_fin (by rw [hb1] <;> rfl), trivial⟩, ⟨rfl, trivial⟩⟩
          · skip
            refine (Qo)<|(Qo)<|(Qo)<|(QF)<|(Qa)<|Qn ?_
            exact ⟨⟨rfl, rfl, rfl, rfl, rfl, rfl, rfl, rfl, trivial⟩, ⟨bool_fin (by rw [hb1] <;> rfl), trivial⟩, ⟨rfl, trivial⟩⟩
        · simp only [catE]
          refine Qr ?_
          rcases num_ways t.kind t.id t.other with ⟨h9, e9⟩ | ⟨h9, e9⟩ | ⟨h9, e9⟩ <;> first | (exfalso; omega) | rw [e9]
          exact ⟨_, rfl, .tmp rfl⟩
      · intro hc3
        have h50 : ¬ (t.kind = 1 ∨ t.kind = 2 ∨ t.kind = 6) := by simpa using hc3
        refine Qk<|Qs<|Qp ?_
        refine e_join [(0, _), (1, _), (3, _), (4, _), (5, _), (6, _), (17, _), (18, _)] [(2, .bool (decide (t.id = 0) && decide (t.other = 0)))] [(0, some _)] ⟨rfl, rfl, rfl, rfl, rfl, rfl, rfl, rfl, trivial⟩ ⟨rfl, trivial⟩ ?_ ?_
        · skip
          refine (Qf 1)<|(QV 1 0)<|(Qc)<|(Qm) ?_
          refine e_case (fun hb2 => ?_) (fun hb2 => ?_)
          · skip
            refine (Qy)<|(Qf 2)<|(Qy)<|(QV 2 0)<|(Qy)<|(Qc)<|(QT)<|(Qa)<|Qn ?_
            exact ⟨⟨rfl, rfl, rfl, rfl, rfl, rfl, rfl, rfl, trivial⟩, ⟨bool_fin (by rw [hb2] <;> rfl), trivial⟩, ⟨rfl, trivial⟩⟩
          · skip
            refine (Qo)<|(Qo)<|(Qo)<|(QF)<|(Qa)<|Qn ?_
            exact ⟨⟨rfl, rfl, rfl, rfl, rfl, rfl, rfl, rfl, trivial⟩, ⟨bool_fin (by rw [hb2] <;> rfl), trivial⟩, ⟨rfl, trivial⟩⟩
        · simp only [catE]
          refine Qr ?_
          rcases num_ways t.kind t.id t.other with ⟨h9, e9⟩ | ⟨h9, e9⟩ | ⟨h9, e9⟩ <;> first | (exfalso; omega) | rw [e9]
          exact ⟨_, rfl, .tmp rfl⟩
end Go.Proofs.YtfldnikepdbgkaaDoor
namespace Go.Proofs.YtfldnikepdbgkaaDoor
open Go Go.RowKit
theorem room_fn {G : Mem} : ∀ (n : Nat) (l : List TT) (c : Value) (xs : List Value) (r d : Nat), deepL l ≤ n → TL G l c xs → r ≤ 300 → d ≤ 40 → Fn Tryd.prog G 38 #[c, ii r, ii d] (iv (roomL l r d)) := by
  intro n
  induction n with
  | zero => exact fun l c xs r d hn hT hr hd => room_rec l c xs r d hT hr hd fun u _ _ _ _ h => by omega
  | succ n ih => exact fun l c xs r d hn hT hr hd => room_rec l c xs r d hT hr hd fun u c xs r d h hT hr hd => ih u c xs r d (by omega) hT hr hd
variable {G : Mem}
set_option maxHeartbeats 400000 in
theorem fits_fn (l : List TT) (c : Value) (xs : List Value) (hT : TL G l c xs) : Fn Tryd.prog G 27 #[c] (.bool (fitsL l)) := by
  refine Qf1 Tryd.func27 ?_
  refine Qs<|Qp<|(Qa)<|Qn<|Qs<|Qp<|(Qm) ?_
  refine e_call rfl (Un 38) (room_fn _ l c xs 300 40 (Nat.le_refl _) hT (by decide) (by decide)) rfl rfl ?_
  refine (QE) ?_
  refine e_as (congrArg Value.bool (room_fits l)) ?_
  refine (Qa)<|Qn<|Qr ?_
  exact ⟨_, rfl, .tmp rfl⟩
set_option maxHeartbeats 400000 in
theorem forms_rec (l : List TT) (c : Value) (xs : List Value) (hT : TL G l c xs) (hrec : ∀ (t : TT) (c : Value) (ys : List Value), t ∈ l → TL G t.args c ys → Fn Tryd.prog G 39 #[.agg (tC t c)] (ii t.form)) : Fn Tryd.prog G 28 #[c] (ii (formL l)) := by
  have hml := hT.1
  simp only [maxLen] at hml
  refine Qf1 Tryd.func28 ?_
  refine Qs<|Qp<|(Qa)<|Qn<|Qs<|Qs<|Qp<|(Qm)<|(QC hT.2.1)<|(Qm)<|Qn<|Qb ?_
  refine QzK [(6, _), (7, _)] [] (fun kk E m => ∃ (i : Nat), kk = l.length - i ∧ E = [(8, ii i)] ∧ m = [] ∧ (i ≤ l.length) ∧ (∀ j (h : j < l.length), j < i → l[j].form = 0)) ⟨0, rfl, rfl, rfl, by omega, fun _ _ h => absurd h (Nat.not_lt_zero _)⟩ ⟨rfl, rfl, rfl, trivial⟩ trivial ?_
  rintro kk E m ⟨i, rfl, rfl, rfl, hf0_0, hf0_1⟩
  simp only [catE, catL]
  refine Qs<|Qp<|(Ql)<|Qn<|Qs ?_
  refine e_cond rfl ?_ ?_
  · intro hc0
    have hc0 : i < l.length := by have := of_decide_eq_true hc0; omega
    obtain ⟨c1, ys1, hcs1, hl1⟩ := hT.at (show i < l.length by omega)
    have hin1 := List.getElem_mem (show i < l.length by omega)
    refine Qk<|Qs<|Qb<|Qs<|Qp ?_
    refine e_atV hT.2.1 (Uu 45) (Uz 53) rfl rfl (by omega) rfl ?_
    refine e_loadVS hT.2.1 seenG (Uu 53) rfl (Uz 53) rfl (by decide) (by have := hT.2.1.len; omega) hcs1 rfl ?_
    refine e_as (show _ = Value.agg (tC l[i] c1) from rfl) ?_
    refine (QH 0) fun r1=>?_
    refine e_storeA (i := 0) (Uz 53) rfl rfl (arrv_size _ _) (cells_one ⟨fun _ => rfl, fun _ => rfl, fun _ => rfl, fun _ => shows_oneC hl1.2.1, trivial⟩) rfl cells_sz (.inl rfl) ?_
    refine Qn<|Qs<|Qp<|(QD 0) ?_
    refine e_call rfl (Un 39) (hrec l[i] c1 ys1 hin1 hl1) rfl rfl ?_
    refine (Qa)<|Qn<|Qs<|Qp<|(Qm)<|(QN)<|Qn ?_
    refine e_cond rfl ?_ ?_
    · intro hc1
      have hne := of_decide_eq_true hc1
      rw [formL_at (i := i) (by assumption) (fun j hj => hf0_1 j (by omega) hj) (by omega)]
      refine Qs<|Qp<|(Qm)<|(Qa)<|Qn<|Qr ?_
      first | rw [formL_none (fun j h => hf0_1 j h (by omega))] | skip
      exact ⟨_, rfl, .tmp rfl⟩
    · intro hc1
      have hz9 : l[i].form = 0 := by have := of_decide_eq_false hc1; omega
      refine Qk<|Qp<|(Q2 1)<|(Qm)<|Qn ?_
      refine QzL ⟨i + 1, rfl, rfl, rfl, by omega, fun j h hj => by by_cases e : j = i; (subst e; exact hz9); exact hf0_1 j h (by omega)⟩ ⟨rfl, rfl, rfl, trivial⟩ trivial ?_
      omega
  · intro hc0
    have hc0 := of_decide_eq_false hc0
    have hz0 : i = l.length := by omega
    refine Qe<|Qs<|Qp<|(Qa)<|Qn<|Qr ?_
    first | rw [formL_none (fun j h => hf0_1 j h (by omega))] | skip
    exact ⟨_, rfl, .tmp rfl⟩
set_option maxHeartbeats 400000 in
theorem form_rec (t : TT) (c : Value) (xs : List Value) (hT : TL G t.args c xs) (hrec : Fn Tryd.prog G 28 #[c] (ii (formL t.args))) : Fn Tryd.prog G 39 #[.agg (tC t c)] (ii t.form) := by
  have hml := hT.1
  simp only [maxLen] at hml
  have hco := shows_oneC hT.2.1
  refine Qf1 Tryd.func39 ?_
  refine Qs<|Qp<|(Qh 0) fun r1=>(Qa)<|Qn<|Qs<|Qs<|Qp ?_
  refine e_join [(0, _), (1, _), (2, _)] [(10, .bool (decide (t.kind < 1) || decide (7 < t.kind)))] [(0, some _)] ⟨rfl, rfl, rfl, trivial⟩ ⟨rfl, trivial⟩ ?_ ?_
  · skip
    refine (Qf 0)<|(QV 0 0)<|(Ql)<|(Qm) ?_
    refine e_case (fun hb0 => ?_) (fun hb0 => ?_)
    · skip
      refine (Qo)<|(Qo)<|(Qo)<|(QT)<|Qn ?_
      exact ⟨⟨rfl, rfl, rfl, trivial⟩, ⟨bool_fin (by rw [hb0] <;> rfl), trivial⟩, ⟨rfl, trivial⟩⟩
    · skip
      refine (Qy)<|(Qf 0)<|(Qy)<|(QV 0 0)<|(Qy)<|(QG)<|(QF)<|Qn ?_
      exact ⟨⟨rfl, rfl, rfl, trivial⟩, ⟨bool_fin (by rw [hb0] <;> rfl), trivial⟩, ⟨rfl, trivial⟩⟩
  · simp only [catE]
    refine e_cond rfl ?_ ?_
    · intro hc0
      rw [form_eq, if_pos (or_true2 hc0)]
      refine Qs<|Qp<|(Qa)<|Qn<|Qr ?_
      exact ⟨_, rfl, .tmp rfl⟩
    · intro hc0
      have h36 := or_false2 hc0
      refine Qk<|Qs<|Qs<|(Qg) ?_
      refine e_join [(0, _), (1, _), (2, _), (10, _)] [(22, .bool (decide ((t.args.length : Int) ≠ (wdt t.kind : Int)) || !numB t.kind t.id t.other))] [(0, some _)] ⟨rfl, rfl, rfl, rfl, trivial⟩ ⟨rfl, trivial⟩ ?_ ?_
      · skip
        refine (Qf 3)<|(QV 3 0)<|(QC hT.2.1)<|(Qf 0)<|(QV 0 0) ?_
        refine e_call rfl (Un 57) (width_fn t.kind) rfl rfl ?_
        refine (QN)<|(Qm) ?_
        refine e_case (fun hb1 => ?_) (fun hb1 => ?_)
        · skip
          refine (Qo)<|(Qo)<|(Qo)<|(QT)<|Qn ?_
          exact ⟨⟨rfl, rfl, rfl, rfl, trivial⟩, ⟨bool_fin (by rw [hb1] <;> rfl), trivial⟩, ⟨rfl, trivial⟩⟩
        · skip
          refine (Qy)<|(QD 0)<|(Qy) ?_
          refine e_call rfl (Un 58) (numbered_fn t c) rfl rfl ?_
          refine (Qy)<|(Q0)<|(QF)<|Qn ?_
          exact ⟨⟨rfl, rfl, rfl, rfl, trivial⟩, ⟨bool_fin (by rw [hb1] <;> rfl), trivial⟩, ⟨rfl, trivial⟩⟩
      · simp only [catE]
        refine e_cond rfl ?_ ?_
        · intro hc1
          rw [form_eq, if_neg h36, if_pos (by cases hn : numB t.kind t.id t.other; exact .inr rfl; (rw [hn] at hc1; left; intro e; simp [e] at hc1))]
          refine Qs<|Qp<|(Qa)<|Qn<|Qr ?_
          exact ⟨_, rfl, .tmp rfl⟩
        · intro hc1
          rw [form_eq, if_neg h36, if_neg (by cases hn : numB t.kind t.id t.other; (rw [hn] at hc1; simp at hc1); (rw [hn] at hc1; intro h7; have h8 : ((t.args.length : Nat) : Int) = ((wdt t.kind : Nat) : Int) := (by simpa using hc1); rcases h7 with h7 | h7; exact h7 (by omega); cases h7))]
          refine Qk<|Qs<|Qp<|(Qf 3)<|(QV 3 0) ?_
          refine e_call rfl (Un 28) hrec rfl rfl ?_
          refine (Qa)<|Qn<|Qr ?_
          exact ⟨_, rfl, .tmp rfl⟩
end Go.Proofs.YtfldnikepdbgkaaDoor
namespace Go.Proofs.YtfldnikepdbgkaaDoor
open Go Go.RowKit
theorem form_fn {G : Mem} (t : TT) : ∀ (c : Value) (ys : List Value), TL G t.args c ys → Fn Tryd.prog G 39 #[.agg (tC t c)] (ii t.form) := by
  refine TT.ind (p := fun t => ∀ (c : Value) (ys : List Value), TL G t.args c ys → Fn Tryd.prog G 39 #[.agg (tC t c)] (ii t.form)) (fun t ih c ys hT => ?_) t
  exact form_rec t c ys hT (forms_rec t.args c ys hT fun a c ys ha hA => ih a ha c ys hA)
theorem forms_fn {G : Mem} (l : List TT) (c : Value) (xs : List Value) (hT : TL G l c xs) : Fn Tryd.prog G 28 #[c] (ii (formL l)) := forms_rec l c xs hT fun t c ys _ h => form_fn t c ys h
variable {G : Mem}
set_option maxHeartbeats 400000 in
theorem tcheck_fn (t : TT) (c : Value) (xs : List Value) (hT : TL G t.args c xs) : Fn Tryd.prog G 29 #[.agg (tC t c)] (ii (chkT t)) := by
  have hco := shows_oneC hT.2.1
  refine Qf1 Tryd.func29 ?_
  refine Qs<|Qp<|(Qh 0) fun r1=>(Qa)<|Qn<|Qs<|Qs<|Qp<|(QD 0) ?_
  refine e_buildSl 1 (tC t c) (Uu 45 rfl) (Uz 53 rfl) (Ub 53 rfl) (by decide) (by decide) rfl (fill_tC (by kernel_rfl)) rfl fun r2 => ?_
  refine e_callS rfl rfl (Un 27) (seen_cons 1 rfl) (fits_fn (G := ⟨r2, tC t c, 53⟩ :: G) [t] _ _ (tl_one (hT.mono (fun _ h => List.mem_cons_of_mem _ h)) (List.mem_cons_self ..))) rfl rfl ?_
  refine (Q0)<|Qn ?_
  refine e_cond rfl ?_ ?_
  · intro hc0
    rw [show chkT t = 1 by unfold chkT; rw [if_neg (by simpa using hc0)]]
    refine Qs<|Qp<|(Qa)<|Qn<|Qr ?_
    exact ⟨_, rfl, .tmp rfl⟩
  · intro hc0
    rw [show chkT t = t.form by unfold chkT; rw [if_pos (by simpa using hc0)]]
    refine Qk<|Qs<|Qp<|(QD 0) ?_
    refine e_call rfl (Un 39) (form_fn t c xs hT) rfl rfl ?_
    refine (Qa)<|Qn<|Qr ?_
    exact ⟨_, rfl, .tmp rfl⟩
end Go.Proofs.YtfldnikepdbgkaaDoor
namespace Go.Proofs.YtfldnikepdbgkaaDoor
open Go Go.RowKit
variable {G : Mem}
set_option maxHeartbeats 400000 in
theorem tknows_fn (l : List TT) (v : Value) (vs : List Value) (hL : TL G l v vs) (t : TT) (c : Value) (xs : List Value) (hT : TL G t.args c xs) (hf : fitsL l = true) (hg : ∀ x ∈ l, x.form = 0) (ht : chkT t = 0) (b : Bool) (hb : b = true ↔ KN l t) : Fn Tryd.prog G 16 #[v, .agg (tC t c)] (.tuple #[.bool b, ii 0]) := by
  have hco := shows_oneC hT.2.1
  have hn3 : nodesL l ≤ 300 := fits_nodes hf
  refine Qf2 Tryd.func16 ?_
  refine Qs<|Qp<|(Qh 0) fun r1=>(Qa)<|(Qa)<|Qn<|Qs<|Qs<|Qp<|(Qm) ?_
  refine e_call rfl (Un 27) (fits_fn l v vs hL) rfl rfl ?_
  refine e_as (congrArg Value.bool hf) ?_
  refine (Q0)<|Qn<|(Qcf)<|Qk<|Qs<|Qs<|Qp<|(Qm) ?_
  refine e_call rfl (Un 28) (forms_fn l v vs hL) rfl rfl ?_
  refine e_as (congrArg ii (fst1_all hg)) ?_
  refine (Qa)<|Qn<|Qs<|Qp<|(Qm)<|(QN) ?_
  refine e_as (congrArg Value.bool (decide_eq_false (by decide))) ?_
  refine Qn<|(Qcf)<|Qk<|Qs<|Qs<|Qp<|(QD 0) ?_
  refine e_call rfl (Un 29) (tcheck_fn t c xs hT) rfl rfl ?_
  refine e_as (congrArg ii ht) ?_
  refine (Qa)<|Qn<|Qs<|Qp<|(Qm)<|(QN) ?_
  refine e_as (congrArg Value.bool (decide_eq_false (by decide))) ?_
  refine Qn<|(Qcf)<|Qk<|Qs<|Qp<|(Qm)<|(QD 0) ?_
  refine e_call rfl (Un 30) (knows_fn l v vs hL t c xs hT hn3 hg b hb) rfl rfl ?_
  refine (Qa)<|(Qa)<|Qn<|Qr ?_
  exact ⟨_, _, rfl, .tmp rfl, .tmp rfl⟩
end Go.Proofs.YtfldnikepdbgkaaDoor
namespace Go.Proofs.YtfldnikepdbgkaaDoor
open Go Go.RowKit
variable {G : Mem}
set_option maxHeartbeats 4000000 in
theorem hidden_range (base : List Nat) (late : Bool) (vp v0 v1 vt : Value) (tvs : List Value) (ps p0 p1 : List Int) (ts : List (List Int)) (hvp : Shows G 1 vp ps.length (ps.map iv)) (hvt : Shows G 1 vt tvs.length tvs) (hLI : ShowsLI G (v0 :: v1 :: tvs) (p0 :: p1 :: ts)) (hpf : pfault late p0 p1 ts = 0) (h4 : ps.length ≤ 4) (vz : Value) (tn : Int) (hr : tn < 0 ∨ (ts.length : Int) ≤ tn) : Fn Tryd.prog G 8 #[.agg (cells 6 [pV (sv base), pV (.bool late), pV vp, pV v0, pV v1, pV vt]), vz, iv tn] (.tuple #[.bool false, ii 6]) := by
  have hT := li_tail (li_tail hLI)
  have htl : tvs.length = ts.length := hT.1
  have o1 := shows_oneC hvp
  have o2 := shows_oneC (vq_show hLI 0 (by decide))
  have o3 := shows_oneC (vq_show hLI 1 (by decide))
  have o4 := shows_oneC hvt
  obtain ⟨⟨h1, h5⟩, ⟨h60, h61⟩, h6⟩ := pf_sizes hpf
  refine Qf2 Tryd.func8 ?_
  refine Qs<|Qp<|(Qh 0) fun r1=>(Qa)<|(Qa)<|Qn<|Qs<|QR ⟨[], 4, [], none, none⟩<|(QD 0) ?_
  refine e_callD [(0, _)] (by repeat (first | exact bag_nil | exact bag_lab _ | apply bag_skip rfl)) ⟨rfl, trivial⟩ rfl rfl rfl (Un 13) seenG (told_ok base late vp v0 v1 vt tvs ps p0 p1 ts hvp hvt hLI hpf h4) (fun m' => toldD_room 53 h5 h6 m') rfl rfl fun v1_1 nw1_1 hD1_1 => ?_
  simp only [catL]
  obtain ⟨w8, x8, rfl, ht8⟩ := hD1_1
  refine (Qm)<|(Qx)<|(Qx)<|(Qa)<|(Qa)<|Qn<|Qs<|Qs<|Qp<|(Qm)<|(QN) ?_
  refine e_as (congrArg Value.bool (decide_eq_false (by decide))) ?_
  refine Qn<|(Qcf)<|Qk<|Qs<|Qs ?_
  rcases (by omega : tn < 0 ∨ (¬ tn < 0 ∧ (ts.length : Int) ≤ tn)) with h9 | ⟨h9, h8⟩
  · skip
    refine Qp<|(Qm)<|(Ql) ?_
    refine e_as (congrArg Value.bool (decide_eq_true h9)) ?_
    refine (Qm)<|(Qo)<|(Qo)<|(Qo)<|(Qo)<|(Qo)<|(QT)<|(Qm)<|(Qo)<|(Qo)<|(Qo)<|(QT)<|Qn<|(Qct)<|Qs<|Qp<|(Qa)<|(Qa)<|Qn<|Qr ?_
    exact ⟨_, _, rfl, .tmp rfl, .tmp rfl⟩
  · skip
    refine Qp<|(Qm)<|(Ql) ?_
    refine e_as (congrArg Value.bool (decide_eq_false h9)) ?_
    refine (Qm)<|(Qy)<|(Qm)<|(Qy)<|(Qf 5)<|(Qy)<|(QV 5 0)<|(Qy)<|(QC hvt)<|(Qy)<|(QE)<|(Qat)<|(QF)<|(Qm)<|(Qo)<|(Qo)<|(Qo)<|(QT)<|Qn<|(Qct)<|Qs<|Qp<|(Qa)<|(Qa)<|Qn<|Qr ?_
    exact ⟨_, _, rfl, .tmp rfl, .tmp rfl⟩
set_option maxHeartbeats 8000000 in
theorem hidden_ok (base : List Nat) (late : Bool) (vp v0 v1 vt : Value) (tvs : List Value) (ps p0 p1 : List Int) (ts : List (List Int)) (hvp : Shows G 1 vp ps.length (ps.map iv)) (hvt : Shows G 1 vt tvs.length tvs) (hLI : ShowsLI G (v0 :: v1 :: tvs) (p0 :: p1 :: ts)) (hpf : pfault late p0 p1 ts = 0) (h4 : ps.length ≤ 4) (vz : Value) (zs : List Int) (hvz : Shows G 1 vz zs.length (zs.map iv)) (tn : Nat) (htn : tn < ts.length) (hz6 : zs.length ≤ 6) (hz0 : ∀ z ∈ zs, 0 ≤ z) (hfit : fitsL (hidL late ps.length p0 p1 ts zs).flatten = true) (b : Bool) (hb : b = true ↔ KN (hidL late ps.length p0 p1 ts zs).flatten (atomT ((20 + tn : Nat) : Int))) : Fn Tryd.prog G 8 #[.agg (cells 6 [pV (sv base), pV (.bool late), pV vp, pV v0, pV v1, pV vt]), vz, ii tn] (.tuple #[.bool (!b), ii 0]) := by
  have hT := li_tail (li_tail hLI)
  have htl : tvs.length = ts.length := hT.1
  have o1 := shows_oneC hvp
  have o2 := shows_oneC (vq_show hLI 0 (by decide))
  have o3 := shows_oneC (vq_show hLI 1 (by decide))
  have o4 := shows_oneC hvt
  obtain ⟨⟨h1, h5⟩, ⟨h60, h61⟩, h6⟩ := pf_sizes hpf
  have hza : zs.any (fun x => decide (x < 0)) = false := any_neg hz0
  have hel := early_len p0 p1 2
  rw [early_all] at hel
  have hkf := hid_forms (late := late) (np := ps.length) (p0 := p0) (p1 := p1) h5 h6 hz0
  have hkn := len_nodes (hidL late ps.length p0 p1 ts zs).flatten
  have hkm := fits_nodes hfit
  refine Qf2 Tryd.func8 ?_
  refine Qs<|Qp<|(Qh 0) fun r1=>(Qa)<|(Qa)<|Qn<|Qs<|QR ⟨[], 4, [], none, none⟩<|(QD 0) ?_
  refine e_callD [(0, _)] (by repeat (first | exact bag_nil | exact bag_lab _ | apply bag_skip rfl)) ⟨rfl, trivial⟩ rfl rfl rfl (Un 13) seenG (told_ok base late vp v0 v1 vt tvs ps p0 p1 ts hvp hvt hLI hpf h4) (fun m' => toldD_room 53 h5 h6 m') rfl rfl fun v1_1 nw1_1 hD1_1 => ?_
  simp only [catL]
  obtain ⟨w8, x8, rfl, ht8⟩ := hD1_1
  refine (Qm)<|(Qx)<|(Qx)<|(Qa)<|(Qa)<|Qn<|Qs<|Qs<|Qp<|(Qm)<|(QN) ?_
  refine e_as (congrArg Value.bool (decide_eq_false (by decide))) ?_
  refine Qn<|(Qcf)<|Qk<|Qs<|Qs<|Qp<|(Qm)<|(Ql)<|(Qaf)<|(Qm)<|(Qy)<|(Qm)<|(Qy)<|(Qf 5)<|(Qy)<|(QV 5 0)<|(Qy)<|(QC hvt)<|(Qy)<|(QE)<|(Qaf)<|(QF)<|(Qm)<|(Qy)<|(Qm)<|(Qy)<|(QC hvz)<|(Qy)<|(QG)<|(Qaf)<|(QF)<|Qn<|(Qcf)<|Qk<|Qs<|Qs<|Qp<|(Qm) ?_
  refine e_call rfl (Un 14) (cfi_fn vz zs hvz (by omega)) rfl rfl ?_
  refine e_as (congrArg Value.bool hza) ?_
  refine Qn<|(Qcf)<|Qk<|Qs<|QR ⟨[], 4, [], none, none⟩<|(Qm)<|(QD 0) ?_
  refine e_callN 1 (fun v => v) rfl rfl (Un 18) seenG (public_fn base late vp v0 v1 vt tvs ps p0 p1 ts hvp hvt hLI h60 h61) (by simp only [maxLen, List.length_append, List.length_cons, List.length_nil]; omega) (lf_to (G := []) (pubsT p0 p1) (pubs_args p0 p1)).1 rfl rfl fun vP ozP hoP => ?_
  refine (Qm) ?_
  refine e_callN 2 (fun v => v) rfl rfl (Un 19) seenG (atoms_fn vz zs hvz (by omega)) (by rw [List.length_map]; simp only [maxLen]; omega) (lf_to (G := []) (zs.map atomT) (atoms_args zs)).1 rfl rfl fun vA ozA hoA => ?_
  refine e_buildSl 3 [w8, vP, vA].toArray (Uu 66 rfl) (Uz 45 rfl) (Ub 45 rfl) (by decide) (by decide) rfl (fill_ones [w8, vP, vA] 0 _ (by intro v hv; simp only [List.mem_cons, List.not_mem_nil, or_false] at hv; rcases hv with rfl | rfl | rfl; exact shows_one ht8.2.1; exact shows_one (OwnS.shows hoP); exact shows_one (OwnS.shows hoA)) (by simp)) rfl fun r4 => ?_
  refine e_callN 4 (fun v => v) rfl rfl (Un 17) (seen_app (A := [_]) (seen1 3 rfl ⟨[], trivial⟩) (seen_app (seenM 1 rfl ⟨[], trivial⟩) (seen_app (seenM 2 rfl ⟨[], trivial⟩) (seen_bag (by repeat (first | exact bag_nil | exact bag_lab _ | apply bag_skip rfl)) rfl)))) (concatt_fn (G := (⟨r4, [w8, vP, vA].toArray, 45⟩ :: (ozP.toList ++ (ozA.toList ++ ([] ++ nw1_1))))) (.slice (some ⟨r4, 0, none⟩) 3 3) [w8, vP, vA] (hidL late ps.length p0 p1 ts zs) (fun i => if i = 0 then x8 else if i = 1 then lfC (pubsT p0 p1) else lfC (zs.map atomT)) ((shows_new [w8, vP, vA].toArray 45 rfl).mono (fun x hx => by rw [List.mem_singleton.1 hx]; exact List.mem_cons_self ..)) rfl (hid_lists (ht8.mono (fun x hx => by simp only [List.mem_cons, List.mem_append] at hx ⊢; simp [hx])) hoP hoA (fun x hx => by simp only [List.mem_cons, List.mem_append] at hx ⊢; simp [hx]) (fun x hx => by simp only [List.mem_cons, List.mem_append] at hx ⊢; simp [hx]) (by omega)) (by simp) (by omega)) (by simp only [maxLen]; omega) (hid_to ht8).1 rfl rfl fun vC ozC hoC => ?_
  refine (Qm) ?_
  refine e_add_i (p := 20) rfl rfl rfl (by omega) ?_
  refine e_call rfl (Un 20) (tatom_fn ((20 + tn : Nat) : Int)) rfl rfl ?_
  refine e_callS rfl rfl (Un 16) (seen_app (seenM 4 rfl ⟨[], trivial⟩) (seen_bag (by repeat (first | exact bag_nil | exact bag_lab _ | apply bag_skip rfl)) rfl)) (tknows_fn (G := Option.toList ozC ++ ([] ++ nw1_1)) (hidL late ps.length p0 p1 ts zs).flatten _ _ ((hid_to ht8).tl (own_fix hoC rfl rfl) (by simp only [maxLen]; omega)) (atomT ((20 + tn : Nat) : Int)) nilS [] tl_nil hfit hkf (atom_chk (by omega)) b hb) rfl rfl ?_
  refine (Qm)<|(Qx)<|(Qx)<|(Qa)<|(Qa)<|Qn<|Qs<|Qp<|(Qm)<|(Qc)<|(Qar)<|(Qm)<|(Qy)<|(Qm)<|(Qy)<|(Q0)<|(QT)<|(Qm)<|(Qa)<|(Qa)<|Qn<|Qr ?_
  exact ⟨_, _, rfl, .tmp rfl, .tmp rfl⟩
end Go.Proofs.YtfldnikepdbgkaaDoor
namespace Go.Proofs.YtfldnikepdbgkaaDoor
open Go Go.RowKit
variable {G : Mem}
set_option maxHeartbeats 4000000 in
theorem secrets_fn (k : Nat) (hk : k < 64) : Fx Tryd.prog G [] 7 #[ii k] (fun v l1 nw => l1 = [] ∧ ∃ v', v = v' ∧ OwnS 3 1 v' (secL k).length ((secL k).map iv) nw) := by
  refine QfN Tryd.func7 ?_
  refine Qs<|Qp<|(Qa)<|Qn<|Qs<|Qp<|(Qa)<|Qn<|Qs<|Qs<|Qp ?_
  refine e_buildSl 0 ([1, 2, 3, 4, 10, 11].map fun n : Nat => ii n).toArray (Uu 22 rfl) (Uz 3 rfl) (Ub 3 rfl) (by decide) (by decide) rfl (by kernel_rfl) rfl fun r1 => ?_
  refine (QC (shows_new (z := 1) (len := 6) ([1, 2, 3, 4, 10, 11].map fun n : Nat => ii n).toArray 3 (by rfl)))<|(Qm)<|Qn<|Qb ?_
  refine QzK [(0, _), (2, _), (6, _), (7, _)] [(0, _)] (fun kk E m => ∃ (i : Nat) (w : Value) (oz : Option Blk), kk = 6 - i ∧ E = [(3, w), (8, ii i)] ∧ m = [(50, oz)] ∧ (i ≤ 6) ∧ (OwnS 3 1 w (secU k i).length ((secU k i).map iv) (Option.toList oz))) ⟨0, nilS, none, rfl, rfl, rfl, by omega, (own_nil _ _)⟩ ⟨rfl, rfl, rfl, rfl, rfl, rfl, trivial⟩ ⟨rfl, rfl, trivial⟩ ?_
  rintro kk E m ⟨i, w, oz, rfl, rfl, rfl, hf0_0, hf0_1⟩
  simp only [catE, catL]
  have hul := secU_len k i
  have hdv : k / 2 ^ i < 64 := Nat.lt_of_le_of_lt (Nat.div_le_self _ _) hk
  refine Qs<|Qp<|(Ql)<|Qn<|Qs ?_
  refine e_cond rfl ?_ ?_
  · intro hc0
    have hc0 : i < 6 := by have := of_decide_eq_true hc0; omega
    refine Qk<|Qs<|Qb<|Qs<|Qp<|(Qm) ?_
    refine e_atV (shows_new (z := 1) (len := 6) ([1, 2, 3, 4, 10, 11].map fun n : Nat => ii n).toArray 3 (by rfl)) (Uu 22) (Uz 3) rfl rfl (by omega) rfl ?_
    refine (QS) ?_
    refine e_loadV (shows_new (z := 1) (len := 6) ([1, 2, 3, 4, 10, 11].map fun n : Nat => ii n).toArray 3 (by rfl)) (seen1 0 rfl ⟨[], trivial⟩) (Uu 3) rfl rfl (sec_at (by omega)) rfl ?_
    refine (Qa)<|(Qa)<|Qn<|Qs<|Qp<|(Qm)<|(Qm) ?_
    refine e_shr_i rfl rfl rfl (by omega) ?_
    refine e_and64 hdv rfl rfl rfl ?_
    refine (Qc)<|Qn ?_
    refine e_cond rfl ?_ ?_
    · intro hc1
      have hc1 : k / 2 ^ i % 2 = 1 := by have := of_decide_eq_true hc1; omega
      refine Qp<|(Qm)<|(Qm) ?_
      refine e_buildSl 1 #[ii (secN i)] (Uu 22 rfl) (Uz 3 rfl) (Ub 3 rfl) (by decide) (by decide) rfl (by kernel_rfl) rfl fun r2 => ?_
      refine e_append 50 hf0_1 (shows_new _ _ (by rfl)) rfl (seen1 1 rfl ⟨[], trivial⟩) (Uu 22) (Uz 3) (Uy 3) (Ub 3) (by rfl) rfl rfl (one_ii (secN i)) (by simp only [maxLen]; omega) (by omega) rfl fun v3_1 oz3_1 ho3_1 => ?_
      refine (Qa)<|Qn ?_
      have hown9 := ho3_1
      refine Qp<|(Q2 1)<|(Qm)<|Qn ?_
      refine QzL ⟨i + 1, _, _, rfl, rfl, rfl, by omega, (by first | exact own_fix hown9 (by rw [secU_yes hc1, List.length_append]; rfl) (by rw [secU_yes hc1, List.map_append]; rfl) | exact own_fix hf0_1 (by rw [secU_no hc1]) (by rw [secU_no hc1]))⟩ ⟨rfl, rfl, rfl, rfl, rfl, rfl, trivial⟩ ⟨rfl, rfl, trivial⟩ ?_
      omega
    · intro hc1
      have hc1 : ¬ k / 2 ^ i % 2 = 1 := by have := of_decide_eq_false hc1; omega
      refine Qk<|Qp<|(Q2 1)<|(Qm)<|Qn ?_
      refine QzL ⟨i + 1, _, _, rfl, rfl, rfl, by omega, (by first | exact own_fix hown9 (by rw [secU_yes hc1, List.length_append]; rfl) (by rw [secU_yes hc1, List.map_append]; rfl) | exact own_fix hf0_1 (by rw [secU_no hc1]) (by rw [secU_no hc1]))⟩ ⟨rfl, rfl, rfl, rfl, rfl, rfl, trivial⟩ ⟨rfl, rfl, trivial⟩ ?_
      omega
  · intro hc0
    have hc0 := of_decide_eq_false hc0
    have hz0 : i = 6 := by omega
    refine Qe<|Qs<|Qp<|(Qm)<|(Qa)<|Qn<|Qr ?_
    exact ⟨_, _, _, 50, rfl, .tmp rfl, (own_fix hf0_1 (by rw [hz0]) (by rw [hz0])), rfl⟩
set_option maxHeartbeats 400000 in
theorem holds_fn (v : Value) (l : List Int) (hv : Shows G 1 v l.length (l.map iv)) (n : Int) (hn : l.length ≤ 1000000) : Fn Tryd.prog G 10 #[v, iv n] (.bool (decide (n ∈ l))) := by
  rw [← any_is]
  refine Qf1 Tryd.func10 ?_
  refine Qs<|Qp<|(Qa)<|Qn<|Qs<|Qs<|Qp<|(Qm)<|(QC hv)<|(Qm)<|Qn<|Qb ?_
  refine QzK [(1, _), (7, _), (8, _)] [] (fun kk E m => ∃ (i : Nat), kk = l.length - i ∧ E = [(9, ii i)] ∧ m = [] ∧ (i ≤ l.length) ∧ (∀ j, j < i → (fun x => decide (x = n)) (l.getD j 0) = false)) ⟨0, rfl, rfl, rfl, by omega, fun _ h => absurd h (Nat.not_lt_zero _)⟩ ⟨rfl, rfl, rfl, rfl, trivial⟩ trivial ?_
  rintro kk E m ⟨i, rfl, rfl, rfl, hf0_0, hf0_1⟩
  simp only [catE, catL]
  refine Qs<|Qp<|(Ql)<|Qn<|Qs ?_
  refine e_cond rfl ?_ ?_
  · intro hc0
    have hc0 : i < l.length := by have := of_decide_eq_true hc0; omega
    refine Qk<|Qs<|Qb<|Qs<|Qp ?_
    refine e_atV hv (Uu 22) (Uz 3) rfl rfl (by omega) rfl ?_
    refine (QS) ?_
    refine e_loadV hv seenG (Uu 3) rfl rfl (iv_at (by omega)) rfl ?_
    refine (Qa)<|Qn<|Qs<|Qp<|(Qm)<|(Qm)<|(Qc)<|Qn ?_
    refine e_cond rfl ?_ ?_
    · intro hc1
      rw [any_anyI (p := fun x => decide (x = n)) (i := i) (by assumption) (by exact hc1)]
      refine Qs<|Qp<|(Qa)<|Qn<|Qr ?_
      first | rw [any_noneI (p := fun x => decide (x = n)) (fun j h => hf0_1 j (by omega))] | skip
      exact ⟨_, rfl, .tmp rfl⟩
    · intro hc1
      have hz9 := hc1
      refine Qk<|Qp<|(Q2 1)<|(Qm)<|Qn ?_
      refine QzL ⟨i + 1, rfl, rfl, rfl, by omega, fun j hj => by by_cases e : j = i; (subst e; exact hz9); exact hf0_1 j (by omega)⟩ ⟨rfl, rfl, rfl, rfl, trivial⟩ trivial ?_
      omega
  · intro hc0
    have hc0 := of_decide_eq_false hc0
    have hz0 : i = l.length := by omega
    refine Qe<|Qs<|Qp<|(Qa)<|Qn<|Qr ?_
    first | rw [any_noneI (p := fun x => decide (x = n)) (fun j h => hf0_1 j (by omega))] | skip
    exact ⟨_, rfl, .tmp rfl⟩
end Go.Proofs.YtfldnikepdbgkaaDoor
namespace Go.Proofs.YtfldnikepdbgkaaDoor
open Go Go.RowKit
variable {G : Mem}
set_option maxHeartbeats 16000000 in
theorem mixed_fn (base : List Nat) (late : Bool) (vp v0 v1 vt : Value) (tvs : List Value) (ps p0 p1 : List Int) (ts : List (List Int)) (hvp : Shows G 1 vp ps.length (ps.map iv)) (hvt : Shows G 1 vt tvs.length tvs) (hLI : ShowsLI G (v0 :: v1 :: tvs) (p0 :: p1 :: ts)) (h5 : ts.length ≤ 5) (h6 : ∀ i, i < ts.length → (ts.getD i []).length ≤ 6) (n : Nat) (hn : n < ts.length) : Fx Tryd.prog G [] 9 #[.agg (cells 6 [pV (sv base), pV (.bool late), pV vp, pV v0, pV v1, pV vt]), ii n] (fun v l1 nw => l1 = [] ∧ MixD (toksTo ts (n + 1)) v nw) := by
  have hT := li_tail (li_tail hLI)
  have htl : tvs.length = ts.length := hT.1
  have o1 := shows_oneC hvp
  have o2 := shows_oneC (vq_show hLI 0 (by decide))
  have o3 := shows_oneC (vq_show hLI 1 (by decide))
  have o4 := shows_oneC hvt
  have htk := show_take hvt (show n + 1 ≤ tvs.length by omega)
  refine fxDV (n := 65) Tryd.func9 rfl rfl (by simp) (argE [.agg (cells 6 [pV (sv base), pV (.bool late), pV vp, pV v0, pV v1, pV vt]), ii n] 0) (argE_ok _) ?_
  refine Qs<|Qp<|(Qh 0) fun r1=>(Qa)<|(Qa)<|Qn<|Qs<|Qp<|(Qa)<|Qn<|Qs<|Qp<|(Qa)<|Qn<|Qs<|Qs<|Qp<|(Qf 5)<|(QV 5 0)<|(Qm)<|(Q2 1) ?_
  refine e_sliceV 0 (n + 1) hvt (Uu 24) (Uz 22) rfl rfl rfl rfl ⟨_, rfl⟩ (by omega) (by omega) rfl ?_
  refine (QC htk)<|(Qm)<|Qn<|Qb ?_
  refine QzK [(4, _), (5, _), (16, _), (17, _)] [(0, _)] (fun kk E m => ∃ (a : Nat) (w1 : Value) (o1_ : Option Blk) (w2 : Value) (o2_ : Option Blk), kk = (n + 1) - a ∧ E = [(6, w1), (7, w2), (18, ii a)] ∧ m = [(50, o1_), (51, o2_)] ∧ (a ≤ (n + 1)) ∧ (OwnS 37 2 w1 (prsOf (toksTo ts a)).length (prC (prsOf (toksTo ts a))) (Option.toList o1_)) ∧ (OwnS 3 1 w2 (sngOf (toksTo ts a)).length (sgC (sngOf (toksTo ts a))) (Option.toList o2_))) ⟨0, nilS, none, nilS, none, rfl, rfl, rfl, by omega, (own_nil _ _), (own_nil _ _)⟩ ⟨rfl, rfl, rfl, rfl, rfl, rfl, rfl, trivial⟩ ⟨rfl, rfl, rfl, trivial⟩ ?_
  rintro kk E m ⟨a, w1, o1_, w2, o2_, rfl, rfl, rfl, hf0_0, hf0_1, hf0_2⟩
  simp only [catE, catL]
  refine Qs<|Qp<|(Ql)<|Qn<|Qs ?_
  refine e_cond rfl ?_ ?_
  · intro hc0
    have hc0 : a < (n + 1) := by have := of_decide_eq_true hc0; omega
    refine Qk<|Qs<|Qb<|Qs<|Qp ?_
    refine e_atV htk (Uu 24) (Uz 22) rfl rfl (by omega) rfl ?_
    refine (QS) ?_
    refine e_loadV htk seenG (Uu 22) rfl rfl (take_getD (by omega) (by omega)) rfl ?_
    refine (Qa)<|Qn<|Qs<|Qp<|(Qm)<|(QC (hT.2 a (by omega)))<|(Qm)<|Qn<|Qb ?_
    refine QzK [(4, _), (5, _), (16, _), (17, _), (18, _), (22, _), (23, _)] [(0, _)] (fun kk E m => ∃ (b : Nat) (u1 : Value) (p1_ : Option Blk) (u2 : Value) (p2_ : Option Blk), kk = (ts.getD a []).length - b ∧ E = [(6, u1), (7, u2), (24, ii b)] ∧ m = [(50, p1_), (51, p2_)] ∧ (b ≤ (ts.getD a []).length) ∧ (OwnS 37 2 u1 (prsOf (toksTo ts a ++ (ts.getD a []).take b)).length (prC (prsOf (toksTo ts a ++ (ts.getD a []).take b))) (Option.toList p1_)) ∧ (OwnS 3 1 u2 (sngOf (toksTo ts a ++ (ts.getD a []).take b)).length (sgC (sngOf (toksTo ts a ++ (ts.getD a []).take b))) (Option.toList p2_))) ⟨0, w1, o1_, w2, o2_, rfl, rfl, rfl, by omega, (own_fix hf0_1 (by simp) (by simp)), (own_fix hf0_2 (by simp) (by simp))⟩ ⟨rfl, rfl, rfl, rfl, rfl, rfl, rfl, rfl, rfl, rfl, trivial⟩ ⟨rfl, rfl, rfl, trivial⟩ ?_
    rintro kk E m ⟨b, u1, p1_, u2, p2_, rfl, rfl, rfl, hf1_0, hf1_1, hf1_2⟩
    simp only [catE, catL]
    have htl6 : (toksTo ts a ++ (ts.getD a []).take b).length ≤ 36 := by have := tokl_le h6 a (by omega); have := h6 a (by omega); rw [List.length_append, List.length_take]; omega
    have hpl := Nat.le_trans (prs_len (toksTo ts a ++ (ts.getD a []).take b)) htl6
    have hsl : (sngOf (toksTo ts a ++ (ts.getD a []).take b)).length ≤ 36 := by rw [sng_len]; exact Nat.le_trans (cnt_len _) htl6
    have h6a := h6 a (by omega)
    have hcn := Nat.le_trans (cnt_len (toksTo ts a ++ (ts.getD a []).take b)) htl6
    refine Qs<|Qp<|(Ql)<|Qn<|Qs ?_
    refine e_cond rfl ?_ ?_
    · intro hc1
      have hc1 : b < (ts.getD a []).length := by have := of_decide_eq_true hc1; omega
      refine Qk<|Qs<|Qb<|Qs<|Qp ?_
      refine e_atV (hT.2 a (by omega)) (Uu 22) (Uz 3) rfl rfl (by omega) rfl ?_
      refine (QS) ?_
      refine e_loadV (hT.2 a (by omega)) seenG (Uu 3) rfl rfl (iv_at (by omega)) rfl ?_
      refine (Qa)<|Qn<|Qs<|Qp<|(Qm)<|Qn<|Qb<|Qs<|Qp<|(Qc)<|(Qa)<|Qn ?_
      refine e_cond rfl ?_ ?_
      · intro hc2
        have k3 := of_decide_eq_true hc2
        have hpk := pair3 k3
        have hk7 : ¬ ((ts.getD a []).getD b 0) = 7 := by omega
        refine Qp<|(Qm) ?_
        refine e_build (arr .i64 2 (prF 3 4)) (Ub 37 rfl) (Uu 37 rfl) (Uz 3 rfl) rfl (by kernel_rfl) rfl ?_
        refine e_buildSl 1 (arr .i64 2 (prF 3 4)) (Uu 34 rfl) (Uz 37 rfl) (Ub 37 rfl) (by decide) (by decide) rfl (by kernel_rfl) rfl fun r2 => ?_
        refine e_append 50 hf1_1 (shows_new _ _ (by rfl)) rfl (seen1 1 rfl ⟨[], trivial⟩) (Uu 34) (Uz 37) (Uy 37) (Ub 37) (by rfl) rfl rfl (pr_ones) (by simp only [maxLen]; omega) (by omega) rfl fun v4_1 oz4_1 ho4_1 => ?_
        refine (Qa)<|Qn ?_
        have hp9 := ho4_1
        refine Qp<|(Q2 1)<|(Qm)<|Qn ?_
        refine QzL ⟨b + 1, _, _, _, _, rfl, rfl, rfl, by omega, (by rw [toks_b (by omega)]; first | exact own_fix hp9 (by rw [prs_snoc, hpk, List.length_append]; rfl) (by rw [prs_snoc, hpk, prC_snoc] <;> rfl) | exact own_fix hf1_1 (by rw [prs_snoc, hpk, List.append_nil]) (by rw [prs_snoc, hpk, List.append_nil])), (by rw [toks_b (by omega)]; first | exact own_fix hs9 (by rw [sng_snoc, if_pos hk7, List.length_append]; rfl) (by rw [sng_snoc, if_pos hk7, sgC_snoc] <;> rfl) | exact own_fix hf1_2 (by rw [sng_snoc, if_neg hk7, List.append_nil]) (by rw [sng_snoc, if_neg hk7, List.append_nil]))⟩ ⟨rfl, rfl, rfl, rfl, rfl, rfl, rfl, rfl, rfl, rfl, trivial⟩ ⟨rfl, rfl, rfl, trivial⟩ ?_
        omega
      · intro hc2
        have k3 := of_decide_eq_false hc2
        refine Qs<|Qp<|(Qc)<|(Qa)<|Qn ?_
        refine e_cond rfl ?_ ?_
        · intro hc3
          have k4 := of_decide_eq_true hc3
          have hpk := pair4 k4
          have hk7 : ¬ ((ts.getD a []).getD b 0) = 7 := by omega
          refine Qp<|(Qm) ?_
          refine e_build (arr .i64 2 (prF 3 2)) (Ub 37 rfl) (Uu 37 rfl) (Uz 3 rfl) rfl (by kernel_rfl) rfl ?_
          refine e_buildSl 1 (arr .i64 2 (prF 3 2)) (Uu 34 rfl) (Uz 37 rfl) (Ub 37 rfl) (by decide) (by decide) rfl (by kernel_rfl) rfl fun r2 => ?_
          refine e_append 50 hf1_1 (shows_new _ _ (by rfl)) rfl (seen1 1 rfl ⟨[], trivial⟩) (Uu 34) (Uz 37) (Uy 37) (Ub 37) (by rfl) rfl rfl (pr_ones) (by simp only [maxLen]; omega) (by omega) rfl fun v5_1 oz5_1 ho5_1 => ?_
          refine (Qa)<|Qn ?_
          have hp9 := ho5_1
          refine Qp<|(Q2 1)<|(Qm)<|Qn ?_
          refine QzL ⟨b + 1, _, _, _, _, rfl, rfl, rfl, by omega, (by rw [toks_b (by omega)]; first | exact own_fix hp9 (by rw [prs_snoc, hpk, List.length_append]; rfl) (by rw [prs_snoc, hpk, prC_snoc] <;> rfl) | exact own_fix hf1_1 (by rw [prs_snoc, hpk, List.append_nil]) (by rw [prs_snoc, hpk, List.append_nil])), (by rw [toks_b (by omega)]; first | exact own_fix hs9 (by rw [sng_snoc, if_pos hk7, List.length_append]; rfl) (by rw [sng_snoc, if_pos hk7, sgC_snoc] <;> rfl) | exact own_fix hf1_2 (by rw [sng_snoc, if_neg hk7, List.append_nil]) (by rw [sng_snoc, if_neg hk7, List.append_nil]))⟩ ⟨rfl, rfl, rfl, rfl, rfl, rfl, rfl, rfl, rfl, rfl, trivial⟩ ⟨rfl, rfl, rfl, trivial⟩ ?_
          omega
        · intro hc3
          have k4 := of_decide_eq_false hc3
          refine Qs<|Qp<|(Qc)<|(Qa)<|Qn ?_
          refine e_cond rfl ?_ ?_
          · intro hc4
            have k5 := of_decide_eq_true hc4
            have hpk := pair5 k5
            have hk7 : ¬ ((ts.getD a []).getD b 0) = 7 := by omega
            refine Qp<|(Qm) ?_
            refine e_build (arr .i64 2 (prF 1 4)) (Ub 37 rfl) (Uu 37 rfl) (Uz 3 rfl) rfl (by kernel_rfl) rfl ?_
            refine e_buildSl 1 (arr .i64 2 (prF 1 4)) (Uu 34 rfl) (Uz 37 rfl) (Ub 37 rfl) (by decide) (by decide) rfl (by kernel_rfl) rfl fun r2 => ?_
            refine e_append 50 hf1_1 (shows_new _ _ (by rfl)) rfl (seen1 1 rfl ⟨[], trivial⟩) (Uu 34) (Uz 37) (Uy 37) (Ub 37) (by rfl) rfl rfl (pr_ones) (by simp only [maxLen]; omega) (by omega) rfl fun v6_1 oz6_1 ho6_1 => ?_
            refine (Qa)<|Qn ?_
            have hp9 := ho6_1
            refine Qp<|(Q2 1)<|(Qm)<|Qn ?_
            refine QzL ⟨b + 1, _, _, _, _, rfl, rfl, rfl, by omega, (by rw [toks_b (by omega)]; first | exact own_fix hp9 (by rw [prs_snoc, hpk, List.length_append]; rfl) (by rw [prs_snoc, hpk, prC_snoc] <;> rfl) | exact own_fix hf1_1 (by rw [prs_snoc, hpk, List.append_nil]) (by rw [prs_snoc, hpk, List.append_nil])), (by rw [toks_b (by omega)]; first | exact own_fix hs9 (by rw [sng_snoc, if_pos hk7, List.length_append]; rfl) (by rw [sng_snoc, if_pos hk7, sgC_snoc] <;> rfl) | exact own_fix hf1_2 (by rw [sng_snoc, if_neg hk7, List.append_nil]) (by rw [sng_snoc, if_neg hk7, List.append_nil]))⟩ ⟨rfl, rfl, rfl, rfl, rfl, rfl, rfl, rfl, rfl, rfl, trivial⟩ ⟨rfl, rfl, rfl, trivial⟩ ?_
            omega
          · intro hc4
            have k5 := of_decide_eq_false hc4
            refine Qs<|Qp<|(Qc)<|(Qa)<|Qn ?_
            refine e_cond rfl ?_ ?_
            · intro hc5
              have k6 := of_decide_eq_true hc5
              have hpk := pair6 k6
              have hk7 : ¬ ((ts.getD a []).getD b 0) = 7 := by omega
              refine Qp<|(Qm) ?_
              refine e_build (arr .i64 2 (prF 1 2)) (Ub 37 rfl) (Uu 37 rfl) (Uz 3 rfl) rfl (by kernel_rfl) rfl ?_
              refine e_buildSl 1 (arr .i64 2 (prF 1 2)) (Uu 34 rfl) (Uz 37 rfl) (Ub 37 rfl) (by decide) (by decide) rfl (by kernel_rfl) rfl fun r2 => ?_
              refine e_append 50 hf1_1 (shows_new _ _ (by rfl)) rfl (seen1 1 rfl ⟨[], trivial⟩) (Uu 34) (Uz 37) (Uy 37) (Ub 37) (by rfl) rfl rfl (pr_ones) (by simp only [maxLen]; omega) (by omega) rfl fun v7_1 oz7_1 ho7_1 => ?_
              refine (Qa)<|Qn ?_
              have hp9 := ho7_1
              refine Qp<|(Q2 1)<|(Qm)<|Qn ?_
              refine QzL ⟨b + 1, _, _, _, _, rfl, rfl, rfl, by omega, (by rw [toks_b (by omega)]; first | exact own_fix hp9 (by rw [prs_snoc, hpk, List.length_append]; rfl) (by rw [prs_snoc, hpk, prC_snoc] <;> rfl) | exact own_fix hf1_1 (by rw [prs_snoc, hpk, List.append_nil]) (by rw [prs_snoc, hpk, List.append_nil])), (by rw [toks_b (by omega)]; first | exact own_fix hs9 (by rw [sng_snoc, if_pos hk7, List.length_append]; rfl) (by rw [sng_snoc, if_pos hk7, sgC_snoc] <;> rfl) | exact own_fix hf1_2 (by rw [sng_snoc, if_neg hk7, List.append_nil]) (by rw [sng_snoc, if_neg hk7, List.append_nil]))⟩ ⟨rfl, rfl, rfl, rfl, rfl, rfl, rfl, rfl, rfl, rfl, trivial⟩ ⟨rfl, rfl, rfl, trivial⟩ ?_
              omega
            · intro hc5
              have k6 := of_decide_eq_false hc5
              refine Qs<|Qp<|(Qc)<|(Qa)<|Qn ?_
              refine e_cond rfl ?_ ?_
              · intro hc6
                have hk7 := of_decide_eq_true hc6
                have hpk := pair_no k3 k4 k5 k6
                refine Qp<|(Qm)<|(Qm)<|(QC hf1_2.shows) ?_
                refine e_as (congrArg ii (sng_len _)) ?_
                refine e_add_i (p := 10) rfl rfl rfl (by omega) ?_
                refine e_buildSl 1 #[ii (10 + cnt7 (toksTo ts a ++ (ts.getD a []).take b))] (Uu 22 rfl) (Uz 3 rfl) (Ub 3 rfl) (by decide) (by decide) rfl (by kernel_rfl) rfl fun r2 => ?_
                refine e_append 51 hf1_2 (shows_new _ _ (by rfl)) rfl (seen1 1 rfl ⟨[], trivial⟩) (Uu 22) (Uz 3) (Uy 3) (Ub 3) (by rfl) rfl rfl (one_ii _) (by simp only [maxLen]; omega) (by omega) rfl fun v8_1 oz8_1 ho8_1 => ?_
                refine (Qa)<|Qn ?_
                have hs9 := ho8_1
                refine Qp<|(Q2 1)<|(Qm)<|Qn ?_
                refine QzL ⟨b + 1, _, _, _, _, rfl, rfl, rfl, by omega, (by rw [toks_b (by omega)]; first | exact own_fix hp9 (by rw [prs_snoc, hpk, List.length_append]; rfl) (by rw [prs_snoc, hpk, prC_snoc] <;> rfl) | exact own_fix hf1_1 (by rw [prs_snoc, hpk, List.append_nil]) (by rw [prs_snoc, hpk, List.append_nil])), (by rw [toks_b (by omega)]; first | exact own_fix hs9 (by rw [sng_snoc, if_pos hk7, List.length_append]; rfl) (by rw [sng_snoc, if_pos hk7, sgC_snoc] <;> rfl) | exact own_fix hf1_2 (by rw [sng_snoc, if_neg hk7, List.append_nil]) (by rw [sng_snoc, if_neg hk7, List.append_nil]))⟩ ⟨rfl, rfl, rfl, rfl, rfl, rfl, rfl, rfl, rfl, rfl, trivial⟩ ⟨rfl, rfl, rfl, trivial⟩ ?_
                omega
              · intro hc6
                have hk7 := of_decide_eq_false hc6
                have hpk := pair_no k3 k4 k5 k6
                refine Qk<|Qp<|(Q2 1)<|(Qm)<|Qn ?_
                refine QzL ⟨b + 1, _, _, _, _, rfl, rfl, rfl, by omega, (by rw [toks_b (by omega)]; first | exact own_fix hp9 (by rw [prs_snoc, hpk, List.length_append]; rfl) (by rw [prs_snoc, hpk, prC_snoc] <;> rfl) | exact own_fix hf1_1 (by rw [prs_snoc, hpk, List.append_nil]) (by rw [prs_snoc, hpk, List.append_nil])), (by rw [toks_b (by omega)]; first | exact own_fix hs9 (by rw [sng_snoc, if_pos hk7, List.length_append]; rfl) (by rw [sng_snoc, if_pos hk7, sgC_snoc] <;> rfl) | exact own_fix hf1_2 (by rw [sng_snoc, if_neg hk7, List.append_nil]) (by rw [sng_snoc, if_neg hk7, List.append_nil]))⟩ ⟨rfl, rfl, rfl, rfl, rfl, rfl, rfl, rfl, rfl, rfl, trivial⟩ ⟨rfl, rfl, rfl, trivial⟩ ?_
                omega
    · intro hc1
      have hc1 := of_decide_eq_false hc1
      have hz1 : b = (ts.getD a []).length := by omega
      refine Qe<|Qp<|(Q2 1)<|(Qm)<|Qn ?_
      refine QzL ⟨a + 1, _, _, _, _, rfl, rfl, rfl, by omega, (own_fix hf1_1 (by rw [toks_a (by omega) hz1]) (by rw [toks_a (by omega) hz1])), (own_fix hf1_2 (by rw [toks_a (by omega) hz1]) (by rw [toks_a (by omega) hz1]))⟩ ⟨rfl, rfl, rfl, rfl, rfl, rfl, rfl, trivial⟩ ⟨rfl, rfl, rfl, trivial⟩ ?_
      omega
  · intro hc0
    have hc0 := of_decide_eq_false hc0
    have hz0 : a = (n + 1) := by omega
    refine Qe<|Qs<|Qp<|(Qm) ?_
    refine e_freeze 50 [(0, _), (51, _)] rfl rfl (by repeat (first | exact bag_nil | exact bag_lab _ | apply bag_skip rfl)) ⟨rfl, rfl, trivial⟩ rfl rfl ?_
    simp only [catL]
    refine e_freeze 51 [(0, _)] rfl rfl (by repeat (first | exact bag_nil | exact bag_lab _ | apply bag_skip rfl)) ⟨rfl, trivial⟩ rfl rfl ?_
    simp only [catL]
    refine (Qm)<|(Qa)<|(Qa)<|Qn<|Qr ?_
    exact ⟨_, _, _, _, (([] ++ o1_.toList) ++ o2_.toList), rfl, .tmp rfl, .tmp rfl, ⟨_, _, rfl, (by rw [← hz0]; exact hf0_1.shows.mono (fun z hz => by simp [hz])), (by rw [← hz0]; exact hf0_2.shows.mono (fun z hz => by simp [hz]))⟩, (by repeat (first | exact bag_nil | exact bag_lab _ | apply bag_skip rfl))⟩
end Go.Proofs.YtfldnikepdbgkaaDoor
namespace Go.Proofs.YtfldnikepdbgkaaDoor
open Go Go.RowKit
variable {G : Mem}
set_option maxHeartbeats 400000 in
theorem picked_fn (z : Int) (m : Nat) (hm : 0 < m) (hm2 : m < 4294967296) : Fn Tryd.prog G 6 #[.int .i64 z, ii m] (ii (pkn z m)) := by
  have htm := tmod_bd z hm
  refine Qf1 Tryd.func6 ?_
  refine Qs<|Qp<|(Qa)<|Qn<|Qs<|Qp<|(Qm)<|(Qm) ?_
  refine e_rem_z rfl rfl rfl (by omega) ?_
  refine (Qa)<|Qn<|Qs<|Qs<|Qp<|(Qm)<|(Ql)<|Qn ?_
  refine e_cond rfl ?_ ?_
  · intro hc0
    have hc0 := of_decide_eq_true hc0
    refine Qp<|(Qm)<|(Qm) ?_
    refine e_add_z rfl rfl rfl (by omega) (by omega) ?_
    refine e_as (congrArg (Value.int .i64) (pkn_neg hm hc0)) ?_
    refine (Qa)<|Qn<|Qs<|Qp<|(Qm)<|(Qa)<|Qn<|Qr ?_
    exact ⟨_, rfl, .tmp rfl⟩
  · intro hc0
    have hc0 := of_decide_eq_false hc0
    rw [ii, ← pkn_pos hm hc0]
    refine Qk<|Qs<|Qp<|(Qm)<|(Qa)<|Qn<|Qr ?_
    exact ⟨_, rfl, .tmp rfl⟩
end Go.Proofs.YtfldnikepdbgkaaDoor
