import Derived.Test.YtfldnikepdbgkaaKt6
namespace Go.Proofs.Ytfldnikepdbgkaa
open Go Go.RowKit
theorem chk_all {G : Mem} (base : List Nat) (late : Bool) (vp v0 v1 vt : Value) (tvs : List Value) (p0 p1 : List Int) (ts : List (List Int)) (hvt : Shows G 1 vt tvs.length tvs) (hLI : ShowsLI G (v0 :: v1 :: tvs) (p0 :: p1 :: ts)) : Fn Try.prog G 10 #[.agg (cells 6 [pV (sv base), pV (.bool late), pV vp, pV v0, pV v1, pV vt])] (ii (pfault late p0 p1 ts)) := by
  by_cases h0 : ts.length = 0 ∨ 5 < ts.length
  · rw [pfault, if_pos h0]; exact chk_size base late vp v0 v1 vt tvs p0 p1 ts hvt hLI h0
  by_cases hp : first1 [p0, p1] = 0
  · by_cases hf : first1 ts = 0
    · have h00 : first1 (p0 :: p1 :: ts) = 0 := by rw [first1_split, if_pos hp, hf]
      have hz := first1_zero h00
      have e0 := wrong_no (hz p0 (by simp)).2
      have e1 := wrong_no (hz p1 (by simp)).2
      have et : ts = (ts.map fun t => t.map Int.toNat).map ci := by
        rw [List.map_map]
        conv => lhs; rw [← List.map_id ts]
        exact List.map_congr_left fun t ht => wrong_no (hz t (by simp [ht])).2
      rw [pfault, if_neg h0, if_pos h00]
      refine chk_form base late vp v0 v1 vt tvs p0 p1 ts hvt hLI (by omega) (by omega) hp hf _ (by unfold fin3; split <;> simp) ?_
      have hall : first1 ((p0.map Int.toNat :: p1.map Int.toNat :: (ts.map fun t => t.map Int.toNat)).map ci) = 0 := by
        rw [List.map_cons, List.map_cons, ← e0, ← e1, ← et]; exact h00
      exact inform_fn base late vp v0 v1 vt tvs (p0.map Int.toNat) (p1.map Int.toNat) (ts.map fun t => t.map Int.toNat) hvt (by rw [← e0, ← e1, ← et]; exact hLI) (first1_toks hall) (by rw [List.length_map]; omega)
    · rw [pfault, if_neg h0, first1_split, if_pos hp, if_neg hf]
      exact chk_turns base late vp v0 v1 vt tvs p0 p1 ts hvt hLI (by omega) (by omega) hp _ rfl hf
  · rw [pfault, if_neg h0, first1_split, if_neg hp, if_neg hp]
    exact chk_pre base late vp v0 v1 vt tvs p0 p1 ts hvt hLI (by omega) (by omega) _ rfl hp
variable {G : Mem}
end Go.Proofs.Ytfldnikepdbgkaa
namespace Go.Proofs.Ytfldnikepdbgkaa
open Go Go.RowKit
theorem toldBy_fn {G : Mem} (base : List Nat) (late : Bool) (vp v0 v1 vt : Value) (tvs : List Value) (ps p0 p1 : List Int) (ts : List (List Int)) (hvp : Shows G 1 vp ps.length (ps.map iv)) (hvt : Shows G 1 vt tvs.length tvs) (hLI : ShowsLI G (v0 :: v1 :: tvs) (p0 :: p1 :: ts)) (h5 : ts.length ≤ 5) (h6 : ∀ i, i < ts.length → (ts.getD i []).length ≤ 6) (h60 : p0.length ≤ 6) (h61 : p1.length ≤ 6) : Fx Try.prog G [] 11 #[.agg (cells 6 [pV (sv base), pV (.bool late), pV vp, pV v0, pV v1, pV vt])] (fun v l1 nw => l1 = [] ∧ ∃ xs, TL nw (toldW late ps.length p0 p1 ts).told v xs) := by
  by_cases h : 0 < ps.length
  · exact toldBy_psk base late vp v0 v1 vt tvs ps p0 p1 ts hvp hvt hLI h5 h6 h60 h61 h
  · exact toldBy_plain base late vp v0 v1 vt tvs ps p0 p1 ts hvp hvt hLI h5 h6 (by omega)
variable {G : Mem}
set_option maxHeartbeats 4000000 in
theorem told_ok (base : List Nat) (late : Bool) (vp v0 v1 vt : Value) (tvs : List Value) (ps p0 p1 : List Int) (ts : List (List Int)) (hvp : Shows G 1 vp ps.length (ps.map iv)) (hvt : Shows G 1 vt tvs.length tvs) (hLI : ShowsLI G (v0 :: v1 :: tvs) (p0 :: p1 :: ts)) (hpf : pfault late p0 p1 ts = 0) (h4 : ps.length ≤ 4) : Fx Try.prog G [] 5 #[.agg (cells 6 [pV (sv base), pV (.bool late), pV vp, pV v0, pV v1, pV vt])] (fun v l1 nw => l1 = [] ∧ ToldD late ps.length p0 p1 ts v nw) := by
  have hT := li_tail (li_tail hLI)
  have htl : tvs.length = ts.length := hT.1
  have o1 := shows_oneC hvp
  have o2 := shows_oneC (vq_show hLI 0 (by decide))
  have o3 := shows_oneC (vq_show hLI 1 (by decide))
  have o4 := shows_oneC hvt
  obtain ⟨⟨h1, h5⟩, ⟨h60, h61⟩, h6⟩ := pf_sizes hpf
  refine fxDV (n := 16) Try.func5 rfl rfl (by simp) (argE [.agg (cells 6 [pV (sv base), pV (.bool late), pV vp, pV v0, pV v1, pV vt])] 0) (argE_ok _) ?_
  refine Qs<|Qp<|(Qh 0) fun r1=>(Qa)<|(Qa)<|Qn<|Qs<|Qs<|Qp<|(QD 0) ?_
  refine e_call rfl (Un 10) (chk_all base late vp v0 v1 vt tvs p0 p1 ts hvt hLI) rfl rfl ?_
  refine e_as (congrArg ii hpf) ?_
  refine (Qa)<|Qn<|Qs<|Qp<|(Qm)<|(QN) ?_
  refine e_as (congrArg Value.bool (decide_eq_false (by decide))) ?_
  refine Qn<|(Qcf)<|Qk<|Qs<|Qs<|Qp<|(Qf 2)<|(QV 2 0)<|(QC hvp)<|(QG)<|(Qaf)<|Qn<|(Qcf)<|Qk<|Qs<|QR ⟨[], 4, [], none, none⟩<|(QD 0) ?_
  refine e_callD [(0, _)] (by repeat (first | exact bag_nil | exact bag_lab _ | apply bag_skip rfl)) ⟨rfl, trivial⟩ rfl rfl rfl (Un 11) seenG (toldBy_fn base late vp v0 v1 vt tvs ps p0 p1 ts hvp hvt hLI h5 h6 h60 h61) (fun m' => told_room 39 h5 h6 m') rfl rfl fun v3_1 nw3_1 hD3_1 => ?_
  simp only [catL]
  obtain ⟨x8, ht8⟩ := hD3_1
  refine (Qa)<|(Qa)<|Qn<|Qr ?_
  exact ⟨_, _, _, _, ([] ++ nw3_1), rfl, .tmp rfl, .tmp rfl, ⟨_, x8, rfl, ht8⟩, (by repeat (first | exact bag_nil | exact bag_lab _ | apply bag_skip rfl))⟩
set_option maxHeartbeats 4000000 in
theorem told_err (base : List Nat) (late : Bool) (vp v0 v1 vt : Value) (tvs : List Value) (ps p0 p1 : List Int) (ts : List (List Int)) (hvp : Shows G 1 vp ps.length (ps.map iv)) (hvt : Shows G 1 vt tvs.length tvs) (hLI : ShowsLI G (v0 :: v1 :: tvs) (p0 :: p1 :: ts)) (hpf : pfault late p0 p1 ts ≠ 0) : Fn Try.prog G 5 #[.agg (cells 6 [pV (sv base), pV (.bool late), pV vp, pV v0, pV v1, pV vt])] (.tuple #[nilS, ii (pfault late p0 p1 ts)]) := by
  have hT := li_tail (li_tail hLI)
  have htl : tvs.length = ts.length := hT.1
  have o1 := shows_oneC hvp
  have o2 := shows_oneC (vq_show hLI 0 (by decide))
  have o3 := shows_oneC (vq_show hLI 1 (by decide))
  have o4 := shows_oneC hvt
  refine Qf2 Try.func5 ?_
  refine Qs<|Qp<|(Qh 0) fun r1=>(Qa)<|(Qa)<|Qn<|Qs<|Qs<|Qp<|(QD 0) ?_
  refine e_call rfl (Un 10) (chk_all base late vp v0 v1 vt tvs p0 p1 ts hvt hLI) rfl rfl ?_
  refine (Qa)<|Qn<|Qs<|Qp<|(Qm)<|(QN)<|(Qat)<|Qn<|(Qct)<|Qs<|Qp<|(Qm)<|(Qa)<|(Qa)<|Qn<|Qr ?_
  exact ⟨_, _, rfl, .tmp rfl, .tmp rfl⟩
set_option maxHeartbeats 4000000 in
theorem told_size (base : List Nat) (late : Bool) (vp v0 v1 vt : Value) (tvs : List Value) (ps p0 p1 : List Int) (ts : List (List Int)) (hvp : Shows G 1 vp ps.length (ps.map iv)) (hvt : Shows G 1 vt tvs.length tvs) (hLI : ShowsLI G (v0 :: v1 :: tvs) (p0 :: p1 :: ts)) (hpf : pfault late p0 p1 ts = 0) (h4 : 4 < ps.length) : Fn Try.prog G 5 #[.agg (cells 6 [pV (sv base), pV (.bool late), pV vp, pV v0, pV v1, pV vt])] (.tuple #[nilS, ii 1]) := by
  have hT := li_tail (li_tail hLI)
  have htl : tvs.length = ts.length := hT.1
  have o1 := shows_oneC hvp
  have o2 := shows_oneC (vq_show hLI 0 (by decide))
  have o3 := shows_oneC (vq_show hLI 1 (by decide))
  have o4 := shows_oneC hvt
  refine Qf2 Try.func5 ?_
  refine Qs<|Qp<|(Qh 0) fun r1=>(Qa)<|(Qa)<|Qn<|Qs<|Qs<|Qp<|(QD 0) ?_
  refine e_call rfl (Un 10) (chk_all base late vp v0 v1 vt tvs p0 p1 ts hvt hLI) rfl rfl ?_
  refine e_as (congrArg ii hpf) ?_
  refine (Qa)<|Qn<|Qs<|Qp<|(Qm)<|(QN) ?_
  refine e_as (congrArg Value.bool (decide_eq_false (by decide))) ?_
  refine Qn<|(Qcf)<|Qk<|Qs<|Qs<|Qp<|(Qf 2)<|(QV 2 0)<|(QC hvp)<|(QG)<|(Qat)<|Qn<|(Qct)<|Qs<|Qp<|(Qa)<|(Qa)<|Qn<|Qr ?_
  exact ⟨_, _, rfl, .tmp rfl, .tmp rfl⟩
end Go.Proofs.Ytfldnikepdbgkaa
namespace Go.Proofs.Ytfldnikepdbgkaa
open Go Go.RowKit
variable {G : Mem}
set_option maxHeartbeats 4000000 in
theorem traceTells_ok (base : List Nat) (late : Bool) (vp v0 v1 vt : Value) (tvs : List Value) (ps p0 p1 : List Int) (ts : List (List Int)) (hvp : Shows G 1 vp ps.length (ps.map iv)) (hvt : Shows G 1 vt tvs.length tvs) (hLI : ShowsLI G (v0 :: v1 :: tvs) (p0 :: p1 :: ts)) (hpf : pfault late p0 p1 ts = 0) (h4 : ps.length ≤ 4) : Fn Try.prog G 3 #[.agg (cells 6 [pV (sv base), pV (.bool late), pV vp, pV v0, pV v1, pV vt])] (.bool true) := by
  have hT := li_tail (li_tail hLI)
  have htl : tvs.length = ts.length := hT.1
  have o1 := shows_oneC hvp
  have o2 := shows_oneC (vq_show hLI 0 (by decide))
  have o3 := shows_oneC (vq_show hLI 1 (by decide))
  have o4 := shows_oneC hvt
  obtain ⟨⟨h1, h5⟩, ⟨h60, h61⟩, h6⟩ := pf_sizes hpf
  refine Qf1 Try.func3 ?_
  refine Qs<|Qp<|(Qh 0) fun r1=>(Qa)<|Qn<|Qs<|QR ⟨[], 4, [], none, none⟩<|(QD 0) ?_
  refine e_callD [(0, _)] (by repeat (first | exact bag_nil | exact bag_lab _ | apply bag_skip rfl)) ⟨rfl, trivial⟩ rfl rfl rfl (Un 5) seenG (told_ok base late vp v0 v1 vt tvs ps p0 p1 ts hvp hvt hLI hpf h4) (fun m' => toldD_room 39 h5 h6 m') rfl rfl fun v1_1 nw1_1 hD1_1 => ?_
  simp only [catL]
  obtain ⟨w8, x8, rfl, ht8⟩ := hD1_1
  refine (Qm)<|(Qx)<|(Qx)<|(Qa)<|(Qa)<|Qn<|Qs<|QR ⟨[], 4, [], none, none⟩<|(QD 0) ?_
  refine e_callD [(0, _)] (by repeat (first | exact bag_nil | exact bag_lab _ | apply bag_skip rfl)) ⟨rfl, trivial⟩ rfl rfl rfl (Un 6) seenG (dtold_ok base late vp v0 v1 vt tvs ps p0 p1 ts hvp hvt hLI hpf h4) (fun m' => toldD_room 39 h5 h6 m') rfl rfl fun v1_2 nw1_2 hD1_2 => ?_
  simp only [catL]
  obtain ⟨w9, x9, rfl, ht9⟩ := hD1_2
  refine (Qm)<|(Qx)<|(Qx)<|(Qa)<|(Qa)<|Qn<|Qs<|Qp<|(Qm)<|(Qm) ?_
  refine e_callS rfl rfl (Un 7) (seen_bag (by repeat (first | exact bag_nil | exact bag_lab _ | apply bag_skip rfl)) rfl) (sameTs_fn (G := (([] ++ nw1_1) ++ nw1_2)) _ _ w8 w9 x8 x9 (ht8.mono (fun z hz => by simp [hz])) (ht9.mono (fun z hz => by simp [hz])) rfl) rfl rfl ?_
  refine (Qm)<|(Qy)<|(Qm)<|(Qy)<|(Qm)<|(Qy)<|(Qc)<|(Qar)<|(QT)<|(Qa)<|Qn<|Qr ?_
  exact ⟨_, rfl, .tmp rfl⟩
set_option maxHeartbeats 4000000 in
theorem traceTells_err (base : List Nat) (late : Bool) (vp v0 v1 vt : Value) (tvs : List Value) (ps p0 p1 : List Int) (ts : List (List Int)) (hvp : Shows G 1 vp ps.length (ps.map iv)) (hvt : Shows G 1 vt tvs.length tvs) (hLI : ShowsLI G (v0 :: v1 :: tvs) (p0 :: p1 :: ts)) (hpf : pfault late p0 p1 ts ≠ 0) : Fn Try.prog G 3 #[.agg (cells 6 [pV (sv base), pV (.bool late), pV vp, pV v0, pV v1, pV vt])] (.bool true) := by
  have hT := li_tail (li_tail hLI)
  have htl : tvs.length = ts.length := hT.1
  have o1 := shows_oneC hvp
  have o2 := shows_oneC (vq_show hLI 0 (by decide))
  have o3 := shows_oneC (vq_show hLI 1 (by decide))
  have o4 := shows_oneC hvt
  refine Qf1 Try.func3 ?_
  refine Qs<|Qp<|(Qh 0) fun r1=>(Qa)<|Qn<|Qs<|Qp<|(QD 0) ?_
  refine e_call rfl (Un 5) (told_err base late vp v0 v1 vt tvs ps p0 p1 ts hvp hvt hLI hpf) rfl rfl ?_
  refine (Qm)<|(Qx)<|(Qx)<|(Qa)<|(Qa)<|Qn<|Qs<|Qp<|(QD 0) ?_
  refine e_call rfl (Un 6) (dtold_err base late vp v0 v1 vt tvs ps p0 p1 ts hvp hvt hLI hpf) rfl rfl ?_
  refine (Qm)<|(Qx)<|(Qx)<|(Qa)<|(Qa)<|Qn<|Qs<|Qp<|(Qm)<|(Qm) ?_
  refine e_call rfl (Un 7) (sameTs_fn [] [] nilS nilS [] [] tl_nil tl_nil rfl) rfl rfl ?_
  refine (Qm)<|(Qy)<|(Qm)<|(Qy)<|(Qm)<|(Qy)<|(Qc)<|(Qar)<|(QT)<|(Qa)<|Qn<|Qr ?_
  exact ⟨_, rfl, .tmp rfl⟩
set_option maxHeartbeats 4000000 in
theorem traceTells_size (base : List Nat) (late : Bool) (vp v0 v1 vt : Value) (tvs : List Value) (ps p0 p1 : List Int) (ts : List (List Int)) (hvp : Shows G 1 vp ps.length (ps.map iv)) (hvt : Shows G 1 vt tvs.length tvs) (hLI : ShowsLI G (v0 :: v1 :: tvs) (p0 :: p1 :: ts)) (hpf : pfault late p0 p1 ts = 0) (h4 : 4 < ps.length) : Fn Try.prog G 3 #[.agg (cells 6 [pV (sv base), pV (.bool late), pV vp, pV v0, pV v1, pV vt])] (.bool true) := by
  have hT := li_tail (li_tail hLI)
  have htl : tvs.length = ts.length := hT.1
  have o1 := shows_oneC hvp
  have o2 := shows_oneC (vq_show hLI 0 (by decide))
  have o3 := shows_oneC (vq_show hLI 1 (by decide))
  have o4 := shows_oneC hvt
  refine Qf1 Try.func3 ?_
  refine Qs<|Qp<|(Qh 0) fun r1=>(Qa)<|Qn<|Qs<|Qp<|(QD 0) ?_
  refine e_call rfl (Un 5) (told_size base late vp v0 v1 vt tvs ps p0 p1 ts hvp hvt hLI hpf h4) rfl rfl ?_
  refine (Qm)<|(Qx)<|(Qx)<|(Qa)<|(Qa)<|Qn<|Qs<|Qp<|(QD 0) ?_
  refine e_call rfl (Un 6) (dtold_size base late vp v0 v1 vt tvs ps p0 p1 ts hvp hvt hLI hpf h4) rfl rfl ?_
  refine (Qm)<|(Qx)<|(Qx)<|(Qa)<|(Qa)<|Qn<|Qs<|Qp<|(Qm)<|(Qm) ?_
  refine e_call rfl (Un 7) (sameTs_fn [] [] nilS nilS [] [] tl_nil tl_nil rfl) rfl rfl ?_
  refine (Qm)<|(Qy)<|(Qm)<|(Qy)<|(Qm)<|(Qy)<|(Qc)<|(Qar)<|(QT)<|(Qa)<|Qn<|Qr ?_
  exact ⟨_, rfl, .tmp rfl⟩
end Go.Proofs.Ytfldnikepdbgkaa
namespace Go.Proofs.Ytfldnikepdbgkaa
open Go Go.RowKit
theorem traceTells_fn {G : Mem} (base : List Nat) (late : Bool) (vp v0 v1 vt : Value) (tvs : List Value) (ps p0 p1 : List Int) (ts : List (List Int)) (hvp : Shows G 1 vp ps.length (ps.map iv)) (hvt : Shows G 1 vt tvs.length tvs) (hLI : ShowsLI G (v0 :: v1 :: tvs) (p0 :: p1 :: ts)) : Fn Try.prog G 3 #[.agg (cells 6 [pV (sv base), pV (.bool late), pV vp, pV v0, pV v1, pV vt])] (.bool true) := by
  by_cases hpf : pfault late p0 p1 ts = 0
  · by_cases h4 : ps.length ≤ 4
    · exact traceTells_ok base late vp v0 v1 vt tvs ps p0 p1 ts hvp hvt hLI hpf h4
    · exact traceTells_size base late vp v0 v1 vt tvs ps p0 p1 ts hvp hvt hLI hpf (by omega)
  · exact traceTells_err base late vp v0 v1 vt tvs ps p0 p1 ts hvp hvt hLI hpf
variable {G : Mem}
end Go.Proofs.Ytfldnikepdbgkaa
