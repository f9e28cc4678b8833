import Derived.Test.YtejejmhbhegneaaDoorKW6
namespace Go.Proofs.YtejejmhbhegneaaDoor
open Go Go.RowKit
variable {G : Mem}
set_option maxHeartbeats 400000 in
theorem haspre_fn (l p : List Nat) (hl : ∀ b ∈ l, b < 256) (hp : ∀ b ∈ p, b < 256) : Fn Tryd.prog G 73 #[sv l, sv p] (.bool (hasP l p)) := by
  refine Qf1 Tryd.func73 ?_
  refine Qs<|Qp<|(Qa)<|Qn<|Qs<|Qp ?_
  refine e_join [(0, _), (1, _)] [(4, .bool (hasP l p))] [] ⟨rfl, rfl, trivial⟩ trivial ?_ ?_
  · skip
    refine (Qm)<|(QU)<|(Qm)<|(QU)<|(QE)<|(Qm) ?_
    refine e_case (b := decide ((p.length : Int) ≤ (l.length : Int))) (fun hb0 => ?_) (fun hb0 => ?_)
    · skip
      refine (Qy)<|(Qm)<|(Qy)<|(Qm)<|(Qy)<|(QU)<|(Qy) ?_
      refine e_sliceStr 0 p.length (Uu 9) rfl rfl rfl rfl ⟨_, rfl⟩ (by omega) (by have := of_decide_eq_true hb0; omega) rfl ?_
      refine e_as (show _ = sv (l.take p.length) from rfl) ?_
      refine (Qy)<|(Qm)<|(Qy) ?_
      refine e_eqStr rfl rfl rfl (fun b hb => hl b (List.mem_of_mem_take hb)) hp ?_
      refine (QT)<|(Qa)<|Qn ?_
      exact ⟨⟨rfl, rfl, trivial⟩, ⟨bool_fin (by rw [hasP, hb0] <;> rfl), trivial⟩, trivial⟩
    · skip
      refine (Qo)<|(Qo)<|(Qo)<|(Qo)<|(Qo)<|(Qo)<|(QF)<|(Qa)<|Qn ?_
      exact ⟨⟨rfl, rfl, trivial⟩, ⟨bool_fin (by rw [hasP, hb0] <;> rfl), trivial⟩, trivial⟩
  · simp only [catE]
    refine Qr ?_
    exact ⟨_, rfl, .tmp rfl⟩
set_option maxHeartbeats 400000 in
theorem hassufZ_fn (l p : List Nat) (hl : ∀ b ∈ l, b < 256) (hp : ∀ b ∈ p, b < 256) (hz : l.length ≤ 4294967296) : Fn Tryd.prog G 49 #[sv l, sv p] (.bool (hasZ l p)) := by
  refine Qf1 Tryd.func49 ?_
  refine Qs<|Qp<|(Qa)<|Qn<|Qs<|Qp ?_
  refine e_join [(0, _), (1, _)] [(4, .bool (hasZ l p))] [] ⟨rfl, rfl, trivial⟩ trivial ?_ ?_
  · skip
    refine (Qm)<|(QU)<|(Qm)<|(QU)<|(QE)<|(Qm) ?_
    refine e_case (b := decide ((p.length : Int) ≤ (l.length : Int))) (fun hb0 => ?_) (fun hb0 => ?_)
    · skip
      refine (Qy)<|(Qm)<|(Qy)<|(Qm)<|(Qy)<|(QU)<|(Qy)<|(Qm)<|(Qy)<|(QU)<|(Qy) ?_
      refine e_sub_in rfl rfl rfl (by omega) (by have := of_decide_eq_true hb0; omega) ?_
      refine (Qy) ?_
      refine e_sliceStr (l.length - p.length) l.length (Uu 9) rfl rfl rfl ⟨_, rfl⟩ rfl (by omega) (by omega) rfl ?_
      refine e_as (congrArg sv (show (l.drop (l.length - p.length)).take (l.length - (l.length - p.length)) = l.drop (l.length - p.length) from List.take_of_length_le (by simp))) ?_
      refine (Qy)<|(Qm)<|(Qy) ?_
      refine e_eqStr rfl rfl rfl (fun b hb => hl b (List.mem_of_mem_drop hb)) hp ?_
      refine (QT)<|(Qa)<|Qn ?_
      exact ⟨⟨rfl, rfl, trivial⟩, ⟨bool_fin (by rw [hasZ, hb0] <;> rfl), trivial⟩, trivial⟩
    · skip
      refine (Qo)<|(Qo)<|(Qo)<|(Qo)<|(Qo)<|(Qo)<|(Qo)<|(Qo)<|(Qo)<|(QF)<|(Qa)<|Qn ?_
      exact ⟨⟨rfl, rfl, trivial⟩, ⟨bool_fin (by rw [hasZ, hb0] <;> rfl), trivial⟩, trivial⟩
  · simp only [catE]
    refine Qr ?_
    exact ⟨_, rfl, .tmp rfl⟩
set_option maxHeartbeats 400000 in
theorem lcutpre_fn (l p : List Nat) (hl : ∀ b ∈ l, b < 256) (hp : ∀ b ∈ p, b < 256) : Fn Tryd.prog G 52 #[sv l, sv p] (.tuple #[sv (cutP l p), .bool (hasP l p)]) := by
  refine Qf2 Tryd.func52 ?_
  refine Qs<|Qp ?_
  refine e_assign (v := sv []) rfl rfl ?_
  refine (Qa)<|Qn<|Qs<|Qs<|Qp<|(Qm)<|(Qm) ?_
  refine e_call rfl (Un 73) (haspre_fn l p hl hp) rfl rfl ?_
  refine (Q0)<|Qn ?_
  refine e_cond rfl ?_ ?_
  · intro hc0
    have hh : hasP l p = false := by simpa using hc0
    rw [show cutP l p = l by rw [cutP, if_neg (by rw [hh]; decide)], hh]
    refine Qs<|Qp<|(Qm)<|(Qa)<|(Qa)<|Qn<|Qr ?_
    exact ⟨_, _, rfl, .tmp rfl, .tmp rfl⟩
  · intro hc0
    have hh : hasP l p = true := by simpa using hc0
    have hlen := (hasP_len hh).1
    rw [show cutP l p = l.drop p.length by rw [cutP, if_pos hh], hh]
    refine Qk<|Qs<|Qp<|(Qm)<|(Qm)<|(QU) ?_
    refine e_sliceStr p.length l.length (Uu 9) rfl rfl rfl ⟨_, rfl⟩ rfl (by omega) (by omega) rfl ?_
    refine e_as (congrArg sv (show (l.drop p.length).take (l.length - p.length) = l.drop p.length from List.take_of_length_le (by simp))) ?_
    refine (Qa)<|(Qa)<|Qn<|Qr ?_
    exact ⟨_, _, rfl, .tmp rfl, .tmp rfl⟩
set_option maxHeartbeats 400000 in
theorem cutpre_fn (l p : List Nat) (hl : ∀ b ∈ l, b < 256) (hp : ∀ b ∈ p, b < 256) : Fn Tryd.prog G 38 #[sv l, sv p] (.tuple #[sv (cutP l p), .bool (hasP l p)]) := by
  refine Qf2 Tryd.func38 ?_
  refine Qs<|Qp ?_
  refine e_assign (v := sv []) rfl rfl ?_
  refine (Qa)<|Qn<|Qs<|Qp<|(Qm)<|(Qm) ?_
  refine e_call rfl (Un 52) (lcutpre_fn l p hl hp) rfl rfl ?_
  refine (Qx)<|(Qx)<|(Qa)<|(Qa)<|Qn<|Qr ?_
  exact ⟨_, _, rfl, .tmp rfl, .tmp rfl⟩
set_option maxHeartbeats 400000 in
theorem lcutsuf_fn (l p : List Nat) (hl : ∀ b ∈ l, b < 256) (hp : ∀ b ∈ p, b < 256) (hz : l.length ≤ 4294967296) : Fn Tryd.prog G 53 #[sv l, sv p] (.tuple #[sv (cutZ l p), .bool (hasZ l p)]) := by
  refine Qf2 Tryd.func53 ?_
  refine Qs<|Qp ?_
  refine e_assign (v := sv []) rfl rfl ?_
  refine (Qa)<|Qn<|Qs<|Qs<|Qp<|(Qm)<|(Qm) ?_
  refine e_call rfl (Un 49) (hassufZ_fn l p hl hp hz) rfl rfl ?_
  refine (Q0)<|Qn ?_
  refine e_cond rfl ?_ ?_
  · intro hc0
    have hh : hasZ l p = false := by simpa using hc0
    rw [show cutZ l p = l by rw [cutZ, if_neg (by rw [hh]; decide)], hh]
    refine Qs<|Qp<|(Qm)<|(Qa)<|(Qa)<|Qn<|Qr ?_
    exact ⟨_, _, rfl, .tmp rfl, .tmp rfl⟩
  · intro hc0
    have hh : hasZ l p = true := by simpa using hc0
    have hlen := (hasZ_len hh).1
    rw [show cutZ l p = l.take (l.length - p.length) by rw [cutZ, if_pos hh], hh]
    refine Qk<|Qs<|Qp<|(Qm)<|(Qm)<|(QU)<|(Qm)<|(QU) ?_
    refine e_sub_in rfl rfl rfl (by omega) (by omega) ?_
    refine e_sliceStr 0 (l.length - p.length) (Uu 9) rfl rfl rfl rfl ⟨_, rfl⟩ (by omega) (by omega) rfl ?_
    refine e_as (show _ = sv (l.take (l.length - p.length)) from rfl) ?_
    refine (Qa)<|(Qa)<|Qn<|Qr ?_
    exact ⟨_, _, rfl, .tmp rfl, .tmp rfl⟩
set_option maxHeartbeats 400000 in
theorem cutsuf_fn (l p : List Nat) (hl : ∀ b ∈ l, b < 256) (hp : ∀ b ∈ p, b < 256) (hz : l.length ≤ 4294967296) : Fn Tryd.prog G 39 #[sv l, sv p] (.tuple #[sv (cutZ l p), .bool (hasZ l p)]) := by
  refine Qf2 Tryd.func39 ?_
  refine Qs<|Qp ?_
  refine e_assign (v := sv []) rfl rfl ?_
  refine (Qa)<|Qn<|Qs<|Qp<|(Qm)<|(Qm) ?_
  refine e_call rfl (Un 53) (lcutsuf_fn l p hl hp hz) rfl rfl ?_
  refine (Qx)<|(Qx)<|(Qa)<|(Qa)<|Qn<|Qr ?_
  exact ⟨_, _, rfl, .tmp rfl, .tmp rfl⟩
end Go.Proofs.YtejejmhbhegneaaDoor
namespace Go.Proofs.YtejejmhbhegneaaDoor
open Go Go.RowKit
variable {G : Mem}
set_option maxHeartbeats 2000000 in
theorem place_fn (w : List Nat) (hw : ∀ b ∈ w, b < 256) : Fn Tryd.prog G 55 #[sv w] (.tuple #[ii (if plBad w = true then 0 else plD w), .bool (!(plBad w))]) := by
  have hcb : ∀ b ∈ cutP w PSK, b < 256 := fun b hb => hw b (cutP_mem hb)
  refine Qf2 Tryd.func55 ?_
  refine Qs<|Qp<|(Qa)<|(Qa)<|Qn<|Qs<|Qp<|(Qm) ?_
  refine e_call rfl (Un 38) (cutpre_fn w PSK hw (by decide)) rfl rfl ?_
  refine (Qm)<|(Qx)<|(Qx)<|(Qa)<|(Qa)<|Qn<|Qs<|Qs<|Qp ?_
  refine e_join [(0, _), (2, _), (3, _), (4, _), (5, _), (6, _), (7, _), (8, _), (9, _), (10, _)] [(27, .bool (plBad w))] [] ⟨rfl, rfl, rfl, rfl, rfl, rfl, rfl, rfl, rfl, rfl, trivial⟩ trivial ?_ ?_
  · skip
    refine (Qm)<|(Q0)<|(Qm) ?_
    refine e_case (b := !(hasP w PSK)) (fun hb0 => ?_) (fun hb0 => ?_)
    · skip
      refine (Qo)<|(Qo)<|(Qo)<|(QT)<|(Qm)<|(Qo)<|(Qo)<|(Qo)<|(QT)<|(Qm)<|(Qo)<|(Qo)<|(Qo)<|(QT)<|Qn ?_
      exact ⟨⟨rfl, rfl, rfl, rfl, rfl, rfl, rfl, rfl, rfl, rfl, trivial⟩, ⟨bool_fin (by rw [plBad, hb0] <;> rfl), trivial⟩, trivial⟩
    · skip
      refine (Qy)<|(Qm)<|(Qy)<|(QU)<|(Qy)<|(QN)<|(QF)<|(Qm) ?_
      refine e_case (b := decide (((cutP w PSK).length : Int) ≠ 1)) (fun hb1 => ?_) (fun hb1 => ?_)
      · skip
        refine (Qo)<|(Qo)<|(Qo)<|(QT)<|(Qm)<|(Qo)<|(Qo)<|(Qo)<|(QT)<|Qn ?_
        exact ⟨⟨rfl, rfl, rfl, rfl, rfl, rfl, rfl, rfl, rfl, rfl, trivial⟩, ⟨bool_fin (by rw [plBad, hb0, hb1] <;> rfl), trivial⟩, trivial⟩
      · skip
        refine (Qy)<|(Qm)<|(Qy) ?_
        refine e_idxStr (Uu 9) rfl rfl (at_getD (l := (cutP w PSK)) (show 0 < (cutP w PSK).length by have := of_decide_eq_false hb1; omega)) (getD_b hcb _) rfl ?_
        refine (Qy)<|(Ql)<|(QF)<|(Qm) ?_
        refine e_case (b := decide (((cutP w PSK).getD 0 0 : Int) < 48)) (fun hb2 => ?_) (fun hb2 => ?_)
        · skip
          refine (Qo)<|(Qo)<|(Qo)<|(QT)<|Qn ?_
          exact ⟨⟨rfl, rfl, rfl, rfl, rfl, rfl, rfl, rfl, rfl, rfl, trivial⟩, ⟨bool_fin (by rw [plBad, hb0, hb1, hb2] <;> rfl), trivial⟩, trivial⟩
        · skip
          refine (Qy)<|(Qm)<|(Qy) ?_
          refine e_idxStr (Uu 9) rfl rfl (at_getD (l := (cutP w PSK)) (show 0 < (cutP w PSK).length by have := of_decide_eq_false hb1; omega)) (getD_b hcb _) rfl ?_
          refine (Qy)<|(QG)<|(QF)<|Qn ?_
          exact ⟨⟨rfl, rfl, rfl, rfl, rfl, rfl, rfl, rfl, rfl, rfl, trivial⟩, ⟨bool_fin (by rw [plBad, hb0, hb1, hb2] <;> rfl), trivial⟩, trivial⟩
  · simp only [catE]
    refine e_cond rfl ?_ ?_
    · intro hc0
      rw [if_pos hc0, hc0]
      refine Qs<|Qp<|(Qa)<|(Qa)<|Qn<|Qr ?_
      exact ⟨_, _, rfl, .tmp rfl, .tmp rfl⟩
    · intro hc0
      have hin := plD_in hc0
      have hd9 := getD_b hcb 0
      rw [if_neg (by rw [hc0]; decide), hc0]
      refine Qk<|Qs<|Qp<|(Qm) ?_
      refine e_idxStr (Uu 9) rfl rfl (at_getD (l := (cutP w PSK)) (show 0 < (cutP w PSK).length by have := hin.1; omega)) (getD_b hcb _) rfl ?_
      refine e_sub_b (q := 48) rfl rfl rfl (by omega) ?_
      refine e_as (congrArg by8 (show _ = plD w by change ((cutP w PSK).getD 0 0 + 256 - 48) % 256 = (cutP w PSK).getD 0 0 - 48; omega)) ?_
      refine e_conv_i (Uu 5) (Uu 3) rfl rfl rfl (by unfold plD; omega) ?_
      refine (Qa)<|(Qa)<|Qn<|Qr ?_
      exact ⟨_, _, rfl, .tmp rfl, .tmp rfl⟩
end Go.Proofs.YtejejmhbhegneaaDoor
namespace Go.Proofs.YtejejmhbhegneaaDoor
open Go Go.RowKit
variable {G : Mem}
set_option maxHeartbeats 4000000 in
theorem places_bad (ml : List Nat) (hm : ∀ b ∈ ml, b < 256) (hz : ml.length ≤ 4294967296) (hal : plAll (splitB ml 43) = none) : Fn Tryd.prog G 40 #[sv ml] (.tuple #[nilS, .bool false]) := by
  refine Qf2 Tryd.func40 ?_
  refine Qs<|Qp<|(Qa)<|(Qa)<|Qn<|Qs<|Qp<|(Qa)<|Qn<|Qb ?_
  refine QzK [] [] (fun kk E m => ∃ (S : List Nat) (pre : List Nat) (w4 : Value) (oz : Option Blk), kk = S.length ∧ E = [(0, sv S), (4, w4)] ∧ m = [(50, oz)] ∧ (∀ b ∈ S, b < 256) ∧ (S.length ≤ 4294967296) ∧ (plAll (splitB ml 43) = mapC pre (plAll (splitB S 43))) ∧ (OwnS 3 1 w4 (pre.take 5).length (iis (pre.take 5)) oz.toList)) ⟨ml, [], nilS, none, rfl, rfl, rfl, hm, hz, (mapC_nil _), (own_fix (own_nil _ _) (by simp) (by simp))⟩ ⟨rfl, rfl, trivial⟩ ⟨rfl, trivial⟩ ?_
  rintro kk E m ⟨S, pre, w4, oz, rfl, rfl, rfl, hf0_0, hf0_1, hf0_2, hf0_3⟩
  simp only [catE, catL]
  refine Qb<|Qs<|Qp<|(Qm) ?_
  refine e_call rfl (Un 54) (cut_str S 43 hf0_0 (by decide) hf0_1) rfl rfl ?_
  refine (Qm)<|(Qx)<|(Qx)<|(Qx)<|(Qa)<|(Qa)<|(Qa)<|Qn<|Qs<|Qp<|(Qm) ?_
  refine e_call rfl (Un 55) (place_fn (cutA S 43) (fun b hb => hf0_0 b (cutA_mem hb))) rfl rfl ?_
  refine (Qm)<|(Qx)<|(Qx)<|(Qa)<|(Qa)<|Qn<|Qs<|Qs<|Qp<|(Qm)<|(Q0)<|Qn ?_
  refine e_cond rfl ?_ ?_
  · intro hc0
    refine Qs<|Qp<|(Qa)<|(Qa)<|Qn<|Qr ?_
    exact ⟨_, _, rfl, .tmp rfl, .tmp rfl⟩
  · intro hc0
    have hpb : plBad (cutA S 43) = false := by simpa using hc0
    refine Qk<|Qs<|Qs<|Qp<|(Qm)<|(QC hf0_3.shows)<|(QL)<|Qn ?_
    refine e_cond rfl ?_ ?_
    · intro hc1
      have h4 : (pre.take 5).length ≤ 4 := by have := of_decide_eq_true hc1; omega
      refine Qp<|(Qm)<|(Qm) ?_
      refine e_as (show _ = ii (plD (cutA S 43)) by show ii (if plBad (cutA S 43) = true then 0 else plD (cutA S 43)) = _; rw [if_neg (by rw [hpb]; decide)]) ?_
      refine e_buildSl 0 #[ii (plD (cutA S 43))] (Uu 22 rfl) (Uz 3 rfl) (Ub 3 rfl) (by decide) (by decide) rfl (by kernel_rfl) rfl fun r1 => ?_
      refine e_append 50 hf0_3 (shows_new _ _ (by rfl)) rfl (seen1 0 rfl ⟨[], trivial⟩) (Uu 22) (Uz 3) (Uy 3) (Ub 3) (by rfl) rfl rfl (one_ii _) (by simp only [maxLen]; omega) (by omega) rfl fun v3_1 oz3_1 ho3_1 => ?_
      refine (Qa)<|Qn<|Qs<|Qs<|Qp<|(Qm)<|(Q0)<|Qn ?_
      refine e_cond rfl ?_ ?_
      · intro hc2
        have hfi := pl_fin hf0_2 (by simpa using hc2) hpb
        rw [hal] at hfi
        cases hfi
      · intro hc2
        have hnx := pl_next hf0_2 (by simpa using hc2) hpb
        refine Qk<|Qp<|(Qm)<|(Qa)<|Qn ?_
        refine QzL ⟨(cutB S 43), (pre ++ [plD (cutA S 43)]), _, _, rfl, rfl, rfl, (fun b hb => hf0_0 b (cutB_mem hb)), (by have := hnx.2; omega), hnx.1, (by first | exact own_fix ho3_1 (by rw [take5_more h4]; simp) (by rw [take5_more h4]; simp [iis]) | exact own_fix hf0_3 (by rw [take5 h4]) (by rw [take5 h4]))⟩ ⟨rfl, rfl, trivial⟩ ⟨rfl, trivial⟩ ?_
        have := hnx.2
        omega
    · intro hc1
      have h4 : ¬ (pre.take 5).length ≤ 4 := by have := of_decide_eq_false hc1; omega
      refine Qk<|Qs<|Qs<|Qp<|(Qm)<|(Q0)<|Qn ?_
      refine e_cond rfl ?_ ?_
      · intro hc2
        have hfi := pl_fin hf0_2 (by simpa using hc2) hpb
        rw [hal] at hfi
        cases hfi
      · intro hc2
        have hnx := pl_next hf0_2 (by simpa using hc2) hpb
        refine Qk<|Qp<|(Qm)<|(Qa)<|Qn ?_
        refine QzL ⟨(cutB S 43), (pre ++ [plD (cutA S 43)]), _, _, rfl, rfl, rfl, (fun b hb => hf0_0 b (cutB_mem hb)), (by have := hnx.2; omega), hnx.1, (by first | exact own_fix ho3_1 (by rw [take5_more h4]; simp) (by rw [take5_more h4]; simp [iis]) | exact own_fix hf0_3 (by rw [take5 h4]) (by rw [take5 h4]))⟩ ⟨rfl, rfl, trivial⟩ ⟨rfl, trivial⟩ ?_
        have := hnx.2
        omega
set_option maxHeartbeats 4000000 in
theorem places_ok (ml : List Nat) (hm : ∀ b ∈ ml, b < 256) (hz : ml.length ≤ 4294967296) (ds : List Nat) (hal : plAll (splitB ml 43) = some ds) : Fx Tryd.prog G [] 40 #[sv ml] (fun v l1 nw => l1 = [] ∧ ∃ v', v = .tuple #[v', .bool true] ∧ OwnS 3 1 v' (ds.take 5).length (iis (ds.take 5)) nw) := by
  refine QfM Tryd.func40 ?_
  refine Qs<|Qp<|(Qa)<|(Qa)<|Qn<|Qs<|Qp<|(Qa)<|Qn<|Qb ?_
  refine QzK [] [] (fun kk E m => ∃ (S : List Nat) (pre : List Nat) (w4 : Value) (oz : Option Blk), kk = S.length ∧ E = [(0, sv S), (4, w4)] ∧ m = [(50, oz)] ∧ (∀ b ∈ S, b < 256) ∧ (S.length ≤ 4294967296) ∧ (plAll (splitB ml 43) = mapC pre (plAll (splitB S 43))) ∧ (OwnS 3 1 w4 (pre.take 5).length (iis (pre.take 5)) oz.toList)) ⟨ml, [], nilS, none, rfl, rfl, rfl, hm, hz, (mapC_nil _), (own_fix (own_nil _ _) (by simp) (by simp))⟩ ⟨rfl, rfl, trivial⟩ ⟨rfl, trivial⟩ ?_
  rintro kk E m ⟨S, pre, w4, oz, rfl, rfl, rfl, hf0_0, hf0_1, hf0_2, hf0_3⟩
  simp only [catE, catL]
  refine Qb<|Qs<|Qp<|(Qm) ?_
  refine e_call rfl (Un 54) (cut_str S 43 hf0_0 (by decide) hf0_1) rfl rfl ?_
  refine (Qm)<|(Qx)<|(Qx)<|(Qx)<|(Qa)<|(Qa)<|(Qa)<|Qn<|Qs<|Qp<|(Qm) ?_
  refine e_call rfl (Un 55) (place_fn (cutA S 43) (fun b hb => hf0_0 b (cutA_mem hb))) rfl rfl ?_
  refine (Qm)<|(Qx)<|(Qx)<|(Qa)<|(Qa)<|Qn<|Qs<|Qs<|Qp<|(Qm)<|(Q0)<|Qn ?_
  refine e_cond rfl ?_ ?_
  · intro hc0
    have hfi := pl_bad hf0_2 (by simpa using hc0)
    rw [hal] at hfi
    cases hfi
  · intro hc0
    have hpb : plBad (cutA S 43) = false := by simpa using hc0
    refine Qk<|Qs<|Qs<|Qp<|(Qm)<|(QC hf0_3.shows)<|(QL)<|Qn ?_
    refine e_cond rfl ?_ ?_
    · intro hc1
      have h4 : (pre.take 5).length ≤ 4 := by have := of_decide_eq_true hc1; omega
      refine Qp<|(Qm)<|(Qm) ?_
      refine e_as (show _ = ii (plD (cutA S 43)) by show ii (if plBad (cutA S 43) = true then 0 else plD (cutA S 43)) = _; rw [if_neg (by rw [hpb]; decide)]) ?_
      refine e_buildSl 0 #[ii (plD (cutA S 43))] (Uu 22 rfl) (Uz 3 rfl) (Ub 3 rfl) (by decide) (by decide) rfl (by kernel_rfl) rfl fun r1 => ?_
      refine e_append 50 hf0_3 (shows_new _ _ (by rfl)) rfl (seen1 0 rfl ⟨[], trivial⟩) (Uu 22) (Uz 3) (Uy 3) (Ub 3) (by rfl) rfl rfl (one_ii _) (by simp only [maxLen]; omega) (by omega) rfl fun v3_1 oz3_1 ho3_1 => ?_
      refine (Qa)<|Qn<|Qs<|Qs<|Qp<|(Qm)<|(Q0)<|Qn ?_
      refine e_cond rfl ?_ ?_
      · intro hc2
        have hfi := pl_fin hf0_2 (by simpa using hc2) hpb
        rw [hal] at hfi
        injection hfi with hfi
        refine Qs<|Qp<|(Qm)<|(Qa)<|(Qa)<|Qn<|Qr ?_
        exact ⟨_, _, _, _, 50, rfl, .tmp rfl, .tmp rfl, (by rw [hfi]; first | exact own_fix ho3_1 (by rw [take5_more h4]; simp) (by rw [take5_more h4]; simp [iis]) | exact own_fix hf0_3 (by rw [take5 h4]) (by rw [take5 h4])), rfl⟩
      · intro hc2
        have hnx := pl_next hf0_2 (by simpa using hc2) hpb
        refine Qk<|Qp<|(Qm)<|(Qa)<|Qn ?_
        refine QzL ⟨(cutB S 43), (pre ++ [plD (cutA S 43)]), _, _, rfl, rfl, rfl, (fun b hb => hf0_0 b (cutB_mem hb)), (by have := hnx.2; omega), hnx.1, (by first | exact own_fix ho3_1 (by rw [take5_more h4]; simp) (by rw [take5_more h4]; simp [iis]) | exact own_fix hf0_3 (by rw [take5 h4]) (by rw [take5 h4]))⟩ ⟨rfl, rfl, trivial⟩ ⟨rfl, trivial⟩ ?_
        have := hnx.2
        omega
    · intro hc1
      have h4 : ¬ (pre.take 5).length ≤ 4 := by have := of_decide_eq_false hc1; omega
      refine Qk<|Qs<|Qs<|Qp<|(Qm)<|(Q0)<|Qn ?_
      refine e_cond rfl ?_ ?_
      · intro hc2
        have hfi := pl_fin hf0_2 (by simpa using hc2) hpb
        rw [hal] at hfi
        injection hfi with hfi
        refine Qs<|Qp<|(Qm)<|(Qa)<|(Qa)<|Qn<|Qr ?_
        exact ⟨_, _, _, _, 50, rfl, .tmp rfl, .tmp rfl, (by rw [hfi]; first | exact own_fix ho3_1 (by rw [take5_more h4]; simp) (by rw [take5_more h4]; simp [iis]) | exact own_fix hf0_3 (by rw [take5 h4]) (by rw [take5 h4])), rfl⟩
      · intro hc2
        have hnx := pl_next hf0_2 (by simpa using hc2) hpb
        refine Qk<|Qp<|(Qm)<|(Qa)<|Qn ?_
        refine QzL ⟨(cutB S 43), (pre ++ [plD (cutA S 43)]), _, _, rfl, rfl, rfl, (fun b hb => hf0_0 b (cutB_mem hb)), (by have := hnx.2; omega), hnx.1, (by first | exact own_fix ho3_1 (by rw [take5_more h4]; simp) (by rw [take5_more h4]; simp [iis]) | exact own_fix hf0_3 (by rw [take5 h4]) (by rw [take5 h4]))⟩ ⟨rfl, rfl, trivial⟩ ⟨rfl, trivial⟩ ?_
        have := hnx.2
        omega
end Go.Proofs.YtejejmhbhegneaaDoor
namespace Go.Proofs.YtejejmhbhegneaaDoor
open Go Go.RowKit
abbrev MLB (m : Int) : Blk := ⟨2, #[.int .i64 m], 3⟩
theorem xindexS {G : Mem} (l : List Nat) (m : Int) (hl : ∀ b ∈ l, b < 256) (hm : 3 ≤ m) (hz : l.length < 4294967281) (w : World) (hG : MemR (MLB m :: G) w) : (callFunc 57 #[sv l, sv PSK]).run Tryd.prog w = .ok (.value (ixv (ixp l))) w := by
  have hc : w.cell? ⟨2, 0, none⟩ = some (.int .i64 m) := (hG _ List.mem_cons_self).2 0 (by simp)
  rw [run_callFunc_extern Tryd.func57 (by kernel_rfl) (by kernel_rfl) (by kernel_rfl) (e := Extern.BytealgIndex.index) (by kernel_rfl), Lib.run_indexString (bstr l) (bstr PSK) w 2 m (by kernel_rfl) hc (by decide) (by have h9 : ((bstr PSK).size : Int) = 3 := rfl; omega) (by simpa [bstr, ByteArray.size] using hz)]
  have h := lib_psk hl
  rw [← h]
  simp [bstr, Result.andThen]
variable {G : Mem}
set_option maxHeartbeats 400000 in
theorem cutover_fn (n : Nat) (hn : n ≤ 4294967296) : Fn Tryd.prog G 58 #[ii n] (ii ((n + 16) / 8)) := by
  refine Qf1 Tryd.func58 ?_
  refine Qs<|Qp<|(Qa)<|Qn<|Qs<|Qp<|(Qm)<|(Q2 16)<|(Q5 8)<|(Qa)<|Qn<|Qr ?_
  exact ⟨_, rfl, .tmp rfl⟩
set_option maxHeartbeats 2000000 in
theorem hash_psk : Fn Tryd.prog G 76 #[sv PSK] (.tuple #[uw 337003364, uw 1055306571]) := by
  refine Qf2 Tryd.func76 ?_
  refine Qs<|Qp<|(Qa)<|(Qa)<|Qn<|Qs<|Qp<|(Qa)<|Qn<|Qs<|Qs<|Qp<|(Qa)<|Qn<|Qb ?_
  refine QzK [(0, _), (2, _), (3, _)] [] (fun kk E m => ∃ (i : Nat) (h : Nat), kk = 3 - i ∧ E = [(4, uw h), (5, ii i)] ∧ m = [] ∧ (i ≤ 3) ∧ ((i = 0 ∧ h = 0) ∨ (i = 1 ∧ h = 112) ∨ (i = 2 ∧ h = 1879093443) ∨ (i = 3 ∧ h = 337003364))) ⟨0, 0, rfl, rfl, rfl, by omega, .inl ⟨rfl, rfl⟩⟩ ⟨rfl, rfl, rfl, rfl, rfl, trivial⟩ trivial ?_
  rintro kk E m ⟨i, h, rfl, rfl, rfl, hf0_0, hf0_1⟩
  simp only [catE, catL]
  refine Qs<|Qs<|Qp<|(Qm)<|(Qm)<|(QU) ?_
  refine e_as (show _ = ii 3 from rfl) ?_
  refine (Ql)<|Qn ?_
  refine e_cond rfl ?_ ?_
  · intro hc0
    have hc0 : i < 3 := by have := of_decide_eq_true hc0; omega
    refine Qk<|Qs<|Qb<|Qp<|(Qm) ?_
    refine e_mul_w (q := 16777619) rfl rfl rfl  ?_
    refine (Qm)<|(Qm) ?_
    refine e_idxStr (Uu 9) rfl rfl (at_getD (l := PSK) (show i < 3 by omega)) (getD_b (by decide) _) rfl ?_
    refine e_conv_w (Uu 5) (Uu 105) rfl rfl rfl ?_
    refine e_as (congrArg uw (Nat.mod_eq_of_lt (Nat.lt_trans (getD_b (l := PSK) (by decide) i) (by decide)))) ?_
    refine e_add_w rfl rfl rfl  ?_
    refine (Qa)<|Qn<|Qp<|(Qm)<|(Q2 1)<|(Qa)<|Qn ?_
    refine QzL ⟨i + 1, _, rfl, rfl, rfl, by omega, (by rcases hf0_1 with ⟨rfl, rfl⟩ | ⟨rfl, rfl⟩ | ⟨rfl, rfl⟩ | ⟨rfl, rfl⟩; (right; left; decide); (right; right; left; decide); (right; right; right; decide); (exact absurd hc0 (by decide)))⟩ ⟨rfl, rfl, rfl, rfl, rfl, trivial⟩ trivial ?_
    omega
  · intro hc0
    have hc0 := of_decide_eq_false hc0
    have hz0 : i = 3 := by omega
    refine Qe<|Qs<|Qp<|(Qa)<|(Qa)<|Qn<|Qs<|Qs<|Qp<|(Qm)<|(QU) ?_
    refine e_as (show _ = ii 3 from rfl) ?_
    refine (Qa)<|Qn<|Qb ?_
    refine QzK [(0, _), (2, _), (3, _), (4, _), (5, _)] [] (fun kk E m => ∃ (q : Nat) (pw : Nat) (sq : Nat), kk = 2 * q ∧ E = [(6, uw pw), (7, uw sq), (8, ii q)] ∧ m = [] ∧ ((q = 3 ∧ pw = 1 ∧ sq = 16777619) ∨ (q = 1 ∧ pw = 16777619 ∧ sq = 637696617) ∨ (q = 0 ∧ pw = 1055306571 ∧ sq = 1345077009))) ⟨3, 1, 16777619, rfl, rfl, rfl, .inl ⟨rfl, rfl, rfl⟩⟩ ⟨rfl, rfl, rfl, rfl, rfl, rfl, rfl, rfl, trivial⟩ trivial ?_
    rintro kk E m ⟨q, pw, sq, rfl, rfl, rfl, hf1_0⟩
    simp only [catE, catL]
    refine Qs<|Qs<|Qp<|(Qm)<|(QG)<|Qn ?_
    refine e_cond rfl ?_ ?_
    · intro hc1
      have hc1 := of_decide_eq_true hc1
      refine Qk<|Qs<|Qb<|Qs<|Qs<|Qp<|(Qm) ?_
      refine e_and1 (by omega) rfl rfl rfl ?_
      refine (QN)<|Qn ?_
      refine e_cond rfl ?_ ?_
      · intro hc2
        have hc2 := of_decide_eq_true hc2
        refine Qp<|(Qm)<|(Qm) ?_
        refine e_mul_w rfl rfl rfl  ?_
        refine (Qa)<|Qn<|Qp<|(Qm)<|(Qm) ?_
        refine e_mul_w rfl rfl rfl  ?_
        refine (Qa)<|Qn<|Qp<|(Qm) ?_
        refine e_shr_i (s := 1) rfl rfl rfl (by omega) ?_
        refine (Qa)<|Qn ?_
        refine QzL ⟨q / 2, _, _, rfl, rfl, rfl, (by rcases hf1_0 with ⟨rfl, rfl, rfl⟩ | ⟨rfl, rfl, rfl⟩ | ⟨rfl, rfl, rfl⟩; (first | (right; left; decide) | exact absurd hc2 (by decide)); (first | (right; right; decide) | exact absurd hc2 (by decide)); (exact absurd hc1 (by decide)))⟩ ⟨rfl, rfl, rfl, rfl, rfl, rfl, rfl, rfl, trivial⟩ trivial ?_
        omega
      · intro hc2
        have hc2 := of_decide_eq_false hc2
        refine Qk<|Qp<|(Qm)<|(Qm) ?_
        refine e_mul_w rfl rfl rfl  ?_
        refine (Qa)<|Qn<|Qp<|(Qm) ?_
        refine e_shr_i (s := 1) rfl rfl rfl (by omega) ?_
        refine (Qa)<|Qn ?_
        refine QzL ⟨q / 2, _, _, rfl, rfl, rfl, (by rcases hf1_0 with ⟨rfl, rfl, rfl⟩ | ⟨rfl, rfl, rfl⟩ | ⟨rfl, rfl, rfl⟩; (first | (right; left; decide) | exact absurd hc2 (by decide)); (first | (right; right; decide) | exact absurd hc2 (by decide)); (exact absurd hc1 (by decide)))⟩ ⟨rfl, rfl, rfl, rfl, rfl, rfl, rfl, rfl, trivial⟩ trivial ?_
        omega
    · intro hc1
      have hc1 := of_decide_eq_false hc1
      refine Qe<|Qs<|Qp<|(Qm)<|(Qm)<|(Qa)<|(Qa)<|Qn<|Qr ?_
      obtain ⟨rfl, rfl⟩ : h = 337003364 ∧ pw = 1055306571 := by omega
      exact ⟨_, _, rfl, .tmp rfl, .tmp rfl⟩
set_option maxHeartbeats 4000000 in
theorem rabin_psk (l : List Nat) (hl : ∀ b ∈ l, b < 256) (h3 : 3 ≤ l.length) (hz : l.length < 4294967281) : Fn Tryd.prog G 59 #[sv l, sv PSK] (ixv (ixp l)) := by
  refine Qf1 Tryd.func59 ?_
  refine Qs<|Qp<|(Qa)<|Qn<|Qs<|Qp<|(Qm) ?_
  refine e_call rfl (Un 76) hash_psk rfl rfl ?_
  refine (Qm)<|(Qx)<|(Qx)<|(Qa)<|(Qa)<|Qn<|Qs<|Qp<|(Qm)<|(QU) ?_
  refine e_as (show _ = ii 3 from rfl) ?_
  refine (Qa)<|Qn<|Qs<|Qp<|(Qa)<|Qn<|Qs<|Qs<|Qp<|(Qa)<|Qn<|Qb ?_
  refine QzK [(0, _), (1, _), (4, _), (5, _), (6, _), (7, _)] [] (fun kk E m => ∃ (i : Nat) (h : Nat), kk = 3 - i ∧ E = [(8, uw h), (9, ii i)] ∧ m = [] ∧ (i ≤ 3) ∧ (h = hpre l i)) ⟨0, 0, rfl, rfl, rfl, by omega, (by rw [hpre, if_pos rfl])⟩ ⟨rfl, rfl, rfl, rfl, rfl, rfl, rfl, rfl, trivial⟩ trivial ?_
  rintro kk E m ⟨i, h, rfl, rfl, rfl, hf0_0, hf0_1⟩
  simp only [catE, catL]
  refine Qs<|Qs<|Qp<|(Qm)<|(Qm)<|(Ql)<|Qn ?_
  refine e_cond rfl ?_ ?_
  · intro hc0
    have hc0 : i < 3 := by have := of_decide_eq_true hc0; omega
    refine Qk<|Qs<|Qb<|Qp<|(Qm) ?_
    refine e_mul_w (q := 16777619) rfl rfl rfl  ?_
    refine (Qm)<|(Qm) ?_
    refine e_idxStr (Uu 9) rfl rfl (at_getD (show i < l.length by omega)) (getD_b hl _) rfl ?_
    refine e_conv_w (Uu 5) (Uu 105) rfl rfl rfl ?_
    refine e_as (congrArg uw (Nat.mod_eq_of_lt (Nat.lt_trans (getD_b hl (i)) (by decide)))) ?_
    refine e_add_w rfl rfl rfl  ?_
    refine (Qa)<|Qn<|Qp<|(Qm)<|(Q2 1)<|(Qa)<|Qn ?_
    refine QzL ⟨i + 1, _, rfl, rfl, rfl, by omega, (by rw [hf0_1]; exact hpre_step hc0 hl)⟩ ⟨rfl, rfl, rfl, rfl, rfl, rfl, rfl, rfl, trivial⟩ trivial ?_
    omega
  · intro hc0
    have hc0 := of_decide_eq_false hc0
    have hz0 : i = 3 := by omega
    have hg0 : h = hW l (3 - 3) := by rw [hf0_1, hz0]; exact hpre_all l
    refine Qe<|Qs<|Qs<|Qp ?_
    refine e_join [(0, _), (1, _), (4, _), (5, _), (6, _), (7, _), (8, _), (9, _), (18, _), (19, _), (20, _)] [(39, .bool (decide (oc l 0)))] [] ⟨rfl, rfl, rfl, rfl, rfl, rfl, rfl, rfl, rfl, rfl, rfl, trivial⟩ trivial ?_ ?_
    · skip
      refine (Qm)<|(Qm)<|(Qc)<|(Qm) ?_
      refine e_case (fun hb0 => ?_) (fun hb0 => ?_)
      · skip
        refine (Qy)<|(Qm)<|(Qy)<|(Qm)<|(Qy) ?_
        refine e_sliceStr 0 3 (Uu 9) rfl rfl rfl rfl ⟨_, rfl⟩ (by omega) (by omega) rfl ?_
        refine (Qy)<|(Qm)<|(Qy) ?_
        refine e_eqStr rfl rfl rfl (fun b hb => hl b (List.mem_of_mem_drop (List.mem_of_mem_take hb))) (by decide) ?_
        refine (QT)<|Qn ?_
        exact ⟨⟨rfl, rfl, rfl, rfl, rfl, rfl, rfl, rfl, rfl, rfl, rfl, trivial⟩, ⟨bool_fin (by first | exact (decide_eq_false (fun e => of_decide_eq_false hb0 (by rw [hg0, oc_hash e]))).symm | rfl), trivial⟩, trivial⟩
      · skip
        refine (Qo)<|(Qo)<|(Qo)<|(Qo)<|(Qo)<|(QF)<|Qn ?_
        exact ⟨⟨rfl, rfl, rfl, rfl, rfl, rfl, rfl, rfl, rfl, rfl, rfl, trivial⟩, ⟨bool_fin (by first | exact (decide_eq_false (fun e => of_decide_eq_false hb0 (by rw [hg0, oc_hash e]))).symm | rfl), trivial⟩, trivial⟩
    · simp only [catE]
      refine e_cond rfl ?_ ?_
      · intro hc1
        have hoc := of_decide_eq_true hc1
        have hfin := ixp_first hoc (fun j hj => absurd hj (Nat.not_lt_zero j))
        refine Qs<|Qp<|(Qa)<|Qn<|Qr ?_
        rw [hfin]
        exact ⟨_, rfl, .tmp rfl⟩
      · intro hc1
        have hn0 := of_decide_eq_false hc1
        refine Qk<|Qs<|Qs<|Qp<|(Qm)<|(Qa)<|Qn<|Qb ?_
        refine QzK [(0, _), (1, _), (5, _), (6, _), (7, _), (9, _)] [] (fun kk E m => ∃ (k : Nat) (g : Nat), kk = l.length - k ∧ E = [(8, uw g), (10, ii k)] ∧ m = [] ∧ (3 ≤ k ∧ k ≤ l.length) ∧ (g = hW l (k - 3)) ∧ (∀ j, j + 3 ≤ k → ¬ oc l j)) ⟨3, h, rfl, rfl, rfl, ⟨by omega, h3⟩, hg0, fun j hj => by rw [show j = 0 by omega]; exact hn0⟩ ⟨rfl, rfl, rfl, rfl, rfl, rfl, rfl, rfl, trivial⟩ trivial ?_
        rintro kk E m ⟨k, g, rfl, rfl, rfl, hf1_0, hf1_1, hf1_2⟩
        simp only [catE, catL]
        refine Qs<|Qs<|Qp<|(Qm)<|(Qm)<|(QU)<|(Ql)<|Qn ?_
        refine e_cond rfl ?_ ?_
        · intro hc2
          have hc2 := of_decide_eq_true hc2
          refine Qk<|Qb<|Qs<|Qp<|(Qm) ?_
          refine e_mul_w (q := 16777619) rfl rfl rfl  ?_
          refine (Qa)<|Qn<|Qs<|Qp<|(Qm)<|(Qm)<|(Qm) ?_
          refine e_idxStr (Uu 9) rfl rfl (at_getD (show k < l.length by omega)) (getD_b hl _) rfl ?_
          refine e_conv_w (Uu 5) (Uu 105) rfl rfl rfl ?_
          refine e_as (congrArg uw (Nat.mod_eq_of_lt (Nat.lt_trans (getD_b hl (k)) (by decide)))) ?_
          refine e_add_w rfl rfl rfl  ?_
          refine (Qa)<|Qn<|Qs<|Qp<|(Qm)<|(Qm)<|(Qm)<|(Qm)<|(Qm) ?_
          refine e_sub_in rfl rfl rfl (by omega) (by omega) ?_
          refine e_idxStr (Uu 9) rfl rfl (at_getD (show k - 3 < l.length by omega)) (getD_b hl _) rfl ?_
          refine e_conv_w (Uu 5) (Uu 105) rfl rfl rfl ?_
          refine e_as (congrArg uw (Nat.mod_eq_of_lt (Nat.lt_trans (getD_b hl (k - 3)) (by decide)))) ?_
          refine e_mul_w rfl rfl rfl  ?_
          refine e_sub_w rfl rfl rfl (by omega) ?_
          refine e_gen_w fun g2 hg2 => ?_
          refine (Qa)<|Qn<|Qs<|Qp<|(Qm) ?_
          have hg2 : g2 = hW l (k + 1 - 3) := by rw [hg2]; rw [hf1_1]; exact hW_roll hf1_0.1
          refine (Q2 1)<|(Qa)<|Qn<|Qs<|Qp ?_
          refine e_join [(0, _), (1, _), (5, _), (6, _), (7, _), (8, _), (9, _), (10, _), (41, _), (42, _), (43, _), (44, _), (45, _), (46, _), (47, _), (48, _), (49, _), (50, _), (51, _), (52, _), (53, _), (54, _), (55, _), (56, _), (57, _), (58, _), (59, _), (60, _), (61, _), (62, _), (63, _), (64, _)] [(77, .bool (decide (oc l (k + 1 - 3))))] [] ⟨rfl, rfl, rfl, rfl, rfl, rfl, rfl, rfl, rfl, rfl, rfl, rfl, rfl, rfl, rfl, rfl, rfl, rfl, rfl, rfl, rfl, rfl, rfl, rfl, rfl, rfl, rfl, rfl, rfl, rfl, rfl, rfl, trivial⟩ trivial ?_ ?_
          · skip
            refine (Qm)<|(Qm)<|(Qc)<|(Qm) ?_
            refine e_case (fun hb1 => ?_) (fun hb1 => ?_)
            · skip
              refine (Qy)<|(Qm)<|(Qy)<|(Qm)<|(Qy)<|(Qm)<|(Qy) ?_
              refine e_sub_in rfl rfl rfl (by omega) (by omega) ?_
              refine (Qy)<|(Qm)<|(Qy) ?_
              refine e_sliceStr (k + 1 - 3) (k + 1) (Uu 9) rfl rfl rfl ⟨_, rfl⟩ ⟨_, rfl⟩ (by omega) (by omega) rfl ?_
              refine e_as (congrArg (fun z => sv ((l.drop (k + 1 - 3)).take z)) (show k + 1 - (k + 1 - 3) = 3 by omega)) ?_
              refine (Qy)<|(Qm)<|(Qy) ?_
              refine e_eqStr rfl rfl rfl (fun b hb => hl b (List.mem_of_mem_drop (List.mem_of_mem_take hb))) (by decide) ?_
              refine (QT)<|Qn ?_
              exact ⟨⟨rfl, rfl, rfl, rfl, rfl, rfl, rfl, rfl, rfl, rfl, rfl, rfl, rfl, rfl, rfl, rfl, rfl, rfl, rfl, rfl, rfl, rfl, rfl, rfl, rfl, rfl, rfl, rfl, rfl, rfl, rfl, rfl, trivial⟩, ⟨bool_fin (by first | exact (decide_eq_false (fun e => of_decide_eq_false hb1 (by rw [hg2, oc_hash e]))).symm | rfl), trivial⟩, trivial⟩
            · skip
              refine (Qo)<|(Qo)<|(Qo)<|(Qo)<|(Qo)<|(Qo)<|(Qo)<|(Qo)<|(QF)<|Qn ?_
              exact ⟨⟨rfl, rfl, rfl, rfl, rfl, rfl, rfl, rfl, rfl, rfl, rfl, rfl, rfl, rfl, rfl, rfl, rfl, rfl, rfl, rfl, rfl, rfl, rfl, rfl, rfl, rfl, rfl, rfl, rfl, rfl, rfl, rfl, trivial⟩, ⟨bool_fin (by first | exact (decide_eq_false (fun e => of_decide_eq_false hb1 (by rw [hg2, oc_hash e]))).symm | rfl), trivial⟩, trivial⟩
          · simp only [catE]
            refine e_cond rfl ?_ ?_
            · intro hc3
              have hoc := of_decide_eq_true hc3
              have hfin := ixp_first hoc (fun j hj => hf1_2 j (by omega))
              refine Qs<|Qp<|(Qm)<|(Qm) ?_
              refine e_sub_in rfl rfl rfl (by omega) (by omega) ?_
              refine (Qa)<|Qn<|Qr ?_
              rw [hfin]
              exact ⟨_, rfl, .tmp rfl⟩
            · intro hc3
              have hn2 := of_decide_eq_false hc3
              refine Qk ?_
              refine QzL ⟨k + 1, _, rfl, rfl, rfl, (by omega), hg2, (fun j hj => by rcases (by omega : j + 3 ≤ k ∨ j = k + 1 - 3) with h9 | rfl; exact hf1_2 j h9; exact hn2)⟩ ⟨rfl, rfl, rfl, rfl, rfl, rfl, rfl, rfl, trivial⟩ trivial ?_
              omega
        · intro hc2
          have hc2 := of_decide_eq_false hc2
          have hfin := ixp_none (l := l) (fun j e => hf1_2 j (by have := oc_len e; omega) e)
          refine Qe<|Qs<|Qp<|(Qa)<|Qn<|Qr ?_
          rw [hfin]
          exact ⟨_, rfl, .tmp rfl⟩
end Go.Proofs.YtejejmhbhegneaaDoor
namespace Go.Proofs.YtejejmhbhegneaaDoor
open Go Go.RowKit
variable {G : Mem}
set_option maxHeartbeats 8000000 in
theorem lindexP_fn (l : List Nat) (m : Int) (hl : ∀ b ∈ l, b < 256) (hz : l.length < 4294967281) : Fn Tryd.prog (MLB m :: G) 41 #[sv l, sv PSK] (ixv (ixp l)) := by
  refine Qf1 Tryd.func41 ?_
  refine Qs<|Qp<|(Qa)<|Qn<|Qs<|Qp<|(Qm)<|(QU) ?_
  refine e_as (show _ = ii 3 from rfl) ?_
  refine (Qa)<|Qn<|Qs<|Qb<|Qs<|Qp ?_
  refine e_join [(0, _), (1, _), (4, _), (5, _), (14, _), (15, _)] [(16, .bool (decide (PSK = l)))] [] ⟨rfl, rfl, rfl, rfl, rfl, rfl, trivial⟩ trivial ?_ ?_
  · skip
    refine (Qm)<|(Qc)<|(Qm) ?_
    refine e_case (fun hb0 => ?_) (fun hb0 => ?_)
    · skip
      refine (Qo)<|(Qo)<|(Qo)<|(QT)<|(Qa)<|Qn ?_
      exact ⟨⟨rfl, rfl, rfl, rfl, rfl, rfl, trivial⟩, ⟨bool_fin (by first | exact absurd hb0 (by decide) | rfl), trivial⟩, trivial⟩
    · skip
      refine (Qy)<|(Qm)<|(Qy)<|(Qm)<|(Qy) ?_
      refine e_eqStr rfl rfl rfl (by decide) hl ?_
      refine (QF)<|(Qa)<|Qn ?_
      exact ⟨⟨rfl, rfl, rfl, rfl, rfl, rfl, trivial⟩, ⟨bool_fin (by first | exact absurd hb0 (by decide) | rfl), trivial⟩, trivial⟩
  · simp only [catE]
    refine e_cond rfl ?_ ?_
    · intro hc0
      have hfin := oc_psk (of_decide_eq_true hc0)
      refine Qs<|Qp<|(Qa)<|Qn<|Qr ?_
      rw [hfin]
      exact ⟨_, rfl, .tmp rfl⟩
    · intro hc0
      have hne := of_decide_eq_false hc0
      refine Qs<|Qp<|(Qm)<|(Qc)<|(Qaf)<|(Qa)<|Qn<|(Qcf)<|Qs<|Qp<|(Qm)<|(Qm)<|(QU)<|(QE)<|(Qa)<|Qn ?_
      refine e_cond rfl ?_ ?_
      · intro hc2
        have hfin := ixp_none (oc_short (by have := of_decide_eq_true hc2; omega) hne)
        refine Qs<|Qp<|(Qa)<|Qn<|Qr ?_
        rw [hfin]
        exact ⟨_, rfl, .tmp rfl⟩
      · intro hc2
        have hlen := of_decide_eq_false hc2
        refine Qs<|Qp ?_
        refine e_join [(0, _), (1, _), (4, _), (5, _), (14, _), (15, _), (16, _), (24, _), (25, _), (26, _), (31, _), (32, _), (33, _), (34, _), (35, _)] [(36, .bool (decide (((3 : Nat) : Int) ≤ m) && decide ((l.length : Int) ≤ 64)))] [] ⟨rfl, rfl, rfl, rfl, rfl, rfl, rfl, rfl, rfl, rfl, rfl, rfl, rfl, rfl, rfl, trivial⟩ trivial ?_ ?_
        · skip
          refine (Qm) ?_
          refine e_load1g (i := 0) (Uu 3) rfl rfl rfl rfl rfl ?_
          refine (QL)<|(Qm) ?_
          refine e_case (fun hb1 => ?_) (fun hb1 => ?_)
          · skip
            refine (Qy)<|(Qm)<|(Qy)<|(QU)<|(Qy)<|(QL)<|(QT)<|(Qa)<|Qn ?_
            exact ⟨⟨rfl, rfl, rfl, rfl, rfl, rfl, rfl, rfl, rfl, rfl, rfl, rfl, rfl, rfl, rfl, trivial⟩, ⟨bool_fin (by rw [hb1] <;> rfl), trivial⟩, trivial⟩
          · skip
            refine (Qo)<|(Qo)<|(Qo)<|(QF)<|(Qa)<|Qn ?_
            exact ⟨⟨rfl, rfl, rfl, rfl, rfl, rfl, rfl, rfl, rfl, rfl, rfl, rfl, rfl, rfl, rfl, trivial⟩, ⟨bool_fin (by rw [hb1] <;> rfl), trivial⟩, trivial⟩
        · simp only [catE]
          refine e_cond rfl ?_ ?_
          · intro hc3
            have hm1 := and2_true hc3
            have hfin : ixp l = ixp l := rfl
            refine Qs<|Qp<|(Qm)<|(Qm) ?_
            refine e_callEG rfl (fun w hG => xindexS l m hl hm1.1 hz w hG) rfl rfl ?_
            refine (Qa)<|Qn<|Qr ?_
            rw [hfin]
            exact ⟨_, rfl, .tmp rfl⟩
          · intro hc3
            refine Qk<|Qs<|Qp<|(Qm) ?_
            refine e_idxStr (Uu 9) rfl rfl rfl (by decide) rfl ?_
            refine (Qa)<|Qn<|Qs<|Qp<|(Qm) ?_
            refine e_idxStr (Uu 9) rfl rfl rfl (by decide) rfl ?_
            refine (Qa)<|Qn<|Qs<|Qp<|(Qa)<|Qn<|Qs<|Qp<|(Qm)<|(QU)<|(Qm) ?_
            refine e_sub_in rfl rfl rfl (by omega) (by omega) ?_
            refine (Q2 1)<|(Qa)<|Qn<|Qs<|Qp<|(Qa)<|Qn<|Qs<|Qb ?_
            refine QzK [(0, _), (1, _), (5, _), (6, _), (7, _), (9, _)] [] (fun kk E m => ∃ (i : Nat) (f : Nat), kk = (l.length - 3 + 1) - i ∧ E = [(8, ii i), (10, ii f)] ∧ m = [] ∧ (i ≤ (l.length - 3 + 1) ∧ f ≤ i) ∧ (∀ j, j < i → ¬ oc l j)) ⟨0, 0, rfl, rfl, rfl, ⟨by omega, Nat.le_refl _⟩, fun j hj => absurd hj (Nat.not_lt_zero j)⟩ ⟨rfl, rfl, rfl, rfl, rfl, rfl, rfl, rfl, trivial⟩ trivial ?_
            rintro kk E m ⟨i, f, rfl, rfl, rfl, hf0_0, hf0_1⟩
            simp only [catE, catL]
            refine Qs<|Qs<|Qp<|(Qm)<|(Qm)<|(Ql)<|Qn ?_
            refine e_cond rfl ?_ ?_
            · intro hc4
              have hit := of_decide_eq_true hc4
              refine Qk<|Qb<|Qs<|Qs ?_
              rcases skipc l i (l.length - 3 + 1) with h112 | ⟨h112, ho⟩ | ⟨o, h112, ho⟩
              · skip
                refine Qp<|(Qm)<|(Qm) ?_
                refine e_idxStr (Uu 9) rfl rfl (at_getD (show i < l.length by omega)) (getD_b hl _) rfl ?_
                refine (Qm)<|(QN)<|Qn ?_
                refine e_cond rfl ?_ ?_
                · intro hc5
                  exact absurd (of_decide_eq_true hc5) (by omega)
                · intro hc5
                  refine Qk<|Qs<|Qs<|Qp ?_
                  refine e_join [(0, _), (1, _), (5, _), (6, _), (7, _), (8, _), (9, _), (10, _), (57, _), (58, _), (59, _), (60, _), (61, _), (62, _), (63, _), (64, _)] [(93, .bool (decide (oc l i)))] [] ⟨rfl, rfl, rfl, rfl, rfl, rfl, rfl, rfl, rfl, rfl, rfl, rfl, rfl, rfl, rfl, rfl, trivial⟩ trivial ?_ ?_
                  · skip
                    refine (Qm)<|(Qm)<|(Q2 1) ?_
                    refine e_idxStr (Uu 9) rfl rfl (at_getD (show i + 1 < l.length by omega)) (getD_b hl _) rfl ?_
                    refine (Qm)<|(Qc)<|(Qm) ?_
                    refine e_case (fun hb2 => ?_) (fun hb2 => ?_)
                    · skip
                      refine (Qy)<|(Qm)<|(Qy)<|(Qm)<|(Qy)<|(Qm)<|(Qy)<|(Qm)<|(Qy)<|(Q3)<|(Qy) ?_
                      refine e_sliceStr i (i + 3) (Uu 9) rfl rfl rfl ⟨_, rfl⟩ ⟨_, rfl⟩ (by omega) (by omega) rfl ?_
                      refine e_as (congrArg (fun z => sv ((l.drop i).take z)) (show i + 3 - i = 3 by omega)) ?_
                      refine (Qy)<|(Qm)<|(Qy) ?_
                      refine e_eqStr rfl rfl rfl (fun b hb => hl b (List.mem_of_mem_drop (List.mem_of_mem_take hb))) (by decide) ?_
                      refine (QT)<|Qn ?_
                      exact ⟨⟨rfl, rfl, rfl, rfl, rfl, rfl, rfl, rfl, rfl, rfl, rfl, rfl, rfl, rfl, rfl, rfl, trivial⟩, ⟨bool_fin (by first | exact (decide_eq_false (fun x => of_decide_eq_false hb2 (by have := (oc_at x).2.1; omega))).symm | rfl), trivial⟩, trivial⟩
                    · skip
                      refine (Qo)<|(Qo)<|(Qo)<|(Qo)<|(Qo)<|(Qo)<|(Qo)<|(Qo)<|(QF)<|Qn ?_
                      exact ⟨⟨rfl, rfl, rfl, rfl, rfl, rfl, rfl, rfl, rfl, rfl, rfl, rfl, rfl, rfl, rfl, rfl, trivial⟩, ⟨bool_fin (by first | exact (decide_eq_false (fun x => of_decide_eq_false hb2 (by have := (oc_at x).2.1; omega))).symm | rfl), trivial⟩, trivial⟩
                  · simp only [catE]
                    refine e_cond rfl ?_ ?_
                    · intro hc6
                      have hoc := of_decide_eq_true hc6
                      have hfin := ixp_first hoc hf0_1
                      refine Qs<|Qp<|(Qm)<|(Qa)<|Qn<|Qr ?_
                      rw [hfin]
                      exact ⟨_, rfl, .tmp rfl⟩
                    · intro hc6
                      have hbn := oc_next hf0_1 (of_decide_eq_false hc6)
                      refine Qk<|Qs<|Qp<|(Qm)<|(Q2 1)<|(Qa)<|Qn<|Qs<|Qp<|(Qm)<|(Q2 1)<|(Qa)<|Qn<|Qs<|Qp ?_
                      refine e_join [(0, _), (1, _), (5, _), (6, _), (7, _), (8, _), (9, _), (10, _), (57, _), (58, _), (59, _), (60, _), (61, _), (62, _), (63, _), (64, _), (93, _), (95, _), (96, _), (97, _), (98, _)] [(107, .bool (decide (((3 : Nat) : Int) ≤ m) && decide ((((i + 1 + 16) / 8 : Nat) : Int) < ((f + 1 : Nat) : Int))))] [] ⟨rfl, rfl, rfl, rfl, rfl, rfl, rfl, rfl, rfl, rfl, rfl, rfl, rfl, rfl, rfl, rfl, rfl, rfl, rfl, rfl, rfl, trivial⟩ trivial ?_ ?_
                      · skip
                        refine (Qm) ?_
                        refine e_load1g (i := 0) (Uu 3) rfl rfl rfl rfl rfl ?_
                        refine (QL)<|(Qm) ?_
                        refine e_case (fun hb3 => ?_) (fun hb3 => ?_)
                        · skip
                          refine (Qy)<|(Qm)<|(Qy)<|(Qm)<|(Qy) ?_
                          refine e_call rfl (Un 58) (cutover_fn (i + 1) (by omega)) rfl rfl ?_
                          refine (Qy)<|(QG)<|(QT)<|Qn ?_
                          exact ⟨⟨rfl, rfl, rfl, rfl, rfl, rfl, rfl, rfl, rfl, rfl, rfl, rfl, rfl, rfl, rfl, rfl, rfl, rfl, rfl, rfl, rfl, trivial⟩, ⟨bool_fin (by rw [hb3] <;> rfl), trivial⟩, trivial⟩
                        · skip
                          refine (Qo)<|(Qo)<|(Qo)<|(Qo)<|(QF)<|Qn ?_
                          exact ⟨⟨rfl, rfl, rfl, rfl, rfl, rfl, rfl, rfl, rfl, rfl, rfl, rfl, rfl, rfl, rfl, rfl, rfl, rfl, rfl, rfl, rfl, trivial⟩, ⟨bool_fin (by rw [hb3] <;> rfl), trivial⟩, trivial⟩
                      · simp only [catE]
                        refine e_cond rfl ?_ ?_
                        · intro hc7
                          have hmm := and2_true hc7
                          refine Qs ?_
                          rcases ixp_cases (l.drop (i + 1)) with hq | ⟨r, hq⟩
                          · skip
                            refine Qp<|(Qm)<|(Qm) ?_
                            refine e_sliceStr (i + 1) l.length (Uu 9) rfl rfl rfl ⟨_, rfl⟩ rfl (by omega) (by omega) rfl ?_
                            refine e_as (congrArg sv (show (l.drop (i + 1)).take (l.length - (i + 1)) = (l.drop (i + 1)) from List.take_of_length_le (by simp))) ?_
                            refine (Qm) ?_
                            refine e_callEG rfl (fun w hG => xindexS (l.drop (i + 1)) m (fun b hb => hl b (List.mem_of_mem_drop hb)) hmm.1 (by rw [List.length_drop]; omega) w hG) rfl rfl ?_
                            refine e_as (show _ = Value.int .i64 (-1) by rw [hq]; rfl) ?_
                            refine (Qa)<|Qn<|Qs<|Qs<|Qp<|(Qm)<|(QE)<|Qn ?_
                            refine e_cond rfl ?_ ?_
                            · intro hc8
                              exact absurd (of_decide_eq_true hc8) (by decide)
                            · intro hc8
                              have hfin : ixp l = none := by rw [ixp_drop (i := i + 1) (by omega) hbn, hq]; rfl
                              refine Qk<|Qs<|Qp<|(Qa)<|Qn<|Qr ?_
                              rw [hfin]
                              exact ⟨_, rfl, .tmp rfl⟩
                          · skip
                            refine Qp<|(Qm)<|(Qm) ?_
                            refine e_sliceStr (i + 1) l.length (Uu 9) rfl rfl rfl ⟨_, rfl⟩ rfl (by omega) (by omega) rfl ?_
                            refine e_as (congrArg sv (show (l.drop (i + 1)).take (l.length - (i + 1)) = (l.drop (i + 1)) from List.take_of_length_le (by simp))) ?_
                            refine (Qm) ?_
                            refine e_callEG rfl (fun w hG => xindexS (l.drop (i + 1)) m (fun b hb => hl b (List.mem_of_mem_drop hb)) hmm.1 (by rw [List.length_drop]; omega) w hG) rfl rfl ?_
                            refine e_as (show _ = ii r by rw [hq]; rfl) ?_
                            refine (Qa)<|Qn<|Qs<|Qs<|Qp<|(Qm)<|(QE)<|Qn ?_
                            refine e_cond rfl ?_ ?_
                            · intro hc8
                              have hfin : ixp l = some (r + (i + 1)) := by rw [ixp_drop (i := i + 1) (by omega) hbn, hq]; rfl
                              refine Qs<|Qp<|(Qm)<|(Qm) ?_
                              refine e_add_i rfl rfl rfl (by have := ixp_lt hq; simp at this; omega) ?_
                              refine (Qa)<|Qn<|Qr ?_
                              rw [hfin]
                              exact ⟨_, rfl, .tmp rfl⟩
                            · intro hc8
                              exact absurd (of_decide_eq_false hc8) (by omega)
                        · intro hc7
                          refine Qs<|Qp ?_
                          refine e_join [(0, _), (1, _), (5, _), (6, _), (7, _), (8, _), (9, _), (10, _), (57, _), (58, _), (59, _), (60, _), (61, _), (62, _), (63, _), (64, _), (93, _), (95, _), (96, _), (97, _), (98, _), (107, _)] [(132, .bool (decide (m < ((3 : Nat) : Int)) && decide (((4 + (i + 1) / 2 ^ 4 : Nat) : Int) ≤ ((f + 1 : Nat) : Int)) && decide (((i + 1 : Nat) : Int) < ((l.length - 3 + 1) : Nat))))] [] ⟨rfl, rfl, rfl, rfl, rfl, rfl, rfl, rfl, rfl, rfl, rfl, rfl, rfl, rfl, rfl, rfl, rfl, rfl, rfl, rfl, rfl, rfl, trivial⟩ trivial ?_ ?_
                          · skip
                            refine (Qm) ?_
                            refine e_load1g (i := 0) (Uu 3) rfl rfl rfl rfl rfl ?_
                            refine (QG)<|(Qm) ?_
                            refine e_case (fun hb4 => ?_) (fun hb4 => ?_)
                            · skip
                              refine (Qy)<|(Qm)<|(Qy)<|(Qm)<|(Qy) ?_
                              refine e_shr_i (s := 4) rfl rfl rfl (by omega) ?_
                              refine (Qy) ?_
                              refine e_add_i (p := 4) rfl rfl rfl (by omega) ?_
                              refine (Qy)<|(QE)<|(QT)<|(Qm) ?_
                              refine e_case (fun hb5 => ?_) (fun hb5 => ?_)
                              · skip
                                refine (Qy)<|(Qm)<|(Qy)<|(Qm)<|(Qy)<|(Ql)<|(QT)<|Qn ?_
                                exact ⟨⟨rfl, rfl, rfl, rfl, rfl, rfl, rfl, rfl, rfl, rfl, rfl, rfl, rfl, rfl, rfl, rfl, rfl, rfl, rfl, rfl, rfl, rfl, trivial⟩, ⟨bool_fin (by rw [hb4, hb5] <;> rfl), trivial⟩, trivial⟩
                              · skip
                                refine (Qo)<|(Qo)<|(Qo)<|(QF)<|Qn ?_
                                exact ⟨⟨rfl, rfl, rfl, rfl, rfl, rfl, rfl, rfl, rfl, rfl, rfl, rfl, rfl, rfl, rfl, rfl, rfl, rfl, rfl, rfl, rfl, rfl, trivial⟩, ⟨bool_fin (by rw [hb4, hb5] <;> rfl), trivial⟩, trivial⟩
                            · skip
                              refine (Qo)<|(Qo)<|(Qo)<|(Qo)<|(Qo)<|(QF)<|(Qm)<|(Qo)<|(Qo)<|(Qo)<|(QF)<|Qn ?_
                              exact ⟨⟨rfl, rfl, rfl, rfl, rfl, rfl, rfl, rfl, rfl, rfl, rfl, rfl, rfl, rfl, rfl, rfl, rfl, rfl, rfl, rfl, rfl, rfl, trivial⟩, ⟨bool_fin (by rw [hb4] <;> rfl), trivial⟩, trivial⟩
                          · simp only [catE]
                            refine e_cond rfl ?_ ?_
                            · intro hc9
                              have hm3 := and3_true hc9
                              refine Qs ?_
                              rcases ixp_cases (l.drop (i + 1)) with hq | ⟨r, hq⟩
                              · skip
                                refine Qp<|(Qm)<|(Qm) ?_
                                refine e_sliceStr (i + 1) l.length (Uu 9) rfl rfl rfl ⟨_, rfl⟩ rfl (by omega) (by omega) rfl ?_
                                refine e_as (congrArg sv (show (l.drop (i + 1)).take (l.length - (i + 1)) = (l.drop (i + 1)) from List.take_of_length_le (by simp))) ?_
                                refine (Qm) ?_
                                refine e_call rfl (Un 59) (rabin_psk (l.drop (i + 1)) (fun b hb => hl b (List.mem_of_mem_drop hb)) (by rw [List.length_drop]; omega) (by rw [List.length_drop]; omega)) rfl rfl ?_
                                refine e_as (show _ = Value.int .i64 (-1) by rw [hq]; rfl) ?_
                                refine (Qa)<|Qn<|Qs<|Qs<|Qp<|(Qm)<|(Ql)<|Qn ?_
                                refine e_cond rfl ?_ ?_
                                · intro hc10
                                  have hfin : ixp l = none := by rw [ixp_drop (i := i + 1) (by omega) hbn, hq]; rfl
                                  refine Qs<|Qp<|(Qa)<|Qn<|Qr ?_
                                  rw [hfin]
                                  exact ⟨_, rfl, .tmp rfl⟩
                                · intro hc10
                                  exact absurd (of_decide_eq_false hc10) (by decide)
                              · skip
                                refine Qp<|(Qm)<|(Qm) ?_
                                refine e_sliceStr (i + 1) l.length (Uu 9) rfl rfl rfl ⟨_, rfl⟩ rfl (by omega) (by omega) rfl ?_
                                refine e_as (congrArg sv (show (l.drop (i + 1)).take (l.length - (i + 1)) = (l.drop (i + 1)) from List.take_of_length_le (by simp))) ?_
                                refine (Qm) ?_
                                refine e_call rfl (Un 59) (rabin_psk (l.drop (i + 1)) (fun b hb => hl b (List.mem_of_mem_drop hb)) (by rw [List.length_drop]; omega) (by rw [List.length_drop]; omega)) rfl rfl ?_
                                refine e_as (show _ = ii r by rw [hq]; rfl) ?_
                                refine (Qa)<|Qn<|Qs<|Qs<|Qp<|(Qm)<|(Ql)<|Qn ?_
                                refine e_cond rfl ?_ ?_
                                · intro hc10
                                  exact absurd (of_decide_eq_true hc10) (by omega)
                                · intro hc10
                                  have hfin : ixp l = some (i + 1 + r) := by rw [ixp_drop (i := i + 1) (by omega) hbn, hq]; exact congrArg some (Nat.add_comm _ _)
                                  refine Qk<|Qs<|Qp<|(Qm)<|(Qm) ?_
                                  refine e_add_i rfl rfl rfl (by have := ixp_lt hq; simp at this; omega) ?_
                                  refine (Qa)<|Qn<|Qr ?_
                                  rw [hfin]
                                  exact ⟨_, rfl, .tmp rfl⟩
                            · intro hc9
                              refine Qk ?_
                              refine QzL ⟨_, _, rfl, rfl, rfl, (by omega), hbn⟩ ⟨rfl, rfl, rfl, rfl, rfl, rfl, rfl, rfl, trivial⟩ trivial ?_
                              omega
              · skip
                refine Qp<|(Qm)<|(Qm) ?_
                refine e_idxStr (Uu 9) rfl rfl (at_getD (show i < l.length by omega)) (getD_b hl _) rfl ?_
                refine (Qm)<|(QN)<|Qn ?_
                refine e_cond rfl ?_ ?_
                · intro hc5
                  skip
                  refine Qs<|Qp<|(Qm)<|(Qm)<|(Q2 1)<|(Qm) ?_
                  refine e_sliceStr (i + 1) (l.length - 3 + 1) (Uu 9) rfl rfl rfl ⟨_, rfl⟩ ⟨_, rfl⟩ (by omega) (by omega) rfl ?_
                  refine (Qm) ?_
                  refine e_call rfl (Un 56) (ixbyte_fn ((l.drop (i + 1)).take ((l.length - 3 + 1) - (i + 1))) 112 (fun b hb => hl b (List.mem_of_mem_drop (List.mem_of_mem_take hb))) (by decide)) rfl rfl ?_
                  refine e_as (show _ = Value.int .i64 (-1) by rw [ho]; rfl) ?_
                  refine (Qa)<|Qn<|Qs<|Qs<|Qp<|(Qm)<|(Ql)<|Qn ?_
                  refine e_cond rfl ?_ ?_
                  · intro hc11
                    have hfin := ixp_none (oc_end rfl h112 hf0_1 ho)
                    refine Qs<|Qp<|(Qa)<|Qn<|Qr ?_
                    rw [hfin]
                    exact ⟨_, rfl, .tmp rfl⟩
                  · intro hc11
                    exact absurd (of_decide_eq_false hc11) (by decide)
                · intro hc5
                  exact absurd (of_decide_eq_false hc5) (by omega)
              · skip
                refine Qp<|(Qm)<|(Qm) ?_
                refine e_idxStr (Uu 9) rfl rfl (at_getD (show i < l.length by omega)) (getD_b hl _) rfl ?_
                refine (Qm)<|(QN)<|Qn ?_
                refine e_cond rfl ?_ ?_
                · intro hc5
                  skip
                  refine Qs<|Qp<|(Qm)<|(Qm)<|(Q2 1)<|(Qm) ?_
                  refine e_sliceStr (i + 1) (l.length - 3 + 1) (Uu 9) rfl rfl rfl ⟨_, rfl⟩ ⟨_, rfl⟩ (by omega) (by omega) rfl ?_
                  refine (Qm) ?_
                  refine e_call rfl (Un 56) (ixbyte_fn ((l.drop (i + 1)).take ((l.length - 3 + 1) - (i + 1))) 112 (fun b hb => hl b (List.mem_of_mem_drop (List.mem_of_mem_take hb))) (by decide)) rfl rfl ?_
                  refine e_as (show _ = ii o by rw [ho]; rfl) ?_
                  refine (Qa)<|Qn<|Qs<|Qs<|Qp<|(Qm)<|(Ql)<|Qn ?_
                  refine e_cond rfl ?_ ?_
                  · intro hc11
                    exact absurd (of_decide_eq_true hc11) (by omega)
                  · intro hc11
                    refine Qk<|Qp<|(Qm)<|(Qm) ?_
                    have hol : o < min ((l.length - 3 + 1) - (i + 1)) (l.length - (i + 1)) := (by have h9 := (ixb_at ho).1; simpa using h9)
                    refine (Q2 1)<|(Q3) ?_
                    refine e_gen_i fun e he => ?_
                    have hbe : ∀ j, j < e → ¬ oc l j := by rw [he]; exact oc_skip h112 hf0_1 ho
                    refine (Qa)<|Qn<|Qs<|Qs<|Qp ?_
                    refine e_join [(0, _), (1, _), (5, _), (6, _), (7, _), (8, _), (9, _), (10, _), (11, _), (57, _), (58, _), (59, _), (60, _), (61, _), (62, _), (63, _), (64, _), (65, _), (66, _), (67, _), (68, _), (69, _), (70, _), (71, _), (72, _), (73, _), (74, _), (75, _), (76, _), (77, _)] [(93, .bool (decide (oc l e)))] [] ⟨rfl, rfl, rfl, rfl, rfl, rfl, rfl, rfl, rfl, rfl, rfl, rfl, rfl, rfl, rfl, rfl, rfl, rfl, rfl, rfl, rfl, rfl, rfl, rfl, rfl, rfl, rfl, rfl, rfl, rfl, trivial⟩ trivial ?_ ?_
                    · skip
                      refine (Qm)<|(Qm)<|(Q2 1) ?_
                      refine e_idxStr (Uu 9) rfl rfl (at_getD (show e + 1 < l.length by omega)) (getD_b hl _) rfl ?_
                      refine (Qm)<|(Qc)<|(Qm) ?_
                      refine e_case (fun hb6 => ?_) (fun hb6 => ?_)
                      · skip
                        refine (Qy)<|(Qm)<|(Qy)<|(Qm)<|(Qy)<|(Qm)<|(Qy)<|(Qm)<|(Qy)<|(Q3)<|(Qy) ?_
                        refine e_sliceStr e (e + 3) (Uu 9) rfl rfl rfl ⟨_, rfl⟩ ⟨_, rfl⟩ (by omega) (by omega) rfl ?_
                        refine e_as (congrArg (fun z => sv ((l.drop e).take z)) (show e + 3 - e = 3 by omega)) ?_
                        refine (Qy)<|(Qm)<|(Qy) ?_
                        refine e_eqStr rfl rfl rfl (fun b hb => hl b (List.mem_of_mem_drop (List.mem_of_mem_take hb))) (by decide) ?_
                        refine (QT)<|Qn ?_
                        exact ⟨⟨rfl, rfl, rfl, rfl, rfl, rfl, rfl, rfl, rfl, rfl, rfl, rfl, rfl, rfl, rfl, rfl, rfl, rfl, rfl, rfl, rfl, rfl, rfl, rfl, rfl, rfl, rfl, rfl, rfl, rfl, trivial⟩, ⟨bool_fin (by first | exact (decide_eq_false (fun x => of_decide_eq_false hb6 (by have := (oc_at x).2.1; omega))).symm | rfl), trivial⟩, trivial⟩
                      · skip
                        refine (Qo)<|(Qo)<|(Qo)<|(Qo)<|(Qo)<|(Qo)<|(Qo)<|(Qo)<|(QF)<|Qn ?_
                        exact ⟨⟨rfl, rfl, rfl, rfl, rfl, rfl, rfl, rfl, rfl, rfl, rfl, rfl, rfl, rfl, rfl, rfl, rfl, rfl, rfl, rfl, rfl, rfl, rfl, rfl, rfl, rfl, rfl, rfl, rfl, rfl, trivial⟩, ⟨bool_fin (by first | exact (decide_eq_false (fun x => of_decide_eq_false hb6 (by have := (oc_at x).2.1; omega))).symm | rfl), trivial⟩, trivial⟩
                    · simp only [catE]
                      refine e_cond rfl ?_ ?_
                      · intro hc6
                        have hoc := of_decide_eq_true hc6
                        have hfin := ixp_first hoc hbe
                        refine Qs<|Qp<|(Qm)<|(Qa)<|Qn<|Qr ?_
                        rw [hfin]
                        exact ⟨_, rfl, .tmp rfl⟩
                      · intro hc6
                        have hbn := oc_next hbe (of_decide_eq_false hc6)
                        refine Qk<|Qs<|Qp<|(Qm)<|(Q2 1)<|(Qa)<|Qn<|Qs<|Qp<|(Qm)<|(Q2 1)<|(Qa)<|Qn<|Qs<|Qp ?_
                        refine e_join [(0, _), (1, _), (5, _), (6, _), (7, _), (8, _), (9, _), (10, _), (11, _), (57, _), (58, _), (59, _), (60, _), (61, _), (62, _), (63, _), (64, _), (65, _), (66, _), (67, _), (68, _), (69, _), (70, _), (71, _), (72, _), (73, _), (74, _), (75, _), (76, _), (77, _), (93, _), (95, _), (96, _), (97, _), (98, _)] [(107, .bool (decide (((3 : Nat) : Int) ≤ m) && decide ((((e + 1 + 16) / 8 : Nat) : Int) < ((f + 1 : Nat) : Int))))] [] ⟨rfl, rfl, rfl, rfl, rfl, rfl, rfl, rfl, rfl, rfl, rfl, rfl, rfl, rfl, rfl, rfl, rfl, rfl, rfl, rfl, rfl, rfl, rfl, rfl, rfl, rfl, rfl, rfl, rfl, rfl, rfl, rfl, rfl, rfl, rfl, trivial⟩ trivial ?_ ?_
                        · skip
                          refine (Qm) ?_
                          refine e_load1g (i := 0) (Uu 3) rfl rfl rfl rfl rfl ?_
                          refine (QL)<|(Qm) ?_
                          refine e_case (fun hb7 => ?_) (fun hb7 => ?_)
                          · skip
                            refine (Qy)<|(Qm)<|(Qy)<|(Qm)<|(Qy) ?_
                            refine e_call rfl (Un 58) (cutover_fn (e + 1) (by omega)) rfl rfl ?_
                            refine (Qy)<|(QG)<|(QT)<|Qn ?_
                            exact ⟨⟨rfl, rfl, rfl, rfl, rfl, rfl, rfl, rfl, rfl, rfl, rfl, rfl, rfl, rfl, rfl, rfl, rfl, rfl, rfl, rfl, rfl, rfl, rfl, rfl, rfl, rfl, rfl, rfl, rfl, rfl, rfl, rfl, rfl, rfl, rfl, trivial⟩, ⟨bool_fin (by rw [hb7] <;> rfl), trivial⟩, trivial⟩
                          · skip
                            refine (Qo)<|(Qo)<|(Qo)<|(Qo)<|(QF)<|Qn ?_
                            exact ⟨⟨rfl, rfl, rfl, rfl, rfl, rfl, rfl, rfl, rfl, rfl, rfl, rfl, rfl, rfl, rfl, rfl, rfl, rfl, rfl, rfl, rfl, rfl, rfl, rfl, rfl, rfl, rfl, rfl, rfl, rfl, rfl, rfl, rfl, rfl, rfl, trivial⟩, ⟨bool_fin (by rw [hb7] <;> rfl), trivial⟩, trivial⟩
                        · simp only [catE]
                          refine e_cond rfl ?_ ?_
                          · intro hc7
                            have hmm := and2_true hc7
                            refine Qs ?_
                            rcases ixp_cases (l.drop (e + 1)) with hq | ⟨r, hq⟩
                            · skip
                              refine Qp<|(Qm)<|(Qm) ?_
                              refine e_sliceStr (e + 1) l.length (Uu 9) rfl rfl rfl ⟨_, rfl⟩ rfl (by omega) (by omega) rfl ?_
                              refine e_as (congrArg sv (show (l.drop (e + 1)).take (l.length - (e + 1)) = (l.drop (e + 1)) from List.take_of_length_le (by simp))) ?_
                              refine (Qm) ?_
                              refine e_callEG rfl (fun w hG => xindexS (l.drop (e + 1)) m (fun b hb => hl b (List.mem_of_mem_drop hb)) hmm.1 (by rw [List.length_drop]; omega) w hG) rfl rfl ?_
                              refine e_as (show _ = Value.int .i64 (-1) by rw [hq]; rfl) ?_
                              refine (Qa)<|Qn<|Qs<|Qs<|Qp<|(Qm)<|(QE)<|Qn ?_
                              refine e_cond rfl ?_ ?_
                              · intro hc8
                                exact absurd (of_decide_eq_true hc8) (by decide)
                              · intro hc8
                                have hfin : ixp l = none := by rw [ixp_drop (i := e + 1) (by omega) hbn, hq]; rfl
                                refine Qk<|Qs<|Qp<|(Qa)<|Qn<|Qr ?_
                                rw [hfin]
                                exact ⟨_, rfl, .tmp rfl⟩
                            · skip
                              refine Qp<|(Qm)<|(Qm) ?_
                              refine e_sliceStr (e + 1) l.length (Uu 9) rfl rfl rfl ⟨_, rfl⟩ rfl (by omega) (by omega) rfl ?_
                              refine e_as (congrArg sv (show (l.drop (e + 1)).take (l.length - (e + 1)) = (l.drop (e + 1)) from List.take_of_length_le (by simp))) ?_
                              refine (Qm) ?_
                              refine e_callEG rfl (fun w hG => xindexS (l.drop (e + 1)) m (fun b hb => hl b (List.mem_of_mem_drop hb)) hmm.1 (by rw [List.length_drop]; omega) w hG) rfl rfl ?_
                              refine e_as (show _ = ii r by rw [hq]; rfl) ?_
                              refine (Qa)<|Qn<|Qs<|Qs<|Qp<|(Qm)<|(QE)<|Qn ?_
                              refine e_cond rfl ?_ ?_
                              · intro hc8
                                have hfin : ixp l = some (r + (e + 1)) := by rw [ixp_drop (i := e + 1) (by omega) hbn, hq]; rfl
                                refine Qs<|Qp<|(Qm)<|(Qm) ?_
                                refine e_add_i rfl rfl rfl (by have := ixp_lt hq; simp at this; omega) ?_
                                refine (Qa)<|Qn<|Qr ?_
                                rw [hfin]
                                exact ⟨_, rfl, .tmp rfl⟩
                              · intro hc8
                                exact absurd (of_decide_eq_false hc8) (by omega)
                          · intro hc7
                            refine Qs<|Qp ?_
                            refine e_join [(0, _), (1, _), (5, _), (6, _), (7, _), (8, _), (9, _), (10, _), (11, _), (57, _), (58, _), (59, _), (60, _), (61, _), (62, _), (63, _), (64, _), (65, _), (66, _), (67, _), (68, _), (69, _), (70, _), (71, _), (72, _), (73, _), (74, _), (75, _), (76, _), (77, _), (93, _), (95, _), (96, _), (97, _), (98, _), (107, _)] [(132, .bool (decide (m < ((3 : Nat) : Int)) && decide (((4 + (e + 1) / 2 ^ 4 : Nat) : Int) ≤ ((f + 1 : Nat) : Int)) && decide (((e + 1 : Nat) : Int) < ((l.length - 3 + 1) : Nat))))] [] ⟨rfl, rfl, rfl, rfl, rfl, rfl, rfl, rfl, rfl, rfl, rfl, rfl, rfl, rfl, rfl, rfl, rfl, rfl, rfl, rfl, rfl, rfl, rfl, rfl, rfl, rfl, rfl, rfl, rfl, rfl, rfl, rfl, rfl, rfl, rfl, rfl, trivial⟩ trivial ?_ ?_
                            · skip
                              refine (Qm) ?_
                              refine e_load1g (i := 0) (Uu 3) rfl rfl rfl rfl rfl ?_
                              refine (QG)<|(Qm) ?_
                              refine e_case (fun hb8 => ?_) (fun hb8 => ?_)
                              · skip
                                refine (Qy)<|(Qm)<|(Qy)<|(Qm)<|(Qy) ?_
                                refine e_shr_i (s := 4) rfl rfl rfl (by omega) ?_
                                refine (Qy) ?_
                                refine e_add_i (p := 4) rfl rfl rfl (by omega) ?_
                                refine (Qy)<|(QE)<|(QT)<|(Qm) ?_
                                refine e_case (fun hb9 => ?_) (fun hb9 => ?_)
                                · skip
                                  refine (Qy)<|(Qm)<|(Qy)<|(Qm)<|(Qy)<|(Ql)<|(QT)<|Qn ?_
                                  exact ⟨⟨rfl, rfl, rfl, rfl, rfl, rfl, rfl, rfl, rfl, rfl, rfl, rfl, rfl, rfl, rfl, rfl, rfl, rfl, rfl, rfl, rfl, rfl, rfl, rfl, rfl, rfl, rfl, rfl, rfl, rfl, rfl, rfl, rfl, rfl, rfl, rfl, trivial⟩, ⟨bool_fin (by rw [hb8, hb9] <;> rfl), trivial⟩, trivial⟩
                                · skip
                                  refine (Qo)<|(Qo)<|(Qo)<|(QF)<|Qn ?_
                                  exact ⟨⟨rfl, rfl, rfl, rfl, rfl, rfl, rfl, rfl, rfl, rfl, rfl, rfl, rfl, rfl, rfl, rfl, rfl, rfl, rfl, rfl, rfl, rfl, rfl, rfl, rfl, rfl, rfl, rfl, rfl, rfl, rfl, rfl, rfl, rfl, rfl, rfl, trivial⟩, ⟨bool_fin (by rw [hb8, hb9] <;> rfl), trivial⟩, trivial⟩
                              · skip
                                refine (Qo)<|(Qo)<|(Qo)<|(Qo)<|(Qo)<|(QF)<|(Qm)<|(Qo)<|(Qo)<|(Qo)<|(QF)<|Qn ?_
                                exact ⟨⟨rfl, rfl, rfl, rfl, rfl, rfl, rfl, rfl, rfl, rfl, rfl, rfl, rfl, rfl, rfl, rfl, rfl, rfl, rfl, rfl, rfl, rfl, rfl, rfl, rfl, rfl, rfl, rfl, rfl, rfl, rfl, rfl, rfl, rfl, rfl, rfl, trivial⟩, ⟨bool_fin (by rw [hb8] <;> rfl), trivial⟩, trivial⟩
                            · simp only [catE]
                              refine e_cond rfl ?_ ?_
                              · intro hc9
                                have hm3 := and3_true hc9
                                refine Qs ?_
                                rcases ixp_cases (l.drop (e + 1)) with hq | ⟨r, hq⟩
                                · skip
                                  refine Qp<|(Qm)<|(Qm) ?_
                                  refine e_sliceStr (e + 1) l.length (Uu 9) rfl rfl rfl ⟨_, rfl⟩ rfl (by omega) (by omega) rfl ?_
                                  refine e_as (congrArg sv (show (l.drop (e + 1)).take (l.length - (e + 1)) = (l.drop (e + 1)) from List.take_of_length_le (by simp))) ?_
                                  refine (Qm) ?_
                                  refine e_call rfl (Un 59) (rabin_psk (l.drop (e + 1)) (fun b hb => hl b (List.mem_of_mem_drop hb)) (by rw [List.length_drop]; omega) (by rw [List.length_drop]; omega)) rfl rfl ?_
                                  refine e_as (show _ = Value.int .i64 (-1) by rw [hq]; rfl) ?_
                                  refine (Qa)<|Qn<|Qs<|Qs<|Qp<|(Qm)<|(Ql)<|Qn ?_
                                  refine e_cond rfl ?_ ?_
                                  · intro hc10
                                    have hfin : ixp l = none := by rw [ixp_drop (i := e + 1) (by omega) hbn, hq]; rfl
                                    refine Qs<|Qp<|(Qa)<|Qn<|Qr ?_
                                    rw [hfin]
                                    exact ⟨_, rfl, .tmp rfl⟩
                                  · intro hc10
                                    exact absurd (of_decide_eq_false hc10) (by decide)
                                · skip
                                  refine Qp<|(Qm)<|(Qm) ?_
                                  refine e_sliceStr (e + 1) l.length (Uu 9) rfl rfl rfl ⟨_, rfl⟩ rfl (by omega) (by omega) rfl ?_
                                  refine e_as (congrArg sv (show (l.drop (e + 1)).take (l.length - (e + 1)) = (l.drop (e + 1)) from List.take_of_length_le (by simp))) ?_
                                  refine (Qm) ?_
                                  refine e_call rfl (Un 59) (rabin_psk (l.drop (e + 1)) (fun b hb => hl b (List.mem_of_mem_drop hb)) (by rw [List.length_drop]; omega) (by rw [List.length_drop]; omega)) rfl rfl ?_
                                  refine e_as (show _ = ii r by rw [hq]; rfl) ?_
                                  refine (Qa)<|Qn<|Qs<|Qs<|Qp<|(Qm)<|(Ql)<|Qn ?_
                                  refine e_cond rfl ?_ ?_
                                  · intro hc10
                                    exact absurd (of_decide_eq_true hc10) (by omega)
                                  · intro hc10
                                    have hfin : ixp l = some (e + 1 + r) := by rw [ixp_drop (i := e + 1) (by omega) hbn, hq]; exact congrArg some (Nat.add_comm _ _)
                                    refine Qk<|Qs<|Qp<|(Qm)<|(Qm) ?_
                                    refine e_add_i rfl rfl rfl (by have := ixp_lt hq; simp at this; omega) ?_
                                    refine (Qa)<|Qn<|Qr ?_
                                    rw [hfin]
                                    exact ⟨_, rfl, .tmp rfl⟩
                              · intro hc9
                                refine Qk ?_
                                refine QzL ⟨_, _, rfl, rfl, rfl, (by omega), hbn⟩ ⟨rfl, rfl, rfl, rfl, rfl, rfl, rfl, rfl, trivial⟩ trivial ?_
                                omega
                · intro hc5
                  exact absurd (of_decide_eq_false hc5) (by omega)
            · intro hc4
              have hit := of_decide_eq_false hc4
              have hfin := ixp_none (l := l) (fun j x => hf0_1 j (by have := oc_len x; omega) x)
              refine Qe<|Qs<|Qp<|(Qa)<|Qn<|Qr ?_
              rw [hfin]
              exact ⟨_, rfl, .tmp rfl⟩
set_option maxHeartbeats 400000 in
theorem indexP_fn (l : List Nat) (m : Int) (hl : ∀ b ∈ l, b < 256) (hz : l.length < 4294967281) : Fn Tryd.prog (MLB m :: G) 28 #[sv l, sv PSK] (ixv (ixp l)) := by
  refine Qf1 Tryd.func28 ?_
  refine Qs<|Qp<|(Qa)<|Qn<|Qs<|Qp<|(Qm)<|(Qm) ?_
  refine e_call rfl (Un 41) (lindexP_fn l m hl hz) rfl rfl ?_
  refine (Qa)<|Qn<|Qr ?_
  exact ⟨_, rfl, .tmp rfl⟩
end Go.Proofs.YtejejmhbhegneaaDoor
namespace Go.Proofs.YtejejmhbhegneaaDoor
open Go Go.RowKit
variable {G : Mem}
set_option maxHeartbeats 2000000 in
theorem apart_bad (n : List Nat) (m : Int) (hn8 : ∀ b ∈ n, b < 256) (hz : n.length < 4294967281) (hb : bad1 n = true) : Fn Tryd.prog (MLB m :: G) 27 #[sv n] (.tuple #[sv [], nilS, .bool false]) := by
  have hmid : ∀ b ∈ midN n, b < 256 := fun b hb => hn8 b (List.mem_of_mem_drop (List.mem_of_mem_take hb))
  have hml : (midN n).length ≤ n.length := by unfold midN; simp; omega
  have hcl := cutP_len n hdN
  refine Qf3 Tryd.func27 ?_
  refine Qs<|Qp ?_
  refine e_assign (v := sv []) rfl rfl ?_
  refine (Qa)<|(Qa)<|Qn<|Qs<|Qp<|(Qm) ?_
  refine e_call rfl (Un 38) (cutpre_fn n hdN hn8 (by decide)) rfl rfl ?_
  refine (Qm)<|(Qx)<|(Qx)<|(Qa)<|(Qa)<|Qn<|Qs<|Qp<|(Qm) ?_
  refine e_call rfl (Un 39) (cutsuf_fn (cutP n hdN) tlN (fun b hb => hn8 b (cutP_mem hb)) (by decide) (by omega)) rfl rfl ?_
  refine (Qm)<|(Qx)<|(Qx)<|(Qa)<|(Qa)<|Qn<|Qs<|Qs<|Qp ?_
  refine e_join [(0, _), (2, _), (3, _), (4, _), (5, _), (6, _), (7, _), (11, _), (12, _), (13, _), (14, _), (15, _), (16, _), (17, _), (18, _), (19, _), (20, _)] [(26, .bool (bad1 n))] [] ⟨rfl, rfl, rfl, rfl, rfl, rfl, rfl, rfl, rfl, rfl, rfl, rfl, rfl, rfl, rfl, rfl, rfl, trivial⟩ trivial ?_ ?_
  · skip
    refine (Qm)<|(Q0)<|(Qm) ?_
    refine e_case (b := !(hasP n hdN)) (fun hb0 => ?_) (fun hb0 => ?_)
    · skip
      refine (Qo)<|(Qo)<|(QT)<|Qn ?_
      exact ⟨⟨rfl, rfl, rfl, rfl, rfl, rfl, rfl, rfl, rfl, rfl, rfl, rfl, rfl, rfl, rfl, rfl, rfl, trivial⟩, ⟨bool_fin (by rw [bad1_cut, hb0] <;> rfl), trivial⟩, trivial⟩
    · skip
      refine (Qy)<|(Qm)<|(Qy)<|(Q0)<|(QF)<|Qn ?_
      exact ⟨⟨rfl, rfl, rfl, rfl, rfl, rfl, rfl, rfl, rfl, rfl, rfl, rfl, rfl, rfl, rfl, rfl, rfl, trivial⟩, ⟨bool_fin (by rw [bad1_cut, hb0] <;> rfl), trivial⟩, trivial⟩
  · simp only [catE]
    refine e_cond rfl ?_ ?_
    · intro hc0
      refine Qs<|Qp ?_
      refine e_assign (v := sv []) rfl rfl ?_
      refine (Qa)<|(Qa)<|Qn<|Qr ?_
      exact ⟨_, _, _, rfl, .tmp rfl, .tmp rfl, .tmp rfl⟩
    · intro hc0
      rw [hb] at hc0
      cases hc0
set_option maxHeartbeats 2000000 in
theorem apart_none (n : List Nat) (m : Int) (hn8 : ∀ b ∈ n, b < 256) (hz : n.length < 4294967281) (hb : bad1 n = false) (hi : ixp (midN n) = none) : Fn Tryd.prog (MLB m :: G) 27 #[sv n] (.tuple #[sv (midN n), nilS, .bool true]) := by
  have hmid : ∀ b ∈ midN n, b < 256 := fun b hb => hn8 b (List.mem_of_mem_drop (List.mem_of_mem_take hb))
  have hml : (midN n).length ≤ n.length := by unfold midN; simp; omega
  have hcl := cutP_len n hdN
  refine Qf3 Tryd.func27 ?_
  refine Qs<|Qp ?_
  refine e_assign (v := sv []) rfl rfl ?_
  refine (Qa)<|(Qa)<|Qn<|Qs<|Qp<|(Qm) ?_
  refine e_call rfl (Un 38) (cutpre_fn n hdN hn8 (by decide)) rfl rfl ?_
  refine (Qm)<|(Qx)<|(Qx)<|(Qa)<|(Qa)<|Qn<|Qs<|Qp<|(Qm) ?_
  refine e_call rfl (Un 39) (cutsuf_fn (cutP n hdN) tlN (fun b hb => hn8 b (cutP_mem hb)) (by decide) (by omega)) rfl rfl ?_
  refine (Qm)<|(Qx)<|(Qx)<|(Qa)<|(Qa)<|Qn<|Qs<|Qs<|Qp ?_
  refine e_join [(0, _), (2, _), (3, _), (4, _), (5, _), (6, _), (7, _), (11, _), (12, _), (13, _), (14, _), (15, _), (16, _), (17, _), (18, _), (19, _), (20, _)] [(26, .bool (bad1 n))] [] ⟨rfl, rfl, rfl, rfl, rfl, rfl, rfl, rfl, rfl, rfl, rfl, rfl, rfl, rfl, rfl, rfl, rfl, trivial⟩ trivial ?_ ?_
  · skip
    refine (Qm)<|(Q0)<|(Qm) ?_
    refine e_case (b := !(hasP n hdN)) (fun hb0 => ?_) (fun hb0 => ?_)
    · skip
      refine (Qo)<|(Qo)<|(QT)<|Qn ?_
      exact ⟨⟨rfl, rfl, rfl, rfl, rfl, rfl, rfl, rfl, rfl, rfl, rfl, rfl, rfl, rfl, rfl, rfl, rfl, trivial⟩, ⟨bool_fin (by rw [bad1_cut, hb0] <;> rfl), trivial⟩, trivial⟩
    · skip
      refine (Qy)<|(Qm)<|(Qy)<|(Q0)<|(QF)<|Qn ?_
      exact ⟨⟨rfl, rfl, rfl, rfl, rfl, rfl, rfl, rfl, rfl, rfl, rfl, rfl, rfl, rfl, rfl, rfl, rfl, trivial⟩, ⟨bool_fin (by rw [bad1_cut, hb0] <;> rfl), trivial⟩, trivial⟩
  · simp only [catE]
    refine e_cond rfl ?_ ?_
    · intro hc0
      rw [hb] at hc0
      cases hc0
    · intro hc0
      refine Qk<|Qs<|Qp<|(Qm) ?_
      refine e_as (congrArg sv (mid_cut hb)) ?_
      refine e_call rfl (Un 28) ((indexP_fn (G := []) (midN n) m hmid (by omega)).more (fun x hx => List.mem_cons.2 (.inl (List.mem_singleton.1 hx)))) rfl rfl ?_
      refine e_as (congrArg ixv hi) ?_
      refine (Qa)<|Qn<|Qs<|Qs<|Qp<|(Qm)<|(Ql)<|Qn ?_
      refine e_cond rfl ?_ ?_
      · intro hc1
        refine Qs<|Qp<|(Qm) ?_
        refine e_as (congrArg sv (mid_cut hb)) ?_
        refine (Qa)<|(Qa)<|(Qa)<|Qn<|Qr ?_
        exact ⟨_, _, _, rfl, .tmp rfl, .tmp rfl, .tmp rfl⟩
      · intro hc1
        exact absurd (of_decide_eq_false hc1) (by decide)
set_option maxHeartbeats 2000000 in
theorem apart_form (n : List Nat) (m : Int) (hn8 : ∀ b ∈ n, b < 256) (hz : n.length < 4294967281) (hb : bad1 n = false) (i : Nat) (hi : ixp (midN n) = some i) (hal : plAll (splitB ((midN n).drop i) 43) = none) : Fn Tryd.prog (MLB m :: G) 27 #[sv n] (.tuple #[sv ((midN n).take i), nilS, .bool false]) := by
  have hmid : ∀ b ∈ midN n, b < 256 := fun b hb => hn8 b (List.mem_of_mem_drop (List.mem_of_mem_take hb))
  have hml : (midN n).length ≤ n.length := by unfold midN; simp; omega
  have hcl := cutP_len n hdN
  refine Qf3 Tryd.func27 ?_
  refine Qs<|Qp ?_
  refine e_assign (v := sv []) rfl rfl ?_
  refine (Qa)<|(Qa)<|Qn<|Qs<|Qp<|(Qm) ?_
  refine e_call rfl (Un 38) (cutpre_fn n hdN hn8 (by decide)) rfl rfl ?_
  refine (Qm)<|(Qx)<|(Qx)<|(Qa)<|(Qa)<|Qn<|Qs<|Qp<|(Qm) ?_
  refine e_call rfl (Un 39) (cutsuf_fn (cutP n hdN) tlN (fun b hb => hn8 b (cutP_mem hb)) (by decide) (by omega)) rfl rfl ?_
  refine (Qm)<|(Qx)<|(Qx)<|(Qa)<|(Qa)<|Qn<|Qs<|Qs<|Qp ?_
  refine e_join [(0, _), (2, _), (3, _), (4, _), (5, _), (6, _), (7, _), (11, _), (12, _), (13, _), (14, _), (15, _), (16, _), (17, _), (18, _), (19, _), (20, _)] [(26, .bool (bad1 n))] [] ⟨rfl, rfl, rfl, rfl, rfl, rfl, rfl, rfl, rfl, rfl, rfl, rfl, rfl, rfl, rfl, rfl, rfl, trivial⟩ trivial ?_ ?_
  · skip
    refine (Qm)<|(Q0)<|(Qm) ?_
    refine e_case (b := !(hasP n hdN)) (fun hb0 => ?_) (fun hb0 => ?_)
    · skip
      refine (Qo)<|(Qo)<|(QT)<|Qn ?_
      exact ⟨⟨rfl, rfl, rfl, rfl, rfl, rfl, rfl, rfl, rfl, rfl, rfl, rfl, rfl, rfl, rfl, rfl, rfl, trivial⟩, ⟨bool_fin (by rw [bad1_cut, hb0] <;> rfl), trivial⟩, trivial⟩
    · skip
      refine (Qy)<|(Qm)<|(Qy)<|(Q0)<|(QF)<|Qn ?_
      exact ⟨⟨rfl, rfl, rfl, rfl, rfl, rfl, rfl, rfl, rfl, rfl, rfl, rfl, rfl, rfl, rfl, rfl, rfl, trivial⟩, ⟨bool_fin (by rw [bad1_cut, hb0] <;> rfl), trivial⟩, trivial⟩
  · simp only [catE]
    refine e_cond rfl ?_ ?_
    · intro hc0
      rw [hb] at hc0
      cases hc0
    · intro hc0
      refine Qk<|Qs<|Qp<|(Qm) ?_
      refine e_as (congrArg sv (mid_cut hb)) ?_
      refine e_call rfl (Un 28) ((indexP_fn (G := []) (midN n) m hmid (by omega)).more (fun x hx => List.mem_cons.2 (.inl (List.mem_singleton.1 hx)))) rfl rfl ?_
      refine e_as (congrArg ixv hi) ?_
      refine (Qa)<|Qn<|Qs<|Qs<|Qp<|(Qm)<|(Ql)<|Qn ?_
      refine e_cond rfl ?_ ?_
      · intro hc1
        exact absurd (of_decide_eq_true hc1) (by omega)
      · intro hc1
        have hil := ixp_lt hi
        refine Qk<|Qs<|Qp<|(Qm) ?_
        refine e_as (congrArg sv (mid_cut hb)) ?_
        refine (Qm) ?_
        refine e_sliceStr i (midN n).length (Uu 9) rfl rfl rfl ⟨_, rfl⟩ rfl (by omega) (by omega) rfl ?_
        refine e_as (congrArg sv (show ((midN n).drop i).take ((midN n).length - i) = ((midN n).drop i) from List.take_of_length_le (by simp))) ?_
        refine e_call rfl (Un 40) (places_bad ((midN n).drop i) (fun b hb => hmid b (List.mem_of_mem_drop hb)) (by rw [List.length_drop]; omega) hal) rfl rfl ?_
        refine (Qm)<|(Qx)<|(Qx)<|(Qa)<|(Qa)<|Qn<|Qs<|Qp<|(Qm) ?_
        refine e_as (congrArg sv (mid_cut hb)) ?_
        refine (Qm) ?_
        refine e_sliceStr 0 i (Uu 9) rfl rfl rfl rfl ⟨_, rfl⟩ (by omega) (by omega) rfl ?_
        refine e_as (show _ = sv ((midN n).take i) from rfl) ?_
        refine (Qm)<|(Qm)<|(Qa)<|(Qa)<|(Qa)<|Qn<|Qr ?_
        exact ⟨_, _, _, rfl, .tmp rfl, .tmp rfl, .tmp rfl⟩
set_option maxHeartbeats 2000000 in
theorem apart_ok (n : List Nat) (m : Int) (hn8 : ∀ b ∈ n, b < 256) (hz : n.length < 4294967281) (hb : bad1 n = false) (i : Nat) (hi : ixp (midN n) = some i) (ds : List Nat) (hal : plAll (splitB ((midN n).drop i) 43) = some ds) : Fx Tryd.prog (MLB m :: G) [] 27 #[sv n] (fun v l1 nw => l1 = [] ∧ ∃ v', v = .tuple #[sv ((midN n).take i), v', .bool true] ∧ OwnS 3 1 v' (ds.take 5).length (iis (ds.take 5)) nw) := by
  have hmid : ∀ b ∈ midN n, b < 256 := fun b hb => hn8 b (List.mem_of_mem_drop (List.mem_of_mem_take hb))
  have hml : (midN n).length ≤ n.length := by unfold midN; simp; omega
  have hcl := cutP_len n hdN
  refine QfO Tryd.func27 ?_
  refine Qs<|Qp ?_
  refine e_assign (v := sv []) rfl rfl ?_
  refine (Qa)<|(Qa)<|Qn<|Qs<|Qp<|(Qm) ?_
  refine e_call rfl (Un 38) (cutpre_fn n hdN hn8 (by decide)) rfl rfl ?_
  refine (Qm)<|(Qx)<|(Qx)<|(Qa)<|(Qa)<|Qn<|Qs<|Qp<|(Qm) ?_
  refine e_call rfl (Un 39) (cutsuf_fn (cutP n hdN) tlN (fun b hb => hn8 b (cutP_mem hb)) (by decide) (by omega)) rfl rfl ?_
  refine (Qm)<|(Qx)<|(Qx)<|(Qa)<|(Qa)<|Qn<|Qs<|Qs<|Qp ?_
  refine e_join [(0, _), (2, _), (3, _), (4, _), (5, _), (6, _), (7, _), (11, _), (12, _), (13, _), (14, _), (15, _), (16, _), (17, _), (18, _), (19, _), (20, _)] [(26, .bool (bad1 n))] [] ⟨rfl, rfl, rfl, rfl, rfl, rfl, rfl, rfl, rfl, rfl, rfl, rfl, rfl, rfl, rfl, rfl, rfl, trivial⟩ trivial ?_ ?_
  · skip
    refine (Qm)<|(Q0)<|(Qm) ?_
    refine e_case (b := !(hasP n hdN)) (fun hb0 => ?_) (fun hb0 => ?_)
    · skip
      refine (Qo)<|(Qo)<|(QT)<|Qn ?_
      exact ⟨⟨rfl, rfl, rfl, rfl, rfl, rfl, rfl, rfl, rfl, rfl, rfl, rfl, rfl, rfl, rfl, rfl, rfl, trivial⟩, ⟨bool_fin (by rw [bad1_cut, hb0] <;> rfl), trivial⟩, trivial⟩
    · skip
      refine (Qy)<|(Qm)<|(Qy)<|(Q0)<|(QF)<|Qn ?_
      exact ⟨⟨rfl, rfl, rfl, rfl, rfl, rfl, rfl, rfl, rfl, rfl, rfl, rfl, rfl, rfl, rfl, rfl, rfl, trivial⟩, ⟨bool_fin (by rw [bad1_cut, hb0] <;> rfl), trivial⟩, trivial⟩
  · simp only [catE]
    refine e_cond rfl ?_ ?_
    · intro hc0
      rw [hb] at hc0
      cases hc0
    · intro hc0
      refine Qk<|Qs<|Qp<|(Qm) ?_
      refine e_as (congrArg sv (mid_cut hb)) ?_
      refine e_call rfl (Un 28) ((indexP_fn (G := []) (midN n) m hmid (by omega)).more (fun x hx => List.mem_cons.2 (.inl (List.mem_singleton.1 hx)))) rfl rfl ?_
      refine e_as (congrArg ixv hi) ?_
      refine (Qa)<|Qn<|Qs<|Qs<|Qp<|(Qm)<|(Ql)<|Qn ?_
      refine e_cond rfl ?_ ?_
      · intro hc1
        exact absurd (of_decide_eq_true hc1) (by omega)
      · intro hc1
        have hil := ixp_lt hi
        refine Qk<|Qs<|QR ⟨[], 4, [], none⟩<|(Qm) ?_
        refine e_as (congrArg sv (mid_cut hb)) ?_
        refine (Qm) ?_
        refine e_sliceStr i (midN n).length (Uu 9) rfl rfl rfl ⟨_, rfl⟩ rfl (by omega) (by omega) rfl ?_
        refine e_as (congrArg sv (show ((midN n).drop i).take ((midN n).length - i) = ((midN n).drop i) from List.take_of_length_le (by simp))) ?_
        refine e_callN 0 (fun v => .tuple #[v, .bool true]) rfl rfl (Un 40) seenG (places_ok ((midN n).drop i) (fun b hb => hmid b (List.mem_of_mem_drop hb)) (by rw [List.length_drop]; omega) ds hal) (by simp only [maxLen, List.length_take]; omega) (by rw [List.length_map, Nat.mul_one]) rfl rfl fun v4_1 oz4_1 ho4_1 => ?_
        refine (Qm)<|(Qx)<|(Qx)<|(Qa)<|(Qa)<|Qn<|Qs<|Qp<|(Qm) ?_
        refine e_as (congrArg sv (mid_cut hb)) ?_
        refine (Qm) ?_
        refine e_sliceStr 0 i (Uu 9) rfl rfl rfl rfl ⟨_, rfl⟩ (by omega) (by omega) rfl ?_
        refine e_as (show _ = sv ((midN n).take i) from rfl) ?_
        refine (Qm)<|(Qm)<|(Qa)<|(Qa)<|(Qa)<|Qn<|Qr ?_
        exact ⟨_, _, _, _, _, 0, rfl, .tmp rfl, .tmp rfl, .tmp rfl, ho4_1, rfl⟩
end Go.Proofs.YtejejmhbhegneaaDoor
namespace Go.Proofs.YtejejmhbhegneaaDoor
open Go Go.RowKit
variable {G : Mem}
set_option maxHeartbeats 2000000 in
theorem dp_bad (n : List Nat) (m : Int) (hn8 : ∀ b ∈ n, b < 256) (hz : n.length < 4294967281) (hb : bad1 n = true) : Fn Tryd.prog (MLB m :: G) 11 #[sv n] (.tuple #[.agg (cells 6 [pV (.string ByteArray.empty), pV (.bool false), pV nilS, pV nilS, pV nilS, pV nilS]), ii 3]) := by
  refine Qf2 Tryd.func11 ?_
  refine Qs<|Qp<|(QH 0) fun r1=>(Qa)<|Qn<|Qs<|Qp<|(Qm) ?_
  refine e_call rfl (Un 27) (apart_bad n m hn8 hz hb) rfl rfl ?_
  refine (Qm)<|(Qx)<|(Qx)<|(Qx)<|(Qa)<|(Qa)<|(Qa)<|Qn<|Qs<|Qs<|Qp<|(Qm)<|(Q0)<|Qn<|(Qct)<|Qs<|Qp ?_
  refine e_buildS (cells 6 [pV (.string ByteArray.empty), pV (.bool false), pV nilS, pV nilS, pV nilS, pV nilS]) (Ub 26 rfl) (Uu 26 rfl) pls26 rfl (by kernel_rfl) rfl ?_
  refine e_storeA (i := 0) (Uz 26) rfl rfl (arrv_size _ _) (cells_one ⟨fun _ => rfl, fun _ => rfl, fun _ => rfl, fun _ => rfl, fun _ => rfl, fun _ => rfl, trivial⟩) rfl cells_sz (.inl rfl) ?_
  refine (Qa)<|Qn<|Qr ?_
  exact ⟨_, _, rfl, .cell (i := 0) rfl rfl (Uu 26) rfl (Uz 26) (arrv_size _ _), .tmp rfl⟩
set_option maxHeartbeats 2000000 in
theorem dp_form (n : List Nat) (m : Int) (hn8 : ∀ b ∈ n, b < 256) (hz : n.length < 4294967281) (hb : bad1 n = false) (i : Nat) (hi : ixp (midN n) = some i) (hal : plAll (splitB ((midN n).drop i) 43) = none) : Fn Tryd.prog (MLB m :: G) 11 #[sv n] (.tuple #[.agg (cells 6 [pV (.string ByteArray.empty), pV (.bool false), pV nilS, pV nilS, pV nilS, pV nilS]), ii 3]) := by
  refine Qf2 Tryd.func11 ?_
  refine Qs<|Qp<|(QH 0) fun r1=>(Qa)<|Qn<|Qs<|Qp<|(Qm) ?_
  refine e_call rfl (Un 27) (apart_form n m hn8 hz hb i hi hal) rfl rfl ?_
  refine (Qm)<|(Qx)<|(Qx)<|(Qx)<|(Qa)<|(Qa)<|(Qa)<|Qn<|Qs<|Qs<|Qp<|(Qm)<|(Q0)<|Qn<|(Qct)<|Qs<|Qp ?_
  refine e_buildS (cells 6 [pV (.string ByteArray.empty), pV (.bool false), pV nilS, pV nilS, pV nilS, pV nilS]) (Ub 26 rfl) (Uu 26 rfl) pls26 rfl (by kernel_rfl) rfl ?_
  refine e_storeA (i := 0) (Uz 26) rfl rfl (arrv_size _ _) (cells_one ⟨fun _ => rfl, fun _ => rfl, fun _ => rfl, fun _ => rfl, fun _ => rfl, fun _ => rfl, trivial⟩) rfl cells_sz (.inl rfl) ?_
  refine (Qa)<|Qn<|Qr ?_
  exact ⟨_, _, rfl, .cell (i := 0) rfl rfl (Uu 26) rfl (Uz 26) (arrv_size _ _), .tmp rfl⟩
set_option maxHeartbeats 2000000 in
theorem dp_n_err (n : List Nat) (m : Int) (hn8 : ∀ b ∈ n, b < 256) (hz : n.length < 4294967281) (hb : bad1 n = false) (hi : ixp (midN n) = none) (e : Nat) (hW : Fn Tryd.prog (MLB m :: G) 8 #[sv (midN n), nilS] (.tuple #[.agg (cells 6 [pV (.string ByteArray.empty), pV (.bool false), pV nilS, pV nilS, pV nilS, pV nilS]), ii e])) : Fn Tryd.prog (MLB m :: G) 11 #[sv n] (.tuple #[.agg (cells 6 [pV (.string ByteArray.empty), pV (.bool false), pV nilS, pV nilS, pV nilS, pV nilS]), ii e]) := by
  refine Qf2 Tryd.func11 ?_
  refine Qs<|Qp<|(QH 0) fun r1=>(Qa)<|Qn<|Qs<|Qp<|(Qm) ?_
  refine e_call rfl (Un 27) (apart_none n m hn8 hz hb hi) rfl rfl ?_
  refine (Qm)<|(Qx)<|(Qx)<|(Qx)<|(Qa)<|(Qa)<|(Qa)<|Qn<|Qs<|Qs<|Qp<|(Qm)<|(Q0)<|Qn<|(Qcf)<|Qk<|Qs<|Qp<|(Qm)<|(Qm) ?_
  refine e_call rfl (Un 8) hW rfl rfl ?_
  refine (Qx)<|(Qx) ?_
  refine e_storeA (i := 0) (Uz 26) rfl rfl (arrv_size _ _) (cells_one ⟨fun _ => rfl, fun _ => rfl, fun _ => rfl, fun _ => rfl, fun _ => rfl, fun _ => rfl, trivial⟩) rfl cells_sz (.inl rfl) ?_
  refine (Qa)<|Qn<|Qr ?_
  exact ⟨_, _, rfl, .cell (i := 0) rfl rfl (Uu 26) rfl (Uz 26) (arrv_size _ _), .tmp rfl⟩
set_option maxHeartbeats 4000000 in
theorem dp_n_ok (n : List Nat) (m : Int) (hn8 : ∀ b ∈ n, b < 256) (hz : n.length < 4294967281) (hb : bad1 n = false) (hi : ixp (midN n) = none) (he : (pwith (midN n) []).1 = 0) : Fx Tryd.prog (MLB m :: G) [] 11 #[sv n] (fun w l1 nw => l1 = [] ∧ ∃ w', w = .tuple #[w', ii 0] ∧ PatIs2 (midN n) (decide ((midN n) = nXF)) [] (wq (midN n) (ci []) 0) (wq (midN n) (ci []) 1) (wt (midN n) (ci [])) w' nw) := by
  have hmid : ∀ b ∈ midN n, b < 256 := fun b hb => hn8 b (List.mem_of_mem_drop (List.mem_of_mem_take hb))
  have hml : (midN n).length ≤ n.length := by unfold midN; simp; omega
  have hcl := cutP_len n hdN
  refine fxD2 (n := 21) Tryd.func11 rfl rfl (by simp) (argE [sv n] 0) (argE_ok _) ?_
  refine Qs<|Qp<|(QH 0) fun r1=>(Qa)<|Qn<|Qs<|Qp<|(Qm) ?_
  refine e_call rfl (Un 27) (apart_none n m hn8 hz hb hi) rfl rfl ?_
  refine (Qm)<|(Qx)<|(Qx)<|(Qx)<|(Qa)<|(Qa)<|(Qa)<|Qn<|Qs<|Qs<|Qp<|(Qm)<|(Q0)<|Qn<|(Qcf)<|Qk<|Qs<|QR ⟨[], 4, [], none⟩<|(Qm)<|(Qm) ?_
  refine e_callD [(0, _)] (by repeat (first | exact bag_nil | exact bag_lab _ | apply bag_skip rfl)) ⟨rfl, trivial⟩ rfl rfl rfl (Un 8) seenG (dwith_ok (G := (MLB m :: G)) (midN n) nilS [] hmid (.inl ⟨rfl, rfl, none, 0, rfl, fun _ => rfl⟩) (by simp) he) (pat_roomI (midN n) (decide ((midN n) = nXF)) [] (wq (midN n) [] 0) (wq (midN n) [] 1) (wt (midN n) [])) rfl rfl fun v2_1 nw2_1 hD2_1 => ?_
  simp only [catL]
  obtain ⟨_, rfl, vp1, hp1, va1, vb1, vt1, tv1, rfl, ha1, hb1, ht1, hn1, hl1⟩ := hD2_1
  refine (Qx)<|(Qx) ?_
  refine e_storeA (i := 0) (Uz 26) rfl rfl (arrv_size _ _) (catOkP (shows_oneC hp1) (shows_oneC ha1) (shows_oneC hb1) (shows_oneC ht1)) rfl cells_sz (.inl rfl) ?_
  refine (Qa)<|Qn<|Qr ?_
  exact ⟨_, _, _, ([] ++ nw2_1), rfl, .cell (i := 0) rfl rfl (Uu 26) rfl (Uz 26) (arrv_size _ _), .tmp rfl, (pat_two ⟨vp1, hp1, va1, vb1, vt1, tv1, rfl, ha1, hb1, ht1, hn1, hl1⟩), (by repeat (first | exact bag_nil | exact bag_lab _ | apply bag_skip rfl))⟩
end Go.Proofs.YtejejmhbhegneaaDoor
namespace Go.Proofs.YtejejmhbhegneaaDoor
open Go Go.RowKit
variable {G : Mem}
set_option maxHeartbeats 4000000 in
theorem dp_p_none (n : List Nat) (m : Int) (hn8 : ∀ b ∈ n, b < 256) (hz : n.length < 4294967281) (hb : bad1 n = false) (i : Nat) (hi : ixp (midN n) = some i) (ds : List Nat) (hal : plAll (splitB ((midN n).drop i) 43) = some ds) (h0 : ptext ((midN n).take i) = []) : Fn Tryd.prog (MLB m :: G) 11 #[sv n] (.tuple #[.agg (cells 6 [pV (.string ByteArray.empty), pV (.bool false), pV nilS, pV nilS, pV nilS, pV nilS]), ii 5]) := by
  have hmid : ∀ b ∈ midN n, b < 256 := fun b hb => hn8 b (List.mem_of_mem_drop (List.mem_of_mem_take hb))
  have hml : (midN n).length ≤ n.length := by unfold midN; simp; omega
  have hcl := cutP_len n hdN
  refine Qf2 Tryd.func11 ?_
  refine Qs<|Qp<|(QH 0) fun r1=>(Qa)<|Qn<|Qs<|QR ⟨[], 4, [], none⟩<|(Qm) ?_
  refine e_callN 1 (fun v => .tuple #[sv ((midN n).take i), v, .bool true]) rfl rfl (Un 27) seenG (apart_ok n m hn8 hz hb i hi ds hal) (by simp only [maxLen, List.length_take]; omega) (by rw [List.length_map, Nat.mul_one]) rfl rfl fun v1_1 oz1_1 ho1_1 => ?_
  refine (Qm)<|(Qx)<|(Qx)<|(Qx)<|(Qa)<|(Qa)<|(Qa)<|Qn<|Qs<|Qs<|Qp<|(Qm)<|(Q0)<|Qn<|(Qcf)<|Qk<|Qs<|Qp<|(Qm)<|(Qm) ?_
  refine e_callS rfl rfl (Un 8) (seen_app (seenM 1 rfl ⟨[], trivial⟩) seenG) (dwith_none (G := (oz1_1.toList ++ (MLB m :: G))) ((midN n).take i) v1_1 (fun b hb => hmid b (List.mem_of_mem_take hb)) h0) rfl rfl ?_
  refine (Qx)<|(Qx) ?_
  refine e_storeA (i := 0) (Uz 26) rfl rfl (arrv_size _ _) (cells_one ⟨fun _ => rfl, fun _ => rfl, fun _ => rfl, fun _ => rfl, fun _ => rfl, fun _ => rfl, trivial⟩) rfl cells_sz (.inl rfl) ?_
  refine (Qa)<|Qn<|Qr ?_
  exact ⟨_, _, rfl, .cell (i := 0) rfl rfl (Uu 26) rfl (Uz 26) (arrv_size _ _), .tmp rfl⟩
set_option maxHeartbeats 4000000 in
theorem dp_p_err (n : List Nat) (m : Int) (hn8 : ∀ b ∈ n, b < 256) (hz : n.length < 4294967281) (hb : bad1 n = false) (i : Nat) (hi : ixp (midN n) = some i) (ds : List Nat) (hal : plAll (splitB ((midN n).drop i) 43) = some ds) (h0 : ptext ((midN n).take i) ≠ []) (e : Nat) (he : (pwith ((midN n).take i) (ci (ds.take 5))).1 = e) (he0 : e ≠ 0) : Fn Tryd.prog (MLB m :: G) 11 #[sv n] (.tuple #[.agg (cells 6 [pV (.string ByteArray.empty), pV (.bool false), pV nilS, pV nilS, pV nilS, pV nilS]), ii e]) := by
  have hmid : ∀ b ∈ midN n, b < 256 := fun b hb => hn8 b (List.mem_of_mem_drop (List.mem_of_mem_take hb))
  have hml : (midN n).length ≤ n.length := by unfold midN; simp; omega
  have hcl := cutP_len n hdN
  refine Qf2 Tryd.func11 ?_
  refine Qs<|Qp<|(QH 0) fun r1=>(Qa)<|Qn<|Qs<|QR ⟨[], 4, [], none⟩<|(Qm) ?_
  refine e_callN 1 (fun v => .tuple #[sv ((midN n).take i), v, .bool true]) rfl rfl (Un 27) seenG (apart_ok n m hn8 hz hb i hi ds hal) (by simp only [maxLen, List.length_take]; omega) (by rw [List.length_map, Nat.mul_one]) rfl rfl fun v1_1 oz1_1 ho1_1 => ?_
  refine (Qm)<|(Qx)<|(Qx)<|(Qx)<|(Qa)<|(Qa)<|(Qa)<|Qn<|Qs<|Qs<|Qp<|(Qm)<|(Q0)<|Qn<|(Qcf)<|Qk<|Qs<|Qp<|(Qm)<|(Qm) ?_
  refine e_callS rfl rfl (Un 8) (seen_app (seenM 1 rfl ⟨[], trivial⟩) seenG) (dwith_err (G := (oz1_1.toList ++ (MLB m :: G))) ((midN n).take i) v1_1 (ci (ds.take 5)) e (fun b hb => hmid b (List.mem_of_mem_take hb)) (by rw [ci_ii, show (ci (ds.take 5)).length = (ds.take 5).length by simp [ci]]; exact ho1_1.shows.mono (fun x hx => List.mem_append_left _ hx)) (by simp only [ci, List.length_map, List.length_take]; omega) h0 he he0) rfl rfl ?_
  refine (Qx)<|(Qx) ?_
  refine e_storeA (i := 0) (Uz 26) rfl rfl (arrv_size _ _) (cells_one ⟨fun _ => rfl, fun _ => rfl, fun _ => rfl, fun _ => rfl, fun _ => rfl, fun _ => rfl, trivial⟩) rfl cells_sz (.inl rfl) ?_
  refine (Qa)<|Qn<|Qr ?_
  exact ⟨_, _, rfl, .cell (i := 0) rfl rfl (Uu 26) rfl (Uz 26) (arrv_size _ _), .tmp rfl⟩
set_option maxHeartbeats 4000000 in
theorem dp_p_ok (n : List Nat) (m : Int) (hn8 : ∀ b ∈ n, b < 256) (hz : n.length < 4294967281) (hb : bad1 n = false) (i : Nat) (hi : ixp (midN n) = some i) (ds : List Nat) (hal : plAll (splitB ((midN n).drop i) 43) = some ds) (he : (pwith ((midN n).take i) (ci ds)).1 = 0) : Fx Tryd.prog (MLB m :: G) [] 11 #[sv n] (fun w l1 nw => l1 = [] ∧ ∃ w', w = .tuple #[w', ii 0] ∧ PatIs2 ((midN n).take i) (decide (((midN n).take i) = nXF)) ds (wq ((midN n).take i) (ci ds) 0) (wq ((midN n).take i) (ci ds) 1) (wt ((midN n).take i) (ci ds)) w' nw) := by
  have hmid : ∀ b ∈ midN n, b < 256 := fun b hb => hn8 b (List.mem_of_mem_drop (List.mem_of_mem_take hb))
  have hml : (midN n).length ≤ n.length := by unfold midN; simp; omega
  have hcl := cutP_len n hdN
  have ht5 : ds.take 5 = ds := take5_ok he
  refine fxD2 (n := 21) Tryd.func11 rfl rfl (by simp) (argE [sv n] 0) (argE_ok _) ?_
  refine Qs<|Qp<|(QH 0) fun r1=>(Qa)<|Qn<|Qs<|QR ⟨[], 4, [], none⟩<|(Qm) ?_
  refine e_callN 1 (fun v => .tuple #[sv ((midN n).take i), v, .bool true]) rfl rfl (Un 27) seenG (apart_ok n m hn8 hz hb i hi ds hal) (by simp only [maxLen, List.length_take]; omega) (by rw [List.length_map, Nat.mul_one]) rfl rfl fun v1_1 oz1_1 ho1_1 => ?_
  refine (Qm)<|(Qx)<|(Qx)<|(Qx)<|(Qa)<|(Qa)<|(Qa)<|Qn<|Qs<|Qs<|Qp<|(Qm)<|(Q0)<|Qn<|(Qcf)<|Qk<|Qs<|QR ⟨[], 4, [], none⟩<|(Qm)<|(Qm) ?_
  refine e_callD [(0, _), (1, _)] (by repeat (first | exact bag_nil | exact bag_lab _ | apply bag_skip rfl)) ⟨rfl, rfl, trivial⟩ rfl rfl rfl (Un 8) (seen_app (seenM 1 rfl ⟨[], trivial⟩) seenG) (dwith_ok (G := (oz1_1.toList ++ (MLB m :: G))) ((midN n).take i) v1_1 (ci ds) (fun b hb => hmid b (List.mem_of_mem_take hb)) (by rw [ci_ii, show (ci ds).length = ds.length by simp [ci]]; rw [ht5] at ho1_1; exact ho1_1.shows.mono (fun x hx => List.mem_append_left _ hx)) (by have := (pwith_in he).2.1; omega) he) (pat_roomI ((midN n).take i) (decide (((midN n).take i) = nXF)) (ci ds) (wq ((midN n).take i) (ci ds) 0) (wq ((midN n).take i) (ci ds) 1) (wt ((midN n).take i) (ci ds))) rfl rfl fun v2_2 nw2_2 hD2_2 => ?_
  simp only [catL]
  obtain ⟨_, rfl, vp1, hp1, va1, vb1, vt1, tv1, rfl, ha1, hb1, ht1, hn1, hl1⟩ := hD2_2
  refine (Qx)<|(Qx) ?_
  refine e_storeA (i := 0) (Uz 26) rfl rfl (arrv_size _ _) (catOkP (shows_oneC hp1) (shows_oneC ha1) (shows_oneC hb1) (shows_oneC ht1)) rfl cells_sz (.inl rfl) ?_
  refine (Qa)<|Qn<|Qr ?_
  exact ⟨_, _, _, ([] ++ nw2_2), rfl, .cell (i := 0) rfl rfl (Uu 26) rfl (Uz 26) (arrv_size _ _), .tmp rfl, (pat_two ⟨vp1, hp1, va1, vb1, vt1, tv1, rfl, ha1, hb1, ht1, hn1, hl1⟩), (by repeat (first | exact bag_nil | exact bag_lab _ | apply bag_skip rfl))⟩
end Go.Proofs.YtejejmhbhegneaaDoor
namespace Go.Proofs.YtejejmhbhegneaaDoor
open Go Go.RowKit
variable {G : Mem}
set_option maxHeartbeats 2000000 in
theorem named_bad (n : List Nat) (m : Int) (hn8 : ∀ b ∈ n, b < 256) (hz : n.length < 4294967281) (hb : bad1 n = true) : Fn Tryd.prog ((⟨1, arr .u8 256 asp, 77⟩ : Blk) :: MLB m :: G) 12 #[sv n] (.tuple #[.agg (cells 6 [pV (.string ByteArray.empty), pV (.bool false), pV nilS, pV nilS, pV nilS, pV nilS]), ii 3]) := by
  refine Qf2 Tryd.func12 ?_
  refine Qs<|Qp<|(QH 0) fun r1=>(Qa)<|Qn<|Qs<|Qs<|Qp ?_
  refine e_join [(0, _), (2, _), (3, _)] [(28, .bool (bad1 n))] [(0, some _)] ⟨rfl, rfl, rfl, trivial⟩ ⟨rfl, trivial⟩ ?_ ?_
  · skip
    refine (Qm)<|(QU)<|(Ql)<|(Qm) ?_
    refine e_case (fun hb0 => ?_) (fun hb0 => ?_)
    · skip
      refine (Qo)<|(Qo)<|(Qo)<|(QT)<|(Qm)<|(Qo)<|(Qo)<|(Qo)<|(QT)<|(Qm)<|(Qo)<|(Qo)<|(Qo)<|(Qo)<|(Qo)<|(Qo)<|(QT)<|Qn ?_
      exact ⟨⟨rfl, rfl, rfl, trivial⟩, ⟨bool_fin (by rw [bad1, hb0] <;> rfl), trivial⟩, ⟨rfl, trivial⟩⟩
    · skip
      refine (Qy)<|(Qm)<|(Qy) ?_
      refine e_sliceStr 0 6 (Uu 9) rfl rfl rfl rfl ⟨_, rfl⟩ (by omega) (by have := of_decide_eq_false hb0; omega) rfl ?_
      refine (Qy) ?_
      refine e_neStr (k := [78, 111, 105, 115, 101, 95]) rfl rfl rfl (fun b hb => hn8 b (List.mem_of_mem_drop (List.mem_of_mem_take hb))) (by decide) ?_
      refine e_as (show _ = Value.bool (decide (n.take 6 ≠ hdN)) from rfl) ?_
      refine (QF)<|(Qm) ?_
      refine e_case (fun hb1 => ?_) (fun hb1 => ?_)
      · skip
        refine (Qo)<|(Qo)<|(Qo)<|(QT)<|(Qm)<|(Qo)<|(Qo)<|(Qo)<|(Qo)<|(Qo)<|(Qo)<|(QT)<|Qn ?_
        exact ⟨⟨rfl, rfl, rfl, trivial⟩, ⟨bool_fin (by rw [bad1, hb0, hb1] <;> rfl), trivial⟩, ⟨rfl, trivial⟩⟩
      · skip
        refine (Qy)<|(Qm)<|(Qy)<|(QU)<|(Qy)<|(Ql)<|(QF)<|(Qm) ?_
        refine e_case (fun hb2 => ?_) (fun hb2 => ?_)
        · skip
          refine (Qo)<|(Qo)<|(Qo)<|(Qo)<|(Qo)<|(Qo)<|(QT)<|Qn ?_
          exact ⟨⟨rfl, rfl, rfl, trivial⟩, ⟨bool_fin (by rw [bad1, hb0, hb1, hb2] <;> rfl), trivial⟩, ⟨rfl, trivial⟩⟩
        · skip
          refine (Qy)<|(Qm)<|(Qy)<|(Qm)<|(Qy)<|(QU)<|(Qy) ?_
          refine e_sub_in (q := 25) rfl rfl rfl (by omega) (by have := of_decide_eq_false hb2; omega) ?_
          refine (Qy) ?_
          refine e_sliceStr (n.length - 25) n.length (Uu 9) rfl rfl rfl ⟨_, rfl⟩ rfl (by omega) (by omega) rfl ?_
          refine e_as (congrArg sv (show (n.drop (n.length - 25)).take (n.length - (n.length - 25)) = n.drop (n.length - 25) from List.take_of_length_le (by simp))) ?_
          refine (Qy) ?_
          refine e_neStr (k := [95, 50, 53, 53, 49, 57, 95, 67, 104, 97, 67, 104, 97, 80, 111, 108, 121, 95, 66, 76, 65, 75, 69, 50, 115]) rfl rfl rfl (fun b hb => hn8 b (List.mem_of_mem_drop hb)) (by decide) ?_
          refine (QF)<|Qn ?_
          exact ⟨⟨rfl, rfl, rfl, trivial⟩, ⟨bool_fin (by rw [bad1, hb0, hb1, hb2] <;> rfl), trivial⟩, ⟨rfl, trivial⟩⟩
  · simp only [catE]
    refine e_cond rfl ?_ ?_
    · intro hc0
      refine Qs<|Qp ?_
      refine e_buildS (cells 6 [pV (.string ByteArray.empty), pV (.bool false), pV nilS, pV nilS, pV nilS, pV nilS]) (Ub 26 rfl) (Uu 26 rfl) pls26 rfl (by kernel_rfl) rfl ?_
      refine e_storeA (i := 0) (Uz 26) rfl rfl (arrv_size _ _) (cells_one ⟨fun _ => rfl, fun _ => rfl, fun _ => rfl, fun _ => rfl, fun _ => rfl, fun _ => rfl, trivial⟩) rfl cells_sz (.inl rfl) ?_
      refine (Qa)<|Qn<|Qr ?_
      exact ⟨_, _, rfl, .cell (i := 0) rfl rfl (Uu 26) rfl (Uz 26) (arrv_size _ _), .tmp rfl⟩
    · intro hc0
      rw [hb] at hc0; cases hc0
set_option maxHeartbeats 2000000 in
theorem named_n_err (n : List Nat) (m : Int) (hn8 : ∀ b ∈ n, b < 256) (hz : n.length < 4294967281) (hb : bad1 n = false) (hi : ixp (midN n) = none) (e : Nat) (he : (pwith (midN n) []).1 = e) (h0 : e ≠ 0) : Fn Tryd.prog ((⟨1, arr .u8 256 asp, 77⟩ : Blk) :: MLB m :: G) 12 #[sv n] (.tuple #[.agg (cells 6 [pV (.string ByteArray.empty), pV (.bool false), pV nilS, pV nilS, pV nilS, pV nilS]), ii e]) := by
  have hmid : ∀ b ∈ midN n, b < 256 := fun b hb => hn8 b (List.mem_of_mem_drop (List.mem_of_mem_take hb))
  have hml : (midN n).length ≤ n.length := by unfold midN; simp; omega
  refine Qf2 Tryd.func12 ?_
  refine Qs<|Qp<|(QH 0) fun r1=>(Qa)<|Qn<|Qs<|Qs<|Qp ?_
  refine e_join [(0, _), (2, _), (3, _)] [(28, .bool (bad1 n))] [(0, some _)] ⟨rfl, rfl, rfl, trivial⟩ ⟨rfl, trivial⟩ ?_ ?_
  · skip
    refine (Qm)<|(QU)<|(Ql)<|(Qm) ?_
    refine e_case (fun hb0 => ?_) (fun hb0 => ?_)
    · skip
      refine (Qo)<|(Qo)<|(Qo)<|(QT)<|(Qm)<|(Qo)<|(Qo)<|(Qo)<|(QT)<|(Qm)<|(Qo)<|(Qo)<|(Qo)<|(Qo)<|(Qo)<|(Qo)<|(QT)<|Qn ?_
      exact ⟨⟨rfl, rfl, rfl, trivial⟩, ⟨bool_fin (by rw [bad1, hb0] <;> rfl), trivial⟩, ⟨rfl, trivial⟩⟩
    · skip
      refine (Qy)<|(Qm)<|(Qy) ?_
      refine e_sliceStr 0 6 (Uu 9) rfl rfl rfl rfl ⟨_, rfl⟩ (by omega) (by have := of_decide_eq_false hb0; omega) rfl ?_
      refine (Qy) ?_
      refine e_neStr (k := [78, 111, 105, 115, 101, 95]) rfl rfl rfl (fun b hb => hn8 b (List.mem_of_mem_drop (List.mem_of_mem_take hb))) (by decide) ?_
      refine e_as (show _ = Value.bool (decide (n.take 6 ≠ hdN)) from rfl) ?_
      refine (QF)<|(Qm) ?_
      refine e_case (fun hb1 => ?_) (fun hb1 => ?_)
      · skip
        refine (Qo)<|(Qo)<|(Qo)<|(QT)<|(Qm)<|(Qo)<|(Qo)<|(Qo)<|(Qo)<|(Qo)<|(Qo)<|(QT)<|Qn ?_
        exact ⟨⟨rfl, rfl, rfl, trivial⟩, ⟨bool_fin (by rw [bad1, hb0, hb1] <;> rfl), trivial⟩, ⟨rfl, trivial⟩⟩
      · skip
        refine (Qy)<|(Qm)<|(Qy)<|(QU)<|(Qy)<|(Ql)<|(QF)<|(Qm) ?_
        refine e_case (fun hb2 => ?_) (fun hb2 => ?_)
        · skip
          refine (Qo)<|(Qo)<|(Qo)<|(Qo)<|(Qo)<|(Qo)<|(QT)<|Qn ?_
          exact ⟨⟨rfl, rfl, rfl, trivial⟩, ⟨bool_fin (by rw [bad1, hb0, hb1, hb2] <;> rfl), trivial⟩, ⟨rfl, trivial⟩⟩
        · skip
          refine (Qy)<|(Qm)<|(Qy)<|(Qm)<|(Qy)<|(QU)<|(Qy) ?_
          refine e_sub_in (q := 25) rfl rfl rfl (by omega) (by have := of_decide_eq_false hb2; omega) ?_
          refine (Qy) ?_
          refine e_sliceStr (n.length - 25) n.length (Uu 9) rfl rfl rfl ⟨_, rfl⟩ rfl (by omega) (by omega) rfl ?_
          refine e_as (congrArg sv (show (n.drop (n.length - 25)).take (n.length - (n.length - 25)) = n.drop (n.length - 25) from List.take_of_length_le (by simp))) ?_
          refine (Qy) ?_
          refine e_neStr (k := [95, 50, 53, 53, 49, 57, 95, 67, 104, 97, 67, 104, 97, 80, 111, 108, 121, 95, 66, 76, 65, 75, 69, 50, 115]) rfl rfl rfl (fun b hb => hn8 b (List.mem_of_mem_drop hb)) (by decide) ?_
          refine (QF)<|Qn ?_
          exact ⟨⟨rfl, rfl, rfl, trivial⟩, ⟨bool_fin (by rw [bad1, hb0, hb1, hb2] <;> rfl), trivial⟩, ⟨rfl, trivial⟩⟩
  · simp only [catE]
    refine e_cond rfl ?_ ?_
    · intro hc0
      rw [hb] at hc0; cases hc0
    · intro hc0
      have h31 := bad1_no hb
      refine Qk<|Qs<|Qp<|(Qm)<|(Qm)<|(QU) ?_
      refine e_sub_in (q := 25) rfl rfl rfl (by omega) (by omega) ?_
      refine e_sliceStr 6 (n.length - 25) (Uu 9) rfl rfl rfl ⟨_, rfl⟩ ⟨_, rfl⟩ (by omega) (by omega) rfl ?_
      refine e_as (show _ = sv (midN n) from rfl) ?_
      refine (Qa)<|Qn<|Qs<|Qp<|(Qm) ?_
      refine e_call rfl (Un 28) ((indexP_fn (G := []) (midN n) m hmid (by omega)).more (fun x hx => List.mem_cons_of_mem _ (List.mem_cons.2 (.inl (List.mem_singleton.1 hx))))) rfl rfl ?_
      refine e_as (congrArg ixv hi) ?_
      refine (Qa)<|Qn<|Qs<|Qs<|Qp<|(Qm)<|(Ql)<|Qn ?_
      refine e_cond rfl ?_ ?_
      · intro hc1
        refine Qs<|Qp<|(Qm) ?_
        refine e_call rfl (Un 9) (with_err (G := MLB m :: G) (midN n) nilS [] e hmid (.inl ⟨rfl, rfl, none, 0, rfl, fun _ => rfl⟩) (by simp) he h0) rfl rfl ?_
        refine (Qx)<|(Qx) ?_
        refine e_storeA (i := 0) (Uz 26) rfl rfl (arrv_size _ _) (cells_one ⟨fun _ => rfl, fun _ => rfl, fun _ => rfl, fun _ => rfl, fun _ => rfl, fun _ => rfl, trivial⟩) rfl cells_sz (.inl rfl) ?_
        refine (Qa)<|Qn<|Qr ?_
        exact ⟨_, _, rfl, .cell (i := 0) rfl rfl (Uu 26) rfl (Uz 26) (arrv_size _ _), .tmp rfl⟩
      · intro hc1
        exact absurd (of_decide_eq_false hc1) (by decide)
set_option maxHeartbeats 4000000 in
theorem named_n_ok (n : List Nat) (m : Int) (hn8 : ∀ b ∈ n, b < 256) (hz : n.length < 4294967281) (hb : bad1 n = false) (hi : ixp (midN n) = none) (he : (pwith (midN n) (ci [])).1 = 0) : Fx Tryd.prog ((⟨1, arr .u8 256 asp, 77⟩ : Blk) :: MLB m :: G) [] 12 #[sv n] (fun w l1 nw => l1 = [] ∧ ∃ w', w = .tuple #[w', ii 0] ∧ PatIs2 (midN n) (decide ((midN n) = nXF)) [] (wq (midN n) (ci []) 0) (wq (midN n) (ci []) 1) (wt (midN n) (ci [])) w' nw) := by
  have hmid : ∀ b ∈ midN n, b < 256 := fun b hb => hn8 b (List.mem_of_mem_drop (List.mem_of_mem_take hb))
  have hml : (midN n).length ≤ n.length := by unfold midN; simp; omega
  refine fxD2 (n := 89) Tryd.func12 rfl rfl (by simp) (argE [sv n] 0) (argE_ok _) ?_
  refine Qs<|Qp<|(QH 0) fun r1=>(Qa)<|Qn<|Qs<|Qs<|Qp ?_
  refine e_join [(0, _), (2, _), (3, _)] [(28, .bool (bad1 n))] [(0, some _)] ⟨rfl, rfl, rfl, trivial⟩ ⟨rfl, trivial⟩ ?_ ?_
  · skip
    refine (Qm)<|(QU)<|(Ql)<|(Qm) ?_
    refine e_case (fun hb0 => ?_) (fun hb0 => ?_)
    · skip
      refine (Qo)<|(Qo)<|(Qo)<|(QT)<|(Qm)<|(Qo)<|(Qo)<|(Qo)<|(QT)<|(Qm)<|(Qo)<|(Qo)<|(Qo)<|(Qo)<|(Qo)<|(Qo)<|(QT)<|Qn ?_
      exact ⟨⟨rfl, rfl, rfl, trivial⟩, ⟨bool_fin (by rw [bad1, hb0] <;> rfl), trivial⟩, ⟨rfl, trivial⟩⟩
    · skip
      refine (Qy)<|(Qm)<|(Qy) ?_
      refine e_sliceStr 0 6 (Uu 9) rfl rfl rfl rfl ⟨_, rfl⟩ (by omega) (by have := of_decide_eq_false hb0; omega) rfl ?_
      refine (Qy) ?_
      refine e_neStr (k := [78, 111, 105, 115, 101, 95]) rfl rfl rfl (fun b hb => hn8 b (List.mem_of_mem_drop (List.mem_of_mem_take hb))) (by decide) ?_
      refine e_as (show _ = Value.bool (decide (n.take 6 ≠ hdN)) from rfl) ?_
      refine (QF)<|(Qm) ?_
      refine e_case (fun hb1 => ?_) (fun hb1 => ?_)
      · skip
        refine (Qo)<|(Qo)<|(Qo)<|(QT)<|(Qm)<|(Qo)<|(Qo)<|(Qo)<|(Qo)<|(Qo)<|(Qo)<|(QT)<|Qn ?_
        exact ⟨⟨rfl, rfl, rfl, trivial⟩, ⟨bool_fin (by rw [bad1, hb0, hb1] <;> rfl), trivial⟩, ⟨rfl, trivial⟩⟩
      · skip
        refine (Qy)<|(Qm)<|(Qy)<|(QU)<|(Qy)<|(Ql)<|(QF)<|(Qm) ?_
        refine e_case (fun hb2 => ?_) (fun hb2 => ?_)
        · skip
          refine (Qo)<|(Qo)<|(Qo)<|(Qo)<|(Qo)<|(Qo)<|(QT)<|Qn ?_
          exact ⟨⟨rfl, rfl, rfl, trivial⟩, ⟨bool_fin (by rw [bad1, hb0, hb1, hb2] <;> rfl), trivial⟩, ⟨rfl, trivial⟩⟩
        · skip
          refine (Qy)<|(Qm)<|(Qy)<|(Qm)<|(Qy)<|(QU)<|(Qy) ?_
          refine e_sub_in (q := 25) rfl rfl rfl (by omega) (by have := of_decide_eq_false hb2; omega) ?_
          refine (Qy) ?_
          refine e_sliceStr (n.length - 25) n.length (Uu 9) rfl rfl rfl ⟨_, rfl⟩ rfl (by omega) (by omega) rfl ?_
          refine e_as (congrArg sv (show (n.drop (n.length - 25)).take (n.length - (n.length - 25)) = n.drop (n.length - 25) from List.take_of_length_le (by simp))) ?_
          refine (Qy) ?_
          refine e_neStr (k := [95, 50, 53, 53, 49, 57, 95, 67, 104, 97, 67, 104, 97, 80, 111, 108, 121, 95, 66, 76, 65, 75, 69, 50, 115]) rfl rfl rfl (fun b hb => hn8 b (List.mem_of_mem_drop hb)) (by decide) ?_
          refine (QF)<|Qn ?_
          exact ⟨⟨rfl, rfl, rfl, trivial⟩, ⟨bool_fin (by rw [bad1, hb0, hb1, hb2] <;> rfl), trivial⟩, ⟨rfl, trivial⟩⟩
  · simp only [catE]
    refine e_cond rfl ?_ ?_
    · intro hc0
      rw [hb] at hc0; cases hc0
    · intro hc0
      have h31 := bad1_no hb
      refine Qk<|Qs<|Qp<|(Qm)<|(Qm)<|(QU) ?_
      refine e_sub_in (q := 25) rfl rfl rfl (by omega) (by omega) ?_
      refine e_sliceStr 6 (n.length - 25) (Uu 9) rfl rfl rfl ⟨_, rfl⟩ ⟨_, rfl⟩ (by omega) (by omega) rfl ?_
      refine e_as (show _ = sv (midN n) from rfl) ?_
      refine (Qa)<|Qn<|Qs<|Qp<|(Qm) ?_
      refine e_call rfl (Un 28) ((indexP_fn (G := []) (midN n) m hmid (by omega)).more (fun x hx => List.mem_cons_of_mem _ (List.mem_cons.2 (.inl (List.mem_singleton.1 hx))))) rfl rfl ?_
      refine e_as (congrArg ixv hi) ?_
      refine (Qa)<|Qn<|Qs<|Qs<|Qp<|(Qm)<|(Ql)<|Qn ?_
      refine e_cond rfl ?_ ?_
      · intro hc1
        refine Qs<|QR ⟨[], 4, [], none⟩<|(Qm) ?_
        refine e_callD [(0, _)] (by repeat (first | exact bag_nil | exact bag_lab _ | apply bag_skip rfl)) ⟨rfl, trivial⟩ rfl rfl rfl (Un 9) seenG (with_ok (G := MLB m :: G) (midN n) nilS [] hmid (.inl ⟨rfl, rfl, none, 0, rfl, fun _ => rfl⟩) (by simp) he) (pat_room (midN n) (decide ((midN n) = nXF)) nilS (wq (midN n) [] 0) (wq (midN n) [] 1) (wt (midN n) [])) rfl rfl fun v4_1 nw4_1 hD4_1 => ?_
        simp only [catL]
        obtain ⟨_, rfl, va1, vb1, vt1, tv1, rfl, ha1, hb1, ht1, hn1, hl1⟩ := hD4_1
        refine (Qx)<|(Qx) ?_
        refine e_storeA (i := 0) (Uz 26) rfl rfl (arrv_size _ _) (catOkP rfl (shows_oneC ha1) (shows_oneC hb1) (shows_oneC ht1)) rfl cells_sz (.inl rfl) ?_
        refine (Qa)<|Qn<|Qr ?_
        exact ⟨_, _, _, ([] ++ nw4_1), rfl, .cell (i := 0) rfl rfl (Uu 26) rfl (Uz 26) (arrv_size _ _), .tmp rfl, ⟨nilS, (.inl ⟨rfl, rfl, none, 0, rfl, fun _ => rfl⟩), va1, vb1, vt1, tv1, rfl, ha1, hb1, ht1, hn1, hl1⟩, (by repeat (first | exact bag_nil | exact bag_lab _ | apply bag_skip rfl))⟩
      · intro hc1
        exact absurd (of_decide_eq_false hc1) (by decide)
end Go.Proofs.YtejejmhbhegneaaDoor
