import Derived.Test.YtejejmhbhegneaaDoorKW7
namespace Go.Proofs.YtejejmhbhegneaaDoor
open Go Go.RowKit
variable {G : Mem}
set_option maxHeartbeats 4000000 in
theorem named_p_form (n : List Nat) (m : Int) (hn8 : ∀ b ∈ n, b < 256) (hz : n.length < 4294967281) (i : Nat) (hb : bad1 n = false) (hi : ixp (midN n) = some i) (hm : mods ((midN n).drop i ++ [43]) = none) : Fn Tryd.prog ((⟨1, arr .u8 256 asp, 77⟩ : Blk) :: MLB m :: G) 12 #[sv n] (.tuple #[.agg (cells 6 [pV (.string ByteArray.empty), pV (.bool false), pV nilS, pV nilS, pV nilS, pV nilS]), ii 3]) := by
  have hmid : ∀ b ∈ midN n, b < 256 := fun b hb => hn8 b (List.mem_of_mem_drop (List.mem_of_mem_take hb))
  have hml : (midN n).length ≤ n.length := by unfold midN; simp; omega
  have hm0 : ∀ b ∈ ((midN n).drop i ++ [43]), b < 256 := fun b hb => (List.mem_append.1 hb).elim (fun h => hmid b (List.mem_of_mem_drop h)) (fun h => by simp at h; omega)
  have hml2 : ((midN n).drop i ++ [43]).length ≤ n.length + 1 := by simp only [List.length_append, List.length_drop, List.length_cons, List.length_nil]; omega
  obtain ⟨ML, hML⟩ : ∃ ML, ML = ((midN n).drop i ++ [43]).length := ⟨_, rfl⟩
  rw [← hML] at hml2
  refine Qf2 Tryd.func12 ?_
  refine Qs<|Qp<|(QH 0) fun r1=>(Qa)<|Qn<|Qs<|Qs<|Qp ?_
  refine e_join [(0, _), (2, _), (3, _)] [(28, .bool (bad1 n))] [(0, some _)] ⟨rfl, rfl, rfl, trivial⟩ ⟨rfl, trivial⟩ ?_ ?_
  · skip
    refine (Qm)<|(QU)<|(Ql)<|(Qm) ?_
    refine e_case (fun hb0 => ?_) (fun hb0 => ?_)
    · skip
      refine (Qo)<|(Qo)<|(Qo)<|(QT)<|(Qm)<|(Qo)<|(Qo)<|(Qo)<|(QT)<|(Qm)<|(Qo)<|(Qo)<|(Qo)<|(Qo)<|(Qo)<|(Qo)<|(QT)<|Qn ?_
      exact ⟨⟨rfl, rfl, rfl, trivial⟩, ⟨bool_fin (by rw [bad1, hb0] <;> rfl), trivial⟩, ⟨rfl, trivial⟩⟩
    · skip
      refine (Qy)<|(Qm)<|(Qy) ?_
      refine e_sliceStr 0 6 (Uu 9) rfl rfl rfl rfl ⟨_, rfl⟩ (by omega) (by have := of_decide_eq_false hb0; omega) rfl ?_
      refine (Qy) ?_
      refine e_neStr (k := [78, 111, 105, 115, 101, 95]) rfl rfl rfl (fun b hb => hn8 b (List.mem_of_mem_drop (List.mem_of_mem_take hb))) (by decide) ?_
      refine e_as (show _ = Value.bool (decide (n.take 6 ≠ hdN)) from rfl) ?_
      refine (QF)<|(Qm) ?_
      refine e_case (fun hb1 => ?_) (fun hb1 => ?_)
      · skip
        refine (Qo)<|(Qo)<|(Qo)<|(QT)<|(Qm)<|(Qo)<|(Qo)<|(Qo)<|(Qo)<|(Qo)<|(Qo)<|(QT)<|Qn ?_
        exact ⟨⟨rfl, rfl, rfl, trivial⟩, ⟨bool_fin (by rw [bad1, hb0, hb1] <;> rfl), trivial⟩, ⟨rfl, trivial⟩⟩
      · skip
        refine (Qy)<|(Qm)<|(Qy)<|(QU)<|(Qy)<|(Ql)<|(QF)<|(Qm) ?_
        refine e_case (fun hb2 => ?_) (fun hb2 => ?_)
        · skip
          refine (Qo)<|(Qo)<|(Qo)<|(Qo)<|(Qo)<|(Qo)<|(QT)<|Qn ?_
          exact ⟨⟨rfl, rfl, rfl, trivial⟩, ⟨bool_fin (by rw [bad1, hb0, hb1, hb2] <;> rfl), trivial⟩, ⟨rfl, trivial⟩⟩
        · skip
          refine (Qy)<|(Qm)<|(Qy)<|(Qm)<|(Qy)<|(QU)<|(Qy) ?_
          refine e_sub_in (q := 25) rfl rfl rfl (by omega) (by have := of_decide_eq_false hb2; omega) ?_
          refine (Qy) ?_
          refine e_sliceStr (n.length - 25) n.length (Uu 9) rfl rfl rfl ⟨_, rfl⟩ rfl (by omega) (by omega) rfl ?_
          refine e_as (congrArg sv (show (n.drop (n.length - 25)).take (n.length - (n.length - 25)) = n.drop (n.length - 25) from List.take_of_length_le (by simp))) ?_
          refine (Qy) ?_
          refine e_neStr (k := [95, 50, 53, 53, 49, 57, 95, 67, 104, 97, 67, 104, 97, 80, 111, 108, 121, 95, 66, 76, 65, 75, 69, 50, 115]) rfl rfl rfl (fun b hb => hn8 b (List.mem_of_mem_drop hb)) (by decide) ?_
          refine (QF)<|Qn ?_
          exact ⟨⟨rfl, rfl, rfl, trivial⟩, ⟨bool_fin (by rw [bad1, hb0, hb1, hb2] <;> rfl), trivial⟩, ⟨rfl, trivial⟩⟩
  · simp only [catE]
    refine e_cond rfl ?_ ?_
    · intro hc0
      rw [hb] at hc0; cases hc0
    · intro hc0
      have h31 := bad1_no hb
      refine Qk<|Qs<|Qp<|(Qm)<|(Qm)<|(QU) ?_
      refine e_sub_in (q := 25) rfl rfl rfl (by omega) (by omega) ?_
      refine e_sliceStr 6 (n.length - 25) (Uu 9) rfl rfl rfl ⟨_, rfl⟩ ⟨_, rfl⟩ (by omega) (by omega) rfl ?_
      refine e_as (show _ = sv (midN n) from rfl) ?_
      refine (Qa)<|Qn<|Qs<|Qp<|(Qm) ?_
      refine e_call rfl (Un 28) ((indexP_fn (G := []) (midN n) m hmid (by omega)).more (fun x hx => List.mem_cons_of_mem _ (List.mem_cons.2 (.inl (List.mem_singleton.1 hx))))) rfl rfl ?_
      refine e_as (congrArg ixv hi) ?_
      refine (Qa)<|Qn<|Qs<|Qs<|Qp<|(Qm)<|(Ql)<|Qn ?_
      refine e_cond rfl ?_ ?_
      · intro hc1
        exact absurd (of_decide_eq_true hc1) (by omega)
      · intro hc1
        have hil := ixp_lt hi
        refine Qk<|Qs<|Qp<|(Qm)<|(Qm) ?_
        refine e_sliceStr i (midN n).length (Uu 9) rfl rfl rfl ⟨_, rfl⟩ rfl (by omega) (by omega) rfl ?_
        refine e_as (congrArg sv (show ((midN n).drop i).take ((midN n).length - i) = (midN n).drop i from List.take_of_length_le (by simp))) ?_
        refine e_catS (k := [43]) rfl rfl rfl (by simp only [List.length_drop, List.length_cons, List.length_nil]; omega) ?_
        refine (Qa)<|Qn<|Qs<|Qp<|(Qa)<|Qn<|Qs<|Qb ?_
        refine QzK [(2, _), (4, _), (5, _)] [(0, _)] (fun kk E m => ∃ (L : List Nat) (ds : List Nat) (w : Value) (oz : Option Blk), kk = L.length ∧ E = [(6, sv L), (7, w)] ∧ m = [(50, oz)] ∧ (OwnS 3 1 w ds.length (ds.map (fun x : Nat => ii x)) oz.toList) ∧ (mods ((midN n).drop i ++ [43]) = mapC ds (mods L)) ∧ (∀ b ∈ L, b < 256) ∧ (L.length + 5 * ds.length ≤ ML)) ⟨((midN n).drop i ++ [43]), [], nilS, none, rfl, rfl, rfl, (own_nil _ _), (mapC_nil _), hm0, by rw [hML]; simp⟩ ⟨rfl, rfl, rfl, rfl, rfl, trivial⟩ ⟨rfl, rfl, trivial⟩ ?_
        rintro kk E m ⟨L, ds, w, oz, rfl, rfl, rfl, hf0_0, hf0_1, hf0_2, hf0_3⟩
        simp only [catE, catL]
        refine Qs<|Qs<|Qp<|(Qm) ?_
        refine e_neStr (k := []) rfl rfl rfl hf0_2 (by simp) ?_
        refine Qn ?_
        refine e_cond rfl ?_ ?_
        · intro hc2
          have hLn := of_decide_eq_true hc2
          refine Qk<|Qb<|Qs<|Qs<|Qp ?_
          refine e_join [(2, _), (4, _), (5, _), (6, _), (7, _), (47, _), (48, _)] [(71, .bool (bad5 L))] [(0, some _), (50, oz)] ⟨rfl, rfl, rfl, rfl, rfl, rfl, rfl, trivial⟩ ⟨rfl, rfl, trivial⟩ ?_ ?_
          · skip
            refine (Qm)<|(QU)<|(Ql)<|(Qm) ?_
            refine e_case (fun hb3 => ?_) (fun hb3 => ?_)
            · skip
              refine (Qo)<|(Qo)<|(Qo)<|(QT)<|(Qm)<|(Qo)<|(Qo)<|(Qo)<|(QT)<|(Qm)<|(Qo)<|(Qo)<|(Qo)<|(QT)<|(Qm)<|(Qo)<|(Qo)<|(Qo)<|(QT)<|Qn ?_
              exact ⟨⟨rfl, rfl, rfl, rfl, rfl, rfl, rfl, trivial⟩, ⟨bool_fin (by rw [bad5, hb3] <;> rfl), trivial⟩, ⟨rfl, rfl, trivial⟩⟩
            · skip
              refine (Qy)<|(Qm)<|(Qy) ?_
              refine e_sliceStr 0 3 (Uu 9) rfl rfl rfl rfl ⟨_, rfl⟩ (by omega) (by have := of_decide_eq_false hb3; omega) rfl ?_
              refine (Qy) ?_
              refine e_neStr (k := [112, 115, 107]) rfl rfl rfl (fun b hb => hf0_2 b (List.mem_of_mem_drop (List.mem_of_mem_take hb))) (by decide) ?_
              refine e_as (show _ = Value.bool (decide (L.take 3 ≠ PSK)) from rfl) ?_
              refine (QF)<|(Qm) ?_
              refine e_case (fun hb4 => ?_) (fun hb4 => ?_)
              · skip
                refine (Qo)<|(Qo)<|(Qo)<|(QT)<|(Qm)<|(Qo)<|(Qo)<|(Qo)<|(QT)<|(Qm)<|(Qo)<|(Qo)<|(Qo)<|(QT)<|Qn ?_
                exact ⟨⟨rfl, rfl, rfl, rfl, rfl, rfl, rfl, trivial⟩, ⟨bool_fin (by rw [bad5, hb3, hb4] <;> rfl), trivial⟩, ⟨rfl, rfl, trivial⟩⟩
              · skip
                refine (Qy)<|(Qm)<|(Qy) ?_
                refine e_idxStr (Uu 9) rfl rfl (at_getD (show 4 < L.length by have := of_decide_eq_false hb3; omega)) (getD_b hf0_2 _) rfl ?_
                refine (Qy)<|(QN)<|(QF)<|(Qm) ?_
                refine e_case (fun hb5 => ?_) (fun hb5 => ?_)
                · skip
                  refine (Qo)<|(Qo)<|(Qo)<|(QT)<|(Qm)<|(Qo)<|(Qo)<|(Qo)<|(QT)<|Qn ?_
                  exact ⟨⟨rfl, rfl, rfl, rfl, rfl, rfl, rfl, trivial⟩, ⟨bool_fin (by rw [bad5, hb3, hb4, hb5] <;> rfl), trivial⟩, ⟨rfl, rfl, trivial⟩⟩
                · skip
                  refine (Qy)<|(Qm)<|(Qy) ?_
                  refine e_idxStr (Uu 9) rfl rfl (at_getD (show 3 < L.length by have := of_decide_eq_false hb3; omega)) (getD_b hf0_2 _) rfl ?_
                  refine (Qy)<|(Ql)<|(QF)<|(Qm) ?_
                  refine e_case (fun hb6 => ?_) (fun hb6 => ?_)
                  · skip
                    refine (Qo)<|(Qo)<|(Qo)<|(QT)<|Qn ?_
                    exact ⟨⟨rfl, rfl, rfl, rfl, rfl, rfl, rfl, trivial⟩, ⟨bool_fin (by rw [bad5, hb3, hb4, hb5, hb6] <;> rfl), trivial⟩, ⟨rfl, rfl, trivial⟩⟩
                  · skip
                    refine (Qy)<|(Qm)<|(Qy) ?_
                    refine e_idxStr (Uu 9) rfl rfl (at_getD (show 3 < L.length by have := of_decide_eq_false hb3; omega)) (getD_b hf0_2 _) rfl ?_
                    refine (Qy)<|(QG)<|(QF)<|Qn ?_
                    exact ⟨⟨rfl, rfl, rfl, rfl, rfl, rfl, rfl, trivial⟩, ⟨bool_fin (by rw [bad5, hb3, hb4, hb5, hb6] <;> rfl), trivial⟩, ⟨rfl, rfl, trivial⟩⟩
          · simp only [catE]
            refine e_cond rfl ?_ ?_
            · intro hc3
              have hb5 : bad5 L = true := hc3
              refine Qs<|Qp ?_
              refine e_buildS (cells 6 [pV (.string ByteArray.empty), pV (.bool false), pV nilS, pV nilS, pV nilS, pV nilS]) (Ub 26 rfl) (Uu 26 rfl) pls26 rfl (by kernel_rfl) rfl ?_
              refine e_storeA (i := 0) (Uz 26) rfl rfl (arrv_size _ _) (cells_one ⟨fun _ => rfl, fun _ => rfl, fun _ => rfl, fun _ => rfl, fun _ => rfl, fun _ => rfl, trivial⟩) rfl cells_sz (.inl rfl) ?_
              refine (Qa)<|Qn<|Qr ?_
              exact ⟨_, _, rfl, .cell (i := 0) rfl rfl (Uu 26) rfl (Uz 26) (arrv_size _ _), .tmp rfl⟩
            · intro hc3
              have hb5 : bad5 L = false := hc3
              obtain ⟨hl5, hd1, hd2⟩ := bad5_no hb5
              refine Qk<|Qs<|Qp<|(Qm)<|(Qm) ?_
              refine e_idxStr (Uu 9) rfl rfl (at_getD (show 3 < L.length by omega)) (getD_b hf0_2 _) rfl ?_
              refine e_sub_b (q := 48) rfl rfl rfl (by omega) ?_
              refine e_as (congrArg by8 (show (L.getD 3 0 + 256 - 48) % 256 = L.getD 3 0 - 48 by omega)) ?_
              refine e_conv_i (Uu 5) (Uu 3) rfl rfl rfl (by omega) ?_
              refine e_buildSl 1 #[ii (L.getD 3 0 - 48)] (Uu 22 rfl) (Uz 3 rfl) (Ub 3 rfl) (by decide) (by decide) rfl (by kernel_rfl) rfl fun r2 => ?_
              refine e_append 50 hf0_0 (shows_new _ _ (by rfl)) rfl (seen1 1 rfl ⟨[], trivial⟩) (Uu 22) (Uz 3) (Uy 3) (Ub 3) (by rfl) rfl rfl (one_ii _) (by simp only [maxLen]; omega) (by omega) rfl fun v7_1 oz7_1 ho7_1 => ?_
              refine (Qa)<|Qn<|Qp<|(Qm) ?_
              refine e_sliceStr 5 L.length (Uu 9) rfl rfl rfl ⟨_, rfl⟩ rfl (by omega) (by omega) rfl ?_
              refine e_as (congrArg sv (show (L.drop 5).take (L.length - 5) = L.drop 5 from List.take_of_length_le (by simp))) ?_
              refine (Qa)<|Qn ?_
              refine QzL ⟨L.drop 5, ds ++ [L.getD 3 0 - 48], _, _, rfl, rfl, rfl, (own_fix ho7_1 (by rw [List.length_append]; rfl) (by rw [List.map_append]; rfl)), (mapC_step hf0_1 hLn hb5), fun b hb => hf0_2 b (List.mem_of_mem_drop hb), by simp only [List.length_drop, List.length_append, List.length_cons, List.length_nil]; omega⟩ ⟨rfl, rfl, rfl, rfl, rfl, trivial⟩ ⟨rfl, rfl, trivial⟩ ?_
              have := List.length_pos_iff.2 hLn
              simp only [List.length_drop]; omega
        · intro hc2
          have hLn := Decidable.not_not.1 (of_decide_eq_false hc2)
          have hds := mapC_end hf0_1 hLn
          rw [hm] at hds; cases hds
set_option maxHeartbeats 4000000 in
theorem named_p_err (n : List Nat) (m : Int) (hn8 : ∀ b ∈ n, b < 256) (hz : n.length < 4294967281) (i : Nat) (ds0 : List Nat) (hb : bad1 n = false) (hi : ixp (midN n) = some i) (hm : mods ((midN n).drop i ++ [43]) = some ds0) (e : Nat) (he : (pwith ((midN n).take i) (ci ds0)).1 = e) (h0 : e ≠ 0) : Fn Tryd.prog ((⟨1, arr .u8 256 asp, 77⟩ : Blk) :: MLB m :: G) 12 #[sv n] (.tuple #[.agg (cells 6 [pV (.string ByteArray.empty), pV (.bool false), pV nilS, pV nilS, pV nilS, pV nilS]), ii e]) := by
  have hmid : ∀ b ∈ midN n, b < 256 := fun b hb => hn8 b (List.mem_of_mem_drop (List.mem_of_mem_take hb))
  have hml : (midN n).length ≤ n.length := by unfold midN; simp; omega
  have hm0 : ∀ b ∈ ((midN n).drop i ++ [43]), b < 256 := fun b hb => (List.mem_append.1 hb).elim (fun h => hmid b (List.mem_of_mem_drop h)) (fun h => by simp at h; omega)
  have hml2 : ((midN n).drop i ++ [43]).length ≤ n.length + 1 := by simp only [List.length_append, List.length_drop, List.length_cons, List.length_nil]; omega
  obtain ⟨ML, hML⟩ : ∃ ML, ML = ((midN n).drop i ++ [43]).length := ⟨_, rfl⟩
  rw [← hML] at hml2
  refine Qf2 Tryd.func12 ?_
  refine Qs<|Qp<|(QH 0) fun r1=>(Qa)<|Qn<|Qs<|Qs<|Qp ?_
  refine e_join [(0, _), (2, _), (3, _)] [(28, .bool (bad1 n))] [(0, some _)] ⟨rfl, rfl, rfl, trivial⟩ ⟨rfl, trivial⟩ ?_ ?_
  · skip
    refine (Qm)<|(QU)<|(Ql)<|(Qm) ?_
    refine e_case (fun hb0 => ?_) (fun hb0 => ?_)
    · skip
      refine (Qo)<|(Qo)<|(Qo)<|(QT)<|(Qm)<|(Qo)<|(Qo)<|(Qo)<|(QT)<|(Qm)<|(Qo)<|(Qo)<|(Qo)<|(Qo)<|(Qo)<|(Qo)<|(QT)<|Qn ?_
      exact ⟨⟨rfl, rfl, rfl, trivial⟩, ⟨bool_fin (by rw [bad1, hb0] <;> rfl), trivial⟩, ⟨rfl, trivial⟩⟩
    · skip
      refine (Qy)<|(Qm)<|(Qy) ?_
      refine e_sliceStr 0 6 (Uu 9) rfl rfl rfl rfl ⟨_, rfl⟩ (by omega) (by have := of_decide_eq_false hb0; omega) rfl ?_
      refine (Qy) ?_
      refine e_neStr (k := [78, 111, 105, 115, 101, 95]) rfl rfl rfl (fun b hb => hn8 b (List.mem_of_mem_drop (List.mem_of_mem_take hb))) (by decide) ?_
      refine e_as (show _ = Value.bool (decide (n.take 6 ≠ hdN)) from rfl) ?_
      refine (QF)<|(Qm) ?_
      refine e_case (fun hb1 => ?_) (fun hb1 => ?_)
      · skip
        refine (Qo)<|(Qo)<|(Qo)<|(QT)<|(Qm)<|(Qo)<|(Qo)<|(Qo)<|(Qo)<|(Qo)<|(Qo)<|(QT)<|Qn ?_
        exact ⟨⟨rfl, rfl, rfl, trivial⟩, ⟨bool_fin (by rw [bad1, hb0, hb1] <;> rfl), trivial⟩, ⟨rfl, trivial⟩⟩
      · skip
        refine (Qy)<|(Qm)<|(Qy)<|(QU)<|(Qy)<|(Ql)<|(QF)<|(Qm) ?_
        refine e_case (fun hb2 => ?_) (fun hb2 => ?_)
        · skip
          refine (Qo)<|(Qo)<|(Qo)<|(Qo)<|(Qo)<|(Qo)<|(QT)<|Qn ?_
          exact ⟨⟨rfl, rfl, rfl, trivial⟩, ⟨bool_fin (by rw [bad1, hb0, hb1, hb2] <;> rfl), trivial⟩, ⟨rfl, trivial⟩⟩
        · skip
          refine (Qy)<|(Qm)<|(Qy)<|(Qm)<|(Qy)<|(QU)<|(Qy) ?_
          refine e_sub_in (q := 25) rfl rfl rfl (by omega) (by have := of_decide_eq_false hb2; omega) ?_
          refine (Qy) ?_
          refine e_sliceStr (n.length - 25) n.length (Uu 9) rfl rfl rfl ⟨_, rfl⟩ rfl (by omega) (by omega) rfl ?_
          refine e_as (congrArg sv (show (n.drop (n.length - 25)).take (n.length - (n.length - 25)) = n.drop (n.length - 25) from List.take_of_length_le (by simp))) ?_
          refine (Qy) ?_
          refine e_neStr (k := [95, 50, 53, 53, 49, 57, 95, 67, 104, 97, 67, 104, 97, 80, 111, 108, 121, 95, 66, 76, 65, 75, 69, 50, 115]) rfl rfl rfl (fun b hb => hn8 b (List.mem_of_mem_drop hb)) (by decide) ?_
          refine (QF)<|Qn ?_
          exact ⟨⟨rfl, rfl, rfl, trivial⟩, ⟨bool_fin (by rw [bad1, hb0, hb1, hb2] <;> rfl), trivial⟩, ⟨rfl, trivial⟩⟩
  · simp only [catE]
    refine e_cond rfl ?_ ?_
    · intro hc0
      rw [hb] at hc0; cases hc0
    · intro hc0
      have h31 := bad1_no hb
      refine Qk<|Qs<|Qp<|(Qm)<|(Qm)<|(QU) ?_
      refine e_sub_in (q := 25) rfl rfl rfl (by omega) (by omega) ?_
      refine e_sliceStr 6 (n.length - 25) (Uu 9) rfl rfl rfl ⟨_, rfl⟩ ⟨_, rfl⟩ (by omega) (by omega) rfl ?_
      refine e_as (show _ = sv (midN n) from rfl) ?_
      refine (Qa)<|Qn<|Qs<|Qp<|(Qm) ?_
      refine e_call rfl (Un 28) ((indexP_fn (G := []) (midN n) m hmid (by omega)).more (fun x hx => List.mem_cons_of_mem _ (List.mem_cons.2 (.inl (List.mem_singleton.1 hx))))) rfl rfl ?_
      refine e_as (congrArg ixv hi) ?_
      refine (Qa)<|Qn<|Qs<|Qs<|Qp<|(Qm)<|(Ql)<|Qn ?_
      refine e_cond rfl ?_ ?_
      · intro hc1
        exact absurd (of_decide_eq_true hc1) (by omega)
      · intro hc1
        have hil := ixp_lt hi
        refine Qk<|Qs<|Qp<|(Qm)<|(Qm) ?_
        refine e_sliceStr i (midN n).length (Uu 9) rfl rfl rfl ⟨_, rfl⟩ rfl (by omega) (by omega) rfl ?_
        refine e_as (congrArg sv (show ((midN n).drop i).take ((midN n).length - i) = (midN n).drop i from List.take_of_length_le (by simp))) ?_
        refine e_catS (k := [43]) rfl rfl rfl (by simp only [List.length_drop, List.length_cons, List.length_nil]; omega) ?_
        refine (Qa)<|Qn<|Qs<|Qp<|(Qa)<|Qn<|Qs<|Qb ?_
        refine QzK [(2, _), (4, _), (5, _)] [(0, _)] (fun kk E m => ∃ (L : List Nat) (ds : List Nat) (w : Value) (oz : Option Blk), kk = L.length ∧ E = [(6, sv L), (7, w)] ∧ m = [(50, oz)] ∧ (OwnS 3 1 w ds.length (ds.map (fun x : Nat => ii x)) oz.toList) ∧ (mods ((midN n).drop i ++ [43]) = mapC ds (mods L)) ∧ (∀ b ∈ L, b < 256) ∧ (L.length + 5 * ds.length ≤ ML)) ⟨((midN n).drop i ++ [43]), [], nilS, none, rfl, rfl, rfl, (own_nil _ _), (mapC_nil _), hm0, by rw [hML]; simp⟩ ⟨rfl, rfl, rfl, rfl, rfl, trivial⟩ ⟨rfl, rfl, trivial⟩ ?_
        rintro kk E m ⟨L, ds, w, oz, rfl, rfl, rfl, hf0_0, hf0_1, hf0_2, hf0_3⟩
        simp only [catE, catL]
        refine Qs<|Qs<|Qp<|(Qm) ?_
        refine e_neStr (k := []) rfl rfl rfl hf0_2 (by simp) ?_
        refine Qn ?_
        refine e_cond rfl ?_ ?_
        · intro hc2
          have hLn := of_decide_eq_true hc2
          refine Qk<|Qb<|Qs<|Qs<|Qp ?_
          refine e_join [(2, _), (4, _), (5, _), (6, _), (7, _), (47, _), (48, _)] [(71, .bool (bad5 L))] [(0, some _), (50, oz)] ⟨rfl, rfl, rfl, rfl, rfl, rfl, rfl, trivial⟩ ⟨rfl, rfl, trivial⟩ ?_ ?_
          · skip
            refine (Qm)<|(QU)<|(Ql)<|(Qm) ?_
            refine e_case (fun hb3 => ?_) (fun hb3 => ?_)
            · skip
              refine (Qo)<|(Qo)<|(Qo)<|(QT)<|(Qm)<|(Qo)<|(Qo)<|(Qo)<|(QT)<|(Qm)<|(Qo)<|(Qo)<|(Qo)<|(QT)<|(Qm)<|(Qo)<|(Qo)<|(Qo)<|(QT)<|Qn ?_
              exact ⟨⟨rfl, rfl, rfl, rfl, rfl, rfl, rfl, trivial⟩, ⟨bool_fin (by rw [bad5, hb3] <;> rfl), trivial⟩, ⟨rfl, rfl, trivial⟩⟩
            · skip
              refine (Qy)<|(Qm)<|(Qy) ?_
              refine e_sliceStr 0 3 (Uu 9) rfl rfl rfl rfl ⟨_, rfl⟩ (by omega) (by have := of_decide_eq_false hb3; omega) rfl ?_
              refine (Qy) ?_
              refine e_neStr (k := [112, 115, 107]) rfl rfl rfl (fun b hb => hf0_2 b (List.mem_of_mem_drop (List.mem_of_mem_take hb))) (by decide) ?_
              refine e_as (show _ = Value.bool (decide (L.take 3 ≠ PSK)) from rfl) ?_
              refine (QF)<|(Qm) ?_
              refine e_case (fun hb4 => ?_) (fun hb4 => ?_)
              · skip
                refine (Qo)<|(Qo)<|(Qo)<|(QT)<|(Qm)<|(Qo)<|(Qo)<|(Qo)<|(QT)<|(Qm)<|(Qo)<|(Qo)<|(Qo)<|(QT)<|Qn ?_
                exact ⟨⟨rfl, rfl, rfl, rfl, rfl, rfl, rfl, trivial⟩, ⟨bool_fin (by rw [bad5, hb3, hb4] <;> rfl), trivial⟩, ⟨rfl, rfl, trivial⟩⟩
              · skip
                refine (Qy)<|(Qm)<|(Qy) ?_
                refine e_idxStr (Uu 9) rfl rfl (at_getD (show 4 < L.length by have := of_decide_eq_false hb3; omega)) (getD_b hf0_2 _) rfl ?_
                refine (Qy)<|(QN)<|(QF)<|(Qm) ?_
                refine e_case (fun hb5 => ?_) (fun hb5 => ?_)
                · skip
                  refine (Qo)<|(Qo)<|(Qo)<|(QT)<|(Qm)<|(Qo)<|(Qo)<|(Qo)<|(QT)<|Qn ?_
                  exact ⟨⟨rfl, rfl, rfl, rfl, rfl, rfl, rfl, trivial⟩, ⟨bool_fin (by rw [bad5, hb3, hb4, hb5] <;> rfl), trivial⟩, ⟨rfl, rfl, trivial⟩⟩
                · skip
                  refine (Qy)<|(Qm)<|(Qy) ?_
                  refine e_idxStr (Uu 9) rfl rfl (at_getD (show 3 < L.length by have := of_decide_eq_false hb3; omega)) (getD_b hf0_2 _) rfl ?_
                  refine (Qy)<|(Ql)<|(QF)<|(Qm) ?_
                  refine e_case (fun hb6 => ?_) (fun hb6 => ?_)
                  · skip
                    refine (Qo)<|(Qo)<|(Qo)<|(QT)<|Qn ?_
                    exact ⟨⟨rfl, rfl, rfl, rfl, rfl, rfl, rfl, trivial⟩, ⟨bool_fin (by rw [bad5, hb3, hb4, hb5, hb6] <;> rfl), trivial⟩, ⟨rfl, rfl, trivial⟩⟩
                  · skip
                    refine (Qy)<|(Qm)<|(Qy) ?_
                    refine e_idxStr (Uu 9) rfl rfl (at_getD (show 3 < L.length by have := of_decide_eq_false hb3; omega)) (getD_b hf0_2 _) rfl ?_
                    refine (Qy)<|(QG)<|(QF)<|Qn ?_
                    exact ⟨⟨rfl, rfl, rfl, rfl, rfl, rfl, rfl, trivial⟩, ⟨bool_fin (by rw [bad5, hb3, hb4, hb5, hb6] <;> rfl), trivial⟩, ⟨rfl, rfl, trivial⟩⟩
          · simp only [catE]
            refine e_cond rfl ?_ ?_
            · intro hc3
              have hb5 : bad5 L = true := hc3
              have hbad := mapC_bad hf0_1 hLn hb5
              rw [hm] at hbad; cases hbad
            · intro hc3
              have hb5 : bad5 L = false := hc3
              obtain ⟨hl5, hd1, hd2⟩ := bad5_no hb5
              refine Qk<|Qs<|Qp<|(Qm)<|(Qm) ?_
              refine e_idxStr (Uu 9) rfl rfl (at_getD (show 3 < L.length by omega)) (getD_b hf0_2 _) rfl ?_
              refine e_sub_b (q := 48) rfl rfl rfl (by omega) ?_
              refine e_as (congrArg by8 (show (L.getD 3 0 + 256 - 48) % 256 = L.getD 3 0 - 48 by omega)) ?_
              refine e_conv_i (Uu 5) (Uu 3) rfl rfl rfl (by omega) ?_
              refine e_buildSl 1 #[ii (L.getD 3 0 - 48)] (Uu 22 rfl) (Uz 3 rfl) (Ub 3 rfl) (by decide) (by decide) rfl (by kernel_rfl) rfl fun r2 => ?_
              refine e_append 50 hf0_0 (shows_new _ _ (by rfl)) rfl (seen1 1 rfl ⟨[], trivial⟩) (Uu 22) (Uz 3) (Uy 3) (Ub 3) (by rfl) rfl rfl (one_ii _) (by simp only [maxLen]; omega) (by omega) rfl fun v7_1 oz7_1 ho7_1 => ?_
              refine (Qa)<|Qn<|Qp<|(Qm) ?_
              refine e_sliceStr 5 L.length (Uu 9) rfl rfl rfl ⟨_, rfl⟩ rfl (by omega) (by omega) rfl ?_
              refine e_as (congrArg sv (show (L.drop 5).take (L.length - 5) = L.drop 5 from List.take_of_length_le (by simp))) ?_
              refine (Qa)<|Qn ?_
              refine QzL ⟨L.drop 5, ds ++ [L.getD 3 0 - 48], _, _, rfl, rfl, rfl, (own_fix ho7_1 (by rw [List.length_append]; rfl) (by rw [List.map_append]; rfl)), (mapC_step hf0_1 hLn hb5), fun b hb => hf0_2 b (List.mem_of_mem_drop hb), by simp only [List.length_drop, List.length_append, List.length_cons, List.length_nil]; omega⟩ ⟨rfl, rfl, rfl, rfl, rfl, trivial⟩ ⟨rfl, rfl, trivial⟩ ?_
              have := List.length_pos_iff.2 hLn
              simp only [List.length_drop]; omega
        · intro hc2
          have hLn := Decidable.not_not.1 (of_decide_eq_false hc2)
          have hds := mapC_end hf0_1 hLn
          rw [hm] at hds
          injection hds with hds
          subst hds
          refine Qe<|Qs<|Qp<|(Qm)<|(Qm) ?_
          refine e_sliceStr 0 i (Uu 9) rfl rfl rfl rfl ⟨_, rfl⟩ (by omega) (by omega) rfl ?_
          refine e_as (show _ = sv ((midN n).take i) from rfl) ?_
          refine (Qm) ?_
          refine e_callS rfl rfl (Un 9) (seen_app seenG (seenM 50 rfl ⟨[], trivial⟩)) (with_err (G := (MLB m :: G) ++ oz.toList) ((midN n).take i) w (ci ds0) e (fun b hb => hmid b (List.mem_of_mem_take hb)) (by rw [ci_ii, show (ci ds0).length = ds0.length by simp [ci]]; exact hf0_0.shows.mono (fun x hx => List.mem_cons_of_mem _ (List.mem_append_right _ hx))) (by rw [show (ci ds0).length = ds0.length by simp [ci]]; omega) he h0) rfl rfl ?_
          refine (Qx)<|(Qx) ?_
          refine e_storeA (i := 0) (Uz 26) rfl rfl (arrv_size _ _) (cells_one ⟨fun _ => rfl, fun _ => rfl, fun _ => rfl, fun _ => rfl, fun _ => rfl, fun _ => rfl, trivial⟩) rfl cells_sz (.inl rfl) ?_
          refine (Qa)<|Qn<|Qr ?_
          exact ⟨_, _, rfl, .cell (i := 0) rfl rfl (Uu 26) rfl (Uz 26) (arrv_size _ _), .tmp rfl⟩
set_option maxHeartbeats 8000000 in
theorem named_p_ok (n : List Nat) (m : Int) (hn8 : ∀ b ∈ n, b < 256) (hz : n.length < 4294967281) (i : Nat) (ds0 : List Nat) (hb : bad1 n = false) (hi : ixp (midN n) = some i) (hm : mods ((midN n).drop i ++ [43]) = some ds0) (he : (pwith ((midN n).take i) (ci ds0)).1 = 0) : Fx Tryd.prog ((⟨1, arr .u8 256 asp, 77⟩ : Blk) :: MLB m :: G) [] 12 #[sv n] (fun w l1 nw => l1 = [] ∧ ∃ w', w = .tuple #[w', ii 0] ∧ PatIs2 ((midN n).take i) (decide (((midN n).take i) = nXF)) ds0 (wq ((midN n).take i) (ci ds0) 0) (wq ((midN n).take i) (ci ds0) 1) (wt ((midN n).take i) (ci ds0)) w' nw) := by
  have hmid : ∀ b ∈ midN n, b < 256 := fun b hb => hn8 b (List.mem_of_mem_drop (List.mem_of_mem_take hb))
  have hml : (midN n).length ≤ n.length := by unfold midN; simp; omega
  have hm0 : ∀ b ∈ ((midN n).drop i ++ [43]), b < 256 := fun b hb => (List.mem_append.1 hb).elim (fun h => hmid b (List.mem_of_mem_drop h)) (fun h => by simp at h; omega)
  have hml2 : ((midN n).drop i ++ [43]).length ≤ n.length + 1 := by simp only [List.length_append, List.length_drop, List.length_cons, List.length_nil]; omega
  obtain ⟨ML, hML⟩ : ∃ ML, ML = ((midN n).drop i ++ [43]).length := ⟨_, rfl⟩
  rw [← hML] at hml2
  refine fxD2 (n := 89) Tryd.func12 rfl rfl (by simp) (argE [sv n] 0) (argE_ok _) ?_
  refine Qs<|Qp<|(QH 0) fun r1=>(Qa)<|Qn<|Qs<|Qs<|Qp ?_
  refine e_join [(0, _), (2, _), (3, _)] [(28, .bool (bad1 n))] [(0, some _)] ⟨rfl, rfl, rfl, trivial⟩ ⟨rfl, trivial⟩ ?_ ?_
  · skip
    refine (Qm)<|(QU)<|(Ql)<|(Qm) ?_
    refine e_case (fun hb0 => ?_) (fun hb0 => ?_)
    · skip
      refine (Qo)<|(Qo)<|(Qo)<|(QT)<|(Qm)<|(Qo)<|(Qo)<|(Qo)<|(QT)<|(Qm)<|(Qo)<|(Qo)<|(Qo)<|(Qo)<|(Qo)<|(Qo)<|(QT)<|Qn ?_
      exact ⟨⟨rfl, rfl, rfl, trivial⟩, ⟨bool_fin (by rw [bad1, hb0] <;> rfl), trivial⟩, ⟨rfl, trivial⟩⟩
    · skip
      refine (Qy)<|(Qm)<|(Qy) ?_
      refine e_sliceStr 0 6 (Uu 9) rfl rfl rfl rfl ⟨_, rfl⟩ (by omega) (by have := of_decide_eq_false hb0; omega) rfl ?_
      refine (Qy) ?_
      refine e_neStr (k := [78, 111, 105, 115, 101, 95]) rfl rfl rfl (fun b hb => hn8 b (List.mem_of_mem_drop (List.mem_of_mem_take hb))) (by decide) ?_
      refine e_as (show _ = Value.bool (decide (n.take 6 ≠ hdN)) from rfl) ?_
      refine (QF)<|(Qm) ?_
      refine e_case (fun hb1 => ?_) (fun hb1 => ?_)
      · skip
        refine (Qo)<|(Qo)<|(Qo)<|(QT)<|(Qm)<|(Qo)<|(Qo)<|(Qo)<|(Qo)<|(Qo)<|(Qo)<|(QT)<|Qn ?_
        exact ⟨⟨rfl, rfl, rfl, trivial⟩, ⟨bool_fin (by rw [bad1, hb0, hb1] <;> rfl), trivial⟩, ⟨rfl, trivial⟩⟩
      · skip
        refine (Qy)<|(Qm)<|(Qy)<|(QU)<|(Qy)<|(Ql)<|(QF)<|(Qm) ?_
        refine e_case (fun hb2 => ?_) (fun hb2 => ?_)
        · skip
          refine (Qo)<|(Qo)<|(Qo)<|(Qo)<|(Qo)<|(Qo)<|(QT)<|Qn ?_
          exact ⟨⟨rfl, rfl, rfl, trivial⟩, ⟨bool_fin (by rw [bad1, hb0, hb1, hb2] <;> rfl), trivial⟩, ⟨rfl, trivial⟩⟩
        · skip
          refine (Qy)<|(Qm)<|(Qy)<|(Qm)<|(Qy)<|(QU)<|(Qy) ?_
          refine e_sub_in (q := 25) rfl rfl rfl (by omega) (by have := of_decide_eq_false hb2; omega) ?_
          refine (Qy) ?_
          refine e_sliceStr (n.length - 25) n.length (Uu 9) rfl rfl rfl ⟨_, rfl⟩ rfl (by omega) (by omega) rfl ?_
          refine e_as (congrArg sv (show (n.drop (n.length - 25)).take (n.length - (n.length - 25)) = n.drop (n.length - 25) from List.take_of_length_le (by simp))) ?_
          refine (Qy) ?_
          refine e_neStr (k := [95, 50, 53, 53, 49, 57, 95, 67, 104, 97, 67, 104, 97, 80, 111, 108, 121, 95, 66, 76, 65, 75, 69, 50, 115]) rfl rfl rfl (fun b hb => hn8 b (List.mem_of_mem_drop hb)) (by decide) ?_
          refine (QF)<|Qn ?_
          exact ⟨⟨rfl, rfl, rfl, trivial⟩, ⟨bool_fin (by rw [bad1, hb0, hb1, hb2] <;> rfl), trivial⟩, ⟨rfl, trivial⟩⟩
  · simp only [catE]
    refine e_cond rfl ?_ ?_
    · intro hc0
      rw [hb] at hc0; cases hc0
    · intro hc0
      have h31 := bad1_no hb
      refine Qk<|Qs<|Qp<|(Qm)<|(Qm)<|(QU) ?_
      refine e_sub_in (q := 25) rfl rfl rfl (by omega) (by omega) ?_
      refine e_sliceStr 6 (n.length - 25) (Uu 9) rfl rfl rfl ⟨_, rfl⟩ ⟨_, rfl⟩ (by omega) (by omega) rfl ?_
      refine e_as (show _ = sv (midN n) from rfl) ?_
      refine (Qa)<|Qn<|Qs<|Qp<|(Qm) ?_
      refine e_call rfl (Un 28) ((indexP_fn (G := []) (midN n) m hmid (by omega)).more (fun x hx => List.mem_cons_of_mem _ (List.mem_cons.2 (.inl (List.mem_singleton.1 hx))))) rfl rfl ?_
      refine e_as (congrArg ixv hi) ?_
      refine (Qa)<|Qn<|Qs<|Qs<|Qp<|(Qm)<|(Ql)<|Qn ?_
      refine e_cond rfl ?_ ?_
      · intro hc1
        exact absurd (of_decide_eq_true hc1) (by omega)
      · intro hc1
        have hil := ixp_lt hi
        refine Qk<|Qs<|Qp<|(Qm)<|(Qm) ?_
        refine e_sliceStr i (midN n).length (Uu 9) rfl rfl rfl ⟨_, rfl⟩ rfl (by omega) (by omega) rfl ?_
        refine e_as (congrArg sv (show ((midN n).drop i).take ((midN n).length - i) = (midN n).drop i from List.take_of_length_le (by simp))) ?_
        refine e_catS (k := [43]) rfl rfl rfl (by simp only [List.length_drop, List.length_cons, List.length_nil]; omega) ?_
        refine (Qa)<|Qn<|Qs<|Qp<|(Qa)<|Qn<|Qs<|Qb ?_
        refine QzK [(2, _), (4, _), (5, _)] [(0, _)] (fun kk E m => ∃ (L : List Nat) (ds : List Nat) (w : Value) (oz : Option Blk), kk = L.length ∧ E = [(6, sv L), (7, w)] ∧ m = [(50, oz)] ∧ (OwnS 3 1 w ds.length (ds.map (fun x : Nat => ii x)) oz.toList) ∧ (mods ((midN n).drop i ++ [43]) = mapC ds (mods L)) ∧ (∀ b ∈ L, b < 256) ∧ (L.length + 5 * ds.length ≤ ML)) ⟨((midN n).drop i ++ [43]), [], nilS, none, rfl, rfl, rfl, (own_nil _ _), (mapC_nil _), hm0, by rw [hML]; simp⟩ ⟨rfl, rfl, rfl, rfl, rfl, trivial⟩ ⟨rfl, rfl, trivial⟩ ?_
        rintro kk E m ⟨L, ds, w, oz, rfl, rfl, rfl, hf0_0, hf0_1, hf0_2, hf0_3⟩
        simp only [catE, catL]
        refine Qs<|Qs<|Qp<|(Qm) ?_
        refine e_neStr (k := []) rfl rfl rfl hf0_2 (by simp) ?_
        refine Qn ?_
        refine e_cond rfl ?_ ?_
        · intro hc2
          have hLn := of_decide_eq_true hc2
          refine Qk<|Qb<|Qs<|Qs<|Qp ?_
          refine e_join [(2, _), (4, _), (5, _), (6, _), (7, _), (47, _), (48, _)] [(71, .bool (bad5 L))] [(0, some _), (50, oz)] ⟨rfl, rfl, rfl, rfl, rfl, rfl, rfl, trivial⟩ ⟨rfl, rfl, trivial⟩ ?_ ?_
          · skip
            refine (Qm)<|(QU)<|(Ql)<|(Qm) ?_
            refine e_case (fun hb3 => ?_) (fun hb3 => ?_)
            · skip
              refine (Qo)<|(Qo)<|(Qo)<|(QT)<|(Qm)<|(Qo)<|(Qo)<|(Qo)<|(QT)<|(Qm)<|(Qo)<|(Qo)<|(Qo)<|(QT)<|(Qm)<|(Qo)<|(Qo)<|(Qo)<|(QT)<|Qn ?_
              exact ⟨⟨rfl, rfl, rfl, rfl, rfl, rfl, rfl, trivial⟩, ⟨bool_fin (by rw [bad5, hb3] <;> rfl), trivial⟩, ⟨rfl, rfl, trivial⟩⟩
            · skip
              refine (Qy)<|(Qm)<|(Qy) ?_
              refine e_sliceStr 0 3 (Uu 9) rfl rfl rfl rfl ⟨_, rfl⟩ (by omega) (by have := of_decide_eq_false hb3; omega) rfl ?_
              refine (Qy) ?_
              refine e_neStr (k := [112, 115, 107]) rfl rfl rfl (fun b hb => hf0_2 b (List.mem_of_mem_drop (List.mem_of_mem_take hb))) (by decide) ?_
              refine e_as (show _ = Value.bool (decide (L.take 3 ≠ PSK)) from rfl) ?_
              refine (QF)<|(Qm) ?_
              refine e_case (fun hb4 => ?_) (fun hb4 => ?_)
              · skip
                refine (Qo)<|(Qo)<|(Qo)<|(QT)<|(Qm)<|(Qo)<|(Qo)<|(Qo)<|(QT)<|(Qm)<|(Qo)<|(Qo)<|(Qo)<|(QT)<|Qn ?_
                exact ⟨⟨rfl, rfl, rfl, rfl, rfl, rfl, rfl, trivial⟩, ⟨bool_fin (by rw [bad5, hb3, hb4] <;> rfl), trivial⟩, ⟨rfl, rfl, trivial⟩⟩
              · skip
                refine (Qy)<|(Qm)<|(Qy) ?_
                refine e_idxStr (Uu 9) rfl rfl (at_getD (show 4 < L.length by have := of_decide_eq_false hb3; omega)) (getD_b hf0_2 _) rfl ?_
                refine (Qy)<|(QN)<|(QF)<|(Qm) ?_
                refine e_case (fun hb5 => ?_) (fun hb5 => ?_)
                · skip
                  refine (Qo)<|(Qo)<|(Qo)<|(QT)<|(Qm)<|(Qo)<|(Qo)<|(Qo)<|(QT)<|Qn ?_
                  exact ⟨⟨rfl, rfl, rfl, rfl, rfl, rfl, rfl, trivial⟩, ⟨bool_fin (by rw [bad5, hb3, hb4, hb5] <;> rfl), trivial⟩, ⟨rfl, rfl, trivial⟩⟩
                · skip
                  refine (Qy)<|(Qm)<|(Qy) ?_
                  refine e_idxStr (Uu 9) rfl rfl (at_getD (show 3 < L.length by have := of_decide_eq_false hb3; omega)) (getD_b hf0_2 _) rfl ?_
                  refine (Qy)<|(Ql)<|(QF)<|(Qm) ?_
                  refine e_case (fun hb6 => ?_) (fun hb6 => ?_)
                  · skip
                    refine (Qo)<|(Qo)<|(Qo)<|(QT)<|Qn ?_
                    exact ⟨⟨rfl, rfl, rfl, rfl, rfl, rfl, rfl, trivial⟩, ⟨bool_fin (by rw [bad5, hb3, hb4, hb5, hb6] <;> rfl), trivial⟩, ⟨rfl, rfl, trivial⟩⟩
                  · skip
                    refine (Qy)<|(Qm)<|(Qy) ?_
                    refine e_idxStr (Uu 9) rfl rfl (at_getD (show 3 < L.length by have := of_decide_eq_false hb3; omega)) (getD_b hf0_2 _) rfl ?_
                    refine (Qy)<|(QG)<|(QF)<|Qn ?_
                    exact ⟨⟨rfl, rfl, rfl, rfl, rfl, rfl, rfl, trivial⟩, ⟨bool_fin (by rw [bad5, hb3, hb4, hb5, hb6] <;> rfl), trivial⟩, ⟨rfl, rfl, trivial⟩⟩
          · simp only [catE]
            refine e_cond rfl ?_ ?_
            · intro hc3
              have hb5 : bad5 L = true := hc3
              have hbad := mapC_bad hf0_1 hLn hb5
              rw [hm] at hbad; cases hbad
            · intro hc3
              have hb5 : bad5 L = false := hc3
              obtain ⟨hl5, hd1, hd2⟩ := bad5_no hb5
              refine Qk<|Qs<|Qp<|(Qm)<|(Qm) ?_
              refine e_idxStr (Uu 9) rfl rfl (at_getD (show 3 < L.length by omega)) (getD_b hf0_2 _) rfl ?_
              refine e_sub_b (q := 48) rfl rfl rfl (by omega) ?_
              refine e_as (congrArg by8 (show (L.getD 3 0 + 256 - 48) % 256 = L.getD 3 0 - 48 by omega)) ?_
              refine e_conv_i (Uu 5) (Uu 3) rfl rfl rfl (by omega) ?_
              refine e_buildSl 1 #[ii (L.getD 3 0 - 48)] (Uu 22 rfl) (Uz 3 rfl) (Ub 3 rfl) (by decide) (by decide) rfl (by kernel_rfl) rfl fun r2 => ?_
              refine e_append 50 hf0_0 (shows_new _ _ (by rfl)) rfl (seen1 1 rfl ⟨[], trivial⟩) (Uu 22) (Uz 3) (Uy 3) (Ub 3) (by rfl) rfl rfl (one_ii _) (by simp only [maxLen]; omega) (by omega) rfl fun v7_1 oz7_1 ho7_1 => ?_
              refine (Qa)<|Qn<|Qp<|(Qm) ?_
              refine e_sliceStr 5 L.length (Uu 9) rfl rfl rfl ⟨_, rfl⟩ rfl (by omega) (by omega) rfl ?_
              refine e_as (congrArg sv (show (L.drop 5).take (L.length - 5) = L.drop 5 from List.take_of_length_le (by simp))) ?_
              refine (Qa)<|Qn ?_
              refine QzL ⟨L.drop 5, ds ++ [L.getD 3 0 - 48], _, _, rfl, rfl, rfl, (own_fix ho7_1 (by rw [List.length_append]; rfl) (by rw [List.map_append]; rfl)), (mapC_step hf0_1 hLn hb5), fun b hb => hf0_2 b (List.mem_of_mem_drop hb), by simp only [List.length_drop, List.length_append, List.length_cons, List.length_nil]; omega⟩ ⟨rfl, rfl, rfl, rfl, rfl, trivial⟩ ⟨rfl, rfl, trivial⟩ ?_
              have := List.length_pos_iff.2 hLn
              simp only [List.length_drop]; omega
        · intro hc2
          have hLn := Decidable.not_not.1 (of_decide_eq_false hc2)
          have hds := mapC_end hf0_1 hLn
          rw [hm] at hds
          injection hds with hds
          subst hds
          refine Qe<|Qs<|QR ⟨[], 4, [], none⟩<|(Qm)<|(Qm) ?_
          refine e_sliceStr 0 i (Uu 9) rfl rfl rfl rfl ⟨_, rfl⟩ (by omega) (by omega) rfl ?_
          refine e_as (show _ = sv ((midN n).take i) from rfl) ?_
          refine (Qm) ?_
          refine e_callD [(0, _), (50, _)] (by repeat (first | exact bag_nil | exact bag_lab _ | apply bag_skip rfl)) ⟨rfl, rfl, trivial⟩ rfl rfl rfl (Un 9) (seen_app seenG (seenM 50 rfl ⟨[], trivial⟩)) (with_ok (G := (MLB m :: G) ++ oz.toList) ((midN n).take i) w (ci ds0) (fun b hb => hmid b (List.mem_of_mem_take hb)) (by rw [ci_ii, show (ci ds0).length = ds0.length by simp [ci]]; exact hf0_0.shows.mono (fun x hx => List.mem_cons_of_mem _ (List.mem_append_right _ hx))) (by rw [show (ci ds0).length = ds0.length by simp [ci]]; omega) he) (pat_room ((midN n).take i) (decide (((midN n).take i) = nXF)) w (wq ((midN n).take i) (ci ds0) 0) (wq ((midN n).take i) (ci ds0) 1) (wt ((midN n).take i) (ci ds0))) rfl rfl fun v5_1 nw5_1 hD5_1 => ?_
          simp only [catL]
          obtain ⟨_, rfl, va1, vb1, vt1, tv1, rfl, ha1, hb1, ht1, hn1, hl1⟩ := hD5_1
          refine (Qx)<|(Qx) ?_
          refine e_freeze 50 [(0, _)] rfl rfl (by repeat (first | exact bag_nil | exact bag_lab _ | apply bag_skip rfl)) ⟨rfl, trivial⟩ rfl rfl ?_
          simp only [catL]
          refine e_storeA (i := 0) (Uz 26) rfl rfl (arrv_size _ _) (catOkP (shows_oneC hf0_0.shows) (shows_oneC ha1) (shows_oneC hb1) (shows_oneC ht1)) rfl cells_sz (.inl rfl) ?_
          refine (Qa)<|Qn<|Qr ?_
          exact ⟨_, _, _, (([] ++ nw5_1) ++ oz.toList), rfl, .cell (i := 0) rfl rfl (Uu 26) rfl (Uz 26) (arrv_size _ _), .tmp rfl, ⟨w, (by rw [ci_ii]; exact hf0_0.shows.mono (fun x hx => List.mem_append_right _ hx)), pat_mono ⟨va1, vb1, vt1, tv1, rfl, ha1, hb1, ht1, hn1, hl1⟩ (fun x hx => List.mem_append_left _ (List.mem_append_right _ hx))⟩, (by repeat (first | exact bag_nil | exact bag_lab _ | apply bag_skip rfl))⟩
end Go.Proofs.YtejejmhbhegneaaDoor
namespace Go.Proofs.YtejejmhbhegneaaDoor
open Go Go.RowKit
variable {G : Mem}
set_option maxHeartbeats 2000000 in
theorem patternParses_err (l : List Nat) (e : Nat) (hD : Fn Tryd.prog G 11 #[sv l] (.tuple #[.agg (cells 6 [pV (.string ByteArray.empty), pV (.bool false), pV nilS, pV nilS, pV nilS, pV nilS]), ii e])) (hE : Fn Tryd.prog G 12 #[sv l] (.tuple #[.agg (cells 6 [pV (.string ByteArray.empty), pV (.bool false), pV nilS, pV nilS, pV nilS, pV nilS]), ii e])) : Fn Tryd.prog G 4 #[sv l] (.bool true) := by
  refine Qf1 Tryd.func4 ?_
  refine Qs<|Qp<|(Qa)<|Qn<|Qs<|Qp<|(Qm) ?_
  refine e_call rfl (Un 11) hD rfl rfl ?_
  refine (Qm)<|(Qx)<|(Qx)<|(QH 0) fun r1=>?_
  refine e_storeA (i := 0) (Uz 26) rfl rfl (arrv_size _ _) (cells_one ⟨fun _ => rfl, fun _ => rfl, fun _ => rfl, fun _ => rfl, fun _ => rfl, fun _ => rfl, trivial⟩) rfl cells_sz (.inl rfl) ?_
  refine (Qa)<|Qn<|Qs<|Qp<|(Qm) ?_
  refine e_call rfl (Un 12) hE rfl rfl ?_
  refine (Qm)<|(Qx)<|(Qx)<|(QH 1) fun r2=>?_
  refine e_storeA (i := 1) (Uz 26) rfl rfl (arrv_size _ _) (cells_one ⟨fun _ => rfl, fun _ => rfl, fun _ => rfl, fun _ => rfl, fun _ => rfl, fun _ => rfl, trivial⟩) rfl cells_sz (.inl rfl) ?_
  refine (Qa)<|Qn<|Qs<|Qp<|(QD 0)<|(QD 1) ?_
  refine e_call rfl (Un 10) (sameP_fn [] false nilS nilS nilS nilS [] [] [] [] [] (by simp) (.inl ⟨rfl, rfl, none, 0, rfl, fun _ => rfl⟩) li_nils [] false nilS nilS nilS nilS [] [] [] [] [] (by simp) (.inl ⟨rfl, rfl, none, 0, rfl, fun _ => rfl⟩) li_nils (by simp)) rfl rfl ?_
  refine e_as (congrArg Value.bool (sameP_self _ _ _ _ _ _)) ?_
  refine (Qm)<|(Qy)<|(Qm)<|(Qy)<|(Qm)<|(Qy)<|(Qc)<|(Qar)<|(QT)<|(Qa)<|Qn<|Qr ?_
  exact ⟨_, rfl, .tmp rfl⟩
set_option maxHeartbeats 4000000 in
theorem patternParses_ok (l : List Nat) (a : List Nat) (b : Bool) (ps q0 q1 : List Nat) (us : List (List Nat)) (hb8 : ∀ x ∈ a, x < 256) (hz : us.length ≤ 9223372036854775807 ∧ ps.length ≤ 9223372036854775807 ∧ q0.length ≤ 9223372036854775807 ∧ q1.length ≤ 9223372036854775807 ∧ ∀ q ∈ us, q.length ≤ 9223372036854775807) (hD : Fx Tryd.prog G [] 11 #[sv l] (fun w l1 nw => l1 = [] ∧ ∃ w', w = .tuple #[w', ii 0] ∧ PatIs2 a b ps q0 q1 us w' nw)) (hE : Fx Tryd.prog G [] 12 #[sv l] (fun w l1 nw => l1 = [] ∧ ∃ w', w = .tuple #[w', ii 0] ∧ PatIs2 a b ps q0 q1 us w' nw)) : Fn Tryd.prog G 4 #[sv l] (.bool true) := by
  refine Qf1 Tryd.func4 ?_
  refine Qs<|Qp<|(Qa)<|Qn<|Qs<|QR ⟨[], 4, [], none⟩<|(Qm) ?_
  refine e_callD [] (by repeat (first | exact bag_nil | exact bag_lab _ | apply bag_skip rfl)) trivial rfl rfl rfl (Un 11) seenG hD (pat_room2 a b ps q0 q1 us) rfl rfl fun v1_1 nw1_1 hD1_1 => ?_
  simp only [catL]
  obtain ⟨_, rfl, vp1, hp1, va1, vb1, vt1, tv1, rfl, ha1, hb1, ht1, hn1, hl1⟩ := hD1_1
  refine (Qm)<|(Qx)<|(Qx)<|(QH 0) fun r1=>?_
  refine e_storeA (i := 0) (Uz 26) rfl rfl (arrv_size _ _) (catOkP (shows_oneC hp1) (shows_oneC ha1) (shows_oneC hb1) (shows_oneC ht1)) rfl cells_sz (.inl rfl) ?_
  refine (Qa)<|Qn<|Qs<|QR ⟨[], 4, [], none⟩<|(Qm) ?_
  refine e_callD [(0, _)] (by repeat (first | exact bag_nil | exact bag_lab _ | apply bag_skip rfl)) ⟨rfl, trivial⟩ rfl rfl rfl (Un 12) seenG hE (pat_room2 a b ps q0 q1 us) rfl rfl fun v1_2 nw1_2 hD1_2 => ?_
  simp only [catL]
  obtain ⟨_, rfl, vp2, hp2, va2, vb2, vt2, tv2, rfl, ha2, hb2, ht2, hn2, hl2⟩ := hD1_2
  refine (Qm)<|(Qx)<|(Qx)<|(QH 1) fun r2=>?_
  refine e_storeA (i := 1) (Uz 26) rfl rfl (arrv_size _ _) (catOkP (shows_oneC hp2) (shows_oneC ha2) (shows_oneC hb2) (shows_oneC ht2)) rfl cells_sz (.inl rfl) ?_
  refine (Qa)<|Qn<|Qs<|Qp<|(QD 0)<|(QD 1) ?_
  refine e_callS rfl rfl (Un 10) (seen_app seenG (seen_bag (by repeat (first | exact bag_nil | exact bag_lab _ | apply bag_skip rfl)) rfl)) (sameP_fn (G := G ++ (([] ++ nw1_1) ++ nw1_2)) a b vp1 va1 vb1 vt1 tv1 (ci ps) (ci q0) (ci q1) (us.map ci) hb8 (by rw [hn1]; exact ht1.mono (fun x hx => List.mem_append_right _ (List.mem_append_left _ (List.mem_append_right _ hx)))) (pat_li2 (hp1.mono (fun x hx => List.mem_append_right _ (List.mem_append_left _ (List.mem_append_right _ hx)))) (ha1.mono (fun x hx => List.mem_append_right _ (List.mem_append_left _ (List.mem_append_right _ hx)))) (hb1.mono (fun x hx => List.mem_append_right _ (List.mem_append_left _ (List.mem_append_right _ hx)))) (li_mono hl1 (fun x hx => List.mem_append_right _ (List.mem_append_left _ (List.mem_append_right _ hx))))) a b vp2 va2 vb2 vt2 tv2 (ci ps) (ci q0) (ci q1) (us.map ci) hb8 (by rw [hn2]; exact ht2.mono (fun x hx => List.mem_append_right _ (List.mem_append_right _ hx))) (pat_li2 (hp2.mono (fun x hx => List.mem_append_right _ (List.mem_append_right _ hx))) (ha2.mono (fun x hx => List.mem_append_right _ (List.mem_append_right _ hx))) (hb2.mono (fun x hx => List.mem_append_right _ (List.mem_append_right _ hx))) (li_mono hl2 (fun x hx => List.mem_append_right _ (List.mem_append_right _ hx)))) (pat_sizes2 hz)) rfl rfl ?_
  refine e_as (congrArg Value.bool (sameP_self _ _ _ _ _ _)) ?_
  refine (Qm)<|(Qy)<|(Qm)<|(Qy)<|(Qm)<|(Qy)<|(Qc)<|(Qar)<|(QT)<|(Qa)<|Qn<|Qr ?_
  exact ⟨_, rfl, .tmp rfl⟩
set_option maxHeartbeats 2000000 in
theorem patternShows_fn (bx : List Nat) (lx : Bool) (vpx v0x v1x vtx : Value) (s : List Nat) (e : Nat) (hs8 : ∀ x ∈ s, x < 256) (hD : Fn Tryd.prog G 13 #[.agg (patC bx lx vpx v0x v1x vtx)] (.tuple #[sv s, ii e])) (hE : Fn Tryd.prog G 14 #[.agg (patC bx lx vpx v0x v1x vtx)] (.tuple #[sv s, ii e])) : Fn Tryd.prog G 5 #[.agg (patC bx lx vpx v0x v1x vtx)] (.bool true) := by
  refine Qf1 Tryd.func5 ?_
  refine Qs<|Qp<|(Qh 0) fun r1=>(Qa)<|Qn<|Qs<|Qp<|(QD 0) ?_
  refine e_call rfl (Un 13) hD rfl rfl ?_
  refine (Qm)<|(Qx)<|(Qx)<|(Qa)<|(Qa)<|Qn<|Qs<|Qp<|(QD 0) ?_
  refine e_call rfl (Un 14) hE rfl rfl ?_
  refine (Qm)<|(Qx)<|(Qx)<|(Qa)<|(Qa)<|Qn<|Qs<|Qp<|(Qm)<|(Qm) ?_
  refine e_eqStr rfl rfl rfl hs8 hs8 ?_
  refine (Qar)<|(Qm)<|(Qy)<|(Qm)<|(Qy)<|(Qm)<|(Qy)<|(Qc)<|(Qar)<|(QT)<|(Qa)<|Qn<|Qr ?_
  exact ⟨_, rfl, .tmp rfl⟩
end Go.Proofs.YtejejmhbhegneaaDoor
namespace Go.Proofs.YtejejmhbhegneaaDoor
open Go Go.RowKit
theorem dwith_bad {G : Mem} (l : List Nat) (v : Value) (ps : List Int) (e : Nat) (hl : ∀ b ∈ l, b < 256) (hv : Shows G 1 v ps.length (ps.map iv)) (hz : ps.length ≤ 9223372036854775807) (he : (pwith l ps).1 = e) (he0 : e ≠ 0) : Fn Tryd.prog G 8 #[sv l, v] (.tuple #[.agg (cells 6 [pV (.string ByteArray.empty), pV (.bool false), pV nilS, pV nilS, pV nilS, pV nilS]), ii e]) := by
  by_cases hp : ptext l = []
  · have h5 : e = 5 := by rw [← he, pwith, if_pos hp]
    subst h5; exact dwith_none l v hl hp
  · exact dwith_err l v ps e hl hv hz hp he he0
variable {G : Mem}
set_option maxHeartbeats 2000000 in
theorem dshow_err (ba : List Nat) (la : Bool) (vpa v0a v1a vta : Value) (tva : List Value) (pa q0a q1a : List Int) (ta : List (List Int)) (hbaz : ∀ x ∈ ba, x < 256) (_hva : Shows G 1 vta tva.length tva) (hLa : ShowsLI G (vpa :: v0a :: v1a :: tva) (pa :: q0a :: q1a :: ta)) (hp9 : pa.length ≤ 9223372036854775807) (e : Nat) (he : (pwith ba pa).1 = e) (h0 : e ≠ 0) : Fn Tryd.prog G 13 #[.agg (patC ba la vpa v0a v1a vta)] (.tuple #[sv [], ii e]) := by
  obtain ⟨ha0, ha1, ha2, ha3, ha4⟩ := li_three hLa
  refine Qf2 Tryd.func13 ?_
  refine Qs<|Qp<|(Qh 0) fun r1=>?_
  refine e_assign (v := sv []) rfl rfl ?_
  refine (Qa)<|Qn<|Qs<|Qp<|(Qf 0)<|(QV 0 0)<|(Qf 2)<|(QV 2 0) ?_
  refine e_call rfl (Un 8) (dwith_bad ba vpa pa e hbaz ha0 hp9 he h0) rfl rfl ?_
  refine (Qm)<|(Qx)<|(Qx)<|(QH 1) fun r2=>?_
  refine e_storeA (i := 1) (Uz 26) rfl rfl (arrv_size _ _) (cells_one ⟨fun _ => rfl, fun _ => rfl, fun _ => rfl, fun _ => rfl, fun _ => rfl, fun _ => rfl, trivial⟩) rfl cells_sz (.inl rfl) ?_
  refine (Qa)<|Qn<|Qs<|Qs<|Qp<|(Qm)<|(QN)<|(Qat)<|Qn<|(Qct)<|Qs<|Qp<|(Qm) ?_
  refine e_assign (v := sv []) rfl rfl ?_
  refine (Qa)<|Qn<|Qr ?_
  exact ⟨_, _, rfl, .tmp rfl, .tmp rfl⟩
end Go.Proofs.YtejejmhbhegneaaDoor
namespace Go.Proofs.YtejejmhbhegneaaDoor
open Go Go.RowKit
variable {G : Mem}
set_option maxHeartbeats 400000 in
theorem dequal_fn (va vb : Value) (a b : List Int) (ha : Shows G 1 va a.length (a.map iv)) (hb : Shows G 1 vb b.length (b.map iv)) (hz : a.length ≤ 9223372036854775807) : Fn Tryd.prog G 61 #[va, vb] (.bool (decide (a = b))) := by
  refine Qf1 Tryd.func61 ?_
  refine Qs<|Qp<|(Qa)<|Qn<|Qs<|Qs<|Qp<|(Qm)<|(QC ha)<|(Qm)<|(QC hb)<|(QN)<|Qn ?_
  refine e_cond rfl ?_ ?_
  · intro hc0
    have hne := of_decide_eq_true hc0
    refine Qs<|Qp<|(Qa)<|Qn<|Qr ?_
    first | rw [show decide (a = b) = false from decide_eq_false (fun h => hne (by rw [h]))] | rw [show decide (a = b) = false from decide_eq_false (fun h => hq (by rw [h]))] | rw [show decide (a = b) = true from decide_eq_true (ints_ext hlen (fun j hj => hf0_1 j (by omega)))]
    exact ⟨_, rfl, .tmp rfl⟩
  · intro hc0
    have hlen : a.length = b.length := by have := of_decide_eq_false hc0; omega
    refine Qk<|Qs<|Qs<|Qp<|(Qm)<|(QC ha)<|(Qm)<|Qn<|Qb ?_
    refine QzK [(0, _), (1, _), (12, _)] [] (fun kk E m => ∃ (i : Nat), kk = a.length - i ∧ E = [(13, ii i)] ∧ m = [] ∧ (i ≤ a.length) ∧ (∀ j, j < i → a.getD j 0 = b.getD j 0) ∧ (a.length = b.length)) ⟨0, rfl, rfl, rfl, by omega, fun j hj => absurd hj (Nat.not_lt_zero j), hlen⟩ ⟨rfl, rfl, rfl, rfl, trivial⟩ trivial ?_
    rintro kk E m ⟨i, rfl, rfl, rfl, hf0_0, hf0_1, hf0_2⟩
    simp only [catE, catL]
    refine Qs<|Qp<|(Ql)<|Qn<|Qs ?_
    refine e_cond rfl ?_ ?_
    · intro hc1
      have hc1 : i < a.length := by have := of_decide_eq_true hc1; omega
      refine Qk<|Qs<|Qb<|Qs<|Qp<|(Qm)<|(Qa)<|Qn<|Qs<|(Qg)<|(Qm)<|(Qm) ?_
      refine e_atV ha (Uu 22) (Uz 3) rfl rfl (by omega) rfl ?_
      refine (QS) ?_
      refine e_loadV ha seenG (Uu 3) rfl rfl (iv_at (by omega)) rfl ?_
      refine (Qm)<|(Qm) ?_
      refine e_atV hb (Uu 22) (Uz 3) rfl rfl (by omega) rfl ?_
      refine (QS) ?_
      refine e_loadV hb seenG (Uu 3) rfl rfl (iv_at (by omega)) rfl ?_
      refine (QN)<|Qn ?_
      refine e_cond rfl ?_ ?_
      · intro hc2
        have hq := of_decide_eq_true hc2
        refine Qs<|Qp<|(Qa)<|Qn<|Qr ?_
        first | rw [show decide (a = b) = false from decide_eq_false (fun h => hne (by rw [h]))] | rw [show decide (a = b) = false from decide_eq_false (fun h => hq (by rw [h]))] | rw [show decide (a = b) = true from decide_eq_true (ints_ext hlen (fun j hj => hf0_1 j (by omega)))]
        exact ⟨_, rfl, .tmp rfl⟩
      · intro hc2
        have hq : a.getD i 0 = b.getD i 0 := by have := of_decide_eq_false hc2; omega
        refine Qk<|Qp<|(Q2 1)<|(Qm)<|Qn ?_
        refine QzL ⟨i + 1, rfl, rfl, rfl, by omega, fun j hj => by rcases (by omega : j < i ∨ j = i) with h | rfl; exact hf0_1 j h; exact hq, hlen⟩ ⟨rfl, rfl, rfl, rfl, trivial⟩ trivial ?_
        omega
    · intro hc1
      have hc1 := of_decide_eq_false hc1
      have hz0 : i = a.length := by omega
      refine Qe<|Qs<|Qp<|(Qa)<|Qn<|Qr ?_
      first | rw [show decide (a = b) = false from decide_eq_false (fun h => hne (by rw [h]))] | rw [show decide (a = b) = false from decide_eq_false (fun h => hq (by rw [h]))] | rw [show decide (a = b) = true from decide_eq_true (ints_ext hlen (fun j hj => hf0_1 j (by omega)))]
      exact ⟨_, rfl, .tmp rfl⟩
set_option maxHeartbeats 2000000 in
theorem deqf_fn (va vb : Value) (vs us : List Value) (la lb : List (List Int)) (ha : Shows G 1 va vs.length vs) (hb : Shows G 1 vb us.length us) (hLa : ShowsLI G vs la) (hLb : ShowsLI G us lb) (hz : vs.length ≤ 9223372036854775807 ∧ ∀ l ∈ la, l.length ≤ 9223372036854775807) : Fn Tryd.prog G 60 #[va, vb, .func (.func 61) #[] #[]] (.bool (decide (la = lb))) := by
  have hla := hLa.1
  have hlb := hLb.1
  have hzv := hz.1
  refine Qf1 Tryd.func60 ?_
  refine Qs<|Qp<|(Qa)<|Qn<|Qs<|Qs<|Qp<|(Qm)<|(QC ha)<|(Qm)<|(QC hb)<|(QN)<|Qn ?_
  refine e_cond rfl ?_ ?_
  · intro hc0
    have hne := of_decide_eq_true hc0
    refine Qs<|Qp<|(Qa)<|Qn<|Qr ?_
    first | rw [show decide (la = lb) = false from decide_eq_false (fun h => hne (by rw [hla, hlb, h]))] | rw [show decide (la = lb) = false from decide_eq_false (fun h => hq (by rw [h]))] | rw [show decide (la = lb) = true from decide_eq_true (lists_ext (by omega) (fun j hj => hf0_1 j (by omega)))]
    exact ⟨_, rfl, .tmp rfl⟩
  · intro hc0
    have hlen : vs.length = us.length := by have := of_decide_eq_false hc0; omega
    refine Qk<|Qs<|Qs<|Qp<|(Qm)<|(QC ha)<|(Qm)<|Qn<|Qb ?_
    refine QzK [(1, _), (2, _), (15, _), (16, _)] [] (fun kk E m => ∃ (i : Nat), kk = vs.length - i ∧ E = [(17, ii i)] ∧ m = [] ∧ (i ≤ vs.length) ∧ (∀ j, j < i → la.getD j [] = lb.getD j []) ∧ (vs.length = us.length)) ⟨0, rfl, rfl, rfl, by omega, fun j hj => absurd hj (Nat.not_lt_zero j), hlen⟩ ⟨rfl, rfl, rfl, rfl, rfl, trivial⟩ trivial ?_
    rintro kk E m ⟨i, rfl, rfl, rfl, hf0_0, hf0_1, hf0_2⟩
    simp only [catE, catL]
    refine Qs<|Qp<|(Ql)<|Qn<|Qs ?_
    refine e_cond rfl ?_ ?_
    · intro hc1
      have hc1 : i < vs.length := by have := of_decide_eq_true hc1; omega
      refine Qk<|Qs<|Qb<|Qs<|Qp<|(Qm) ?_
      refine e_atV ha (Uu 24) (Uz 22) rfl rfl (by omega) rfl ?_
      refine (QS) ?_
      refine e_loadV ha seenG (Uu 22) rfl rfl (get_getD (by omega)) rfl ?_
      refine (Qa)<|(Qa)<|Qn<|Qs<|Qp<|(Qm)<|(Qm) ?_
      refine e_atV hb (Uu 24) (Uz 22) rfl rfl (by omega) rfl ?_
      refine (QS) ?_
      refine e_loadV hb seenG (Uu 22) rfl rfl (get_getD (by omega)) rfl ?_
      refine (Qa)<|Qn<|Qs<|Qp<|(Qm)<|(Qm)<|(Qm) ?_
      refine e_callS rfl rfl (Un 61) seenG (dequal_fn _ _ (la.getD i []) (lb.getD i []) (hLa.2 i (by omega)) (hLb.2 i (by omega)) (lt_all hz.2 i)) rfl rfl ?_
      refine (Q0)<|Qn ?_
      refine e_cond rfl ?_ ?_
      · intro hc2
        have hq : ¬ la.getD i [] = lb.getD i [] := by simpa using hc2
        refine Qs<|Qp<|(Qa)<|Qn<|Qr ?_
        first | rw [show decide (la = lb) = false from decide_eq_false (fun h => hne (by rw [hla, hlb, h]))] | rw [show decide (la = lb) = false from decide_eq_false (fun h => hq (by rw [h]))] | rw [show decide (la = lb) = true from decide_eq_true (lists_ext (by omega) (fun j hj => hf0_1 j (by omega)))]
        exact ⟨_, rfl, .tmp rfl⟩
      · intro hc2
        have hq : la.getD i [] = lb.getD i [] := by simpa using hc2
        refine Qk<|Qp<|(Q2 1)<|(Qm)<|Qn ?_
        refine QzL ⟨i + 1, rfl, rfl, rfl, by omega, fun j hj => by rcases (by omega : j < i ∨ j = i) with h | rfl; exact hf0_1 j h; exact hq, hlen⟩ ⟨rfl, rfl, rfl, rfl, rfl, trivial⟩ trivial ?_
        omega
    · intro hc1
      have hc1 := of_decide_eq_false hc1
      have hz0 : i = vs.length := by omega
      refine Qe<|Qs<|Qp<|(Qa)<|Qn<|Qr ?_
      first | rw [show decide (la = lb) = false from decide_eq_false (fun h => hne (by rw [hla, hlb, h]))] | rw [show decide (la = lb) = false from decide_eq_false (fun h => hq (by rw [h]))] | rw [show decide (la = lb) = true from decide_eq_true (lists_ext (by omega) (fun j hj => hf0_1 j (by omega)))]
      exact ⟨_, rfl, .tmp rfl⟩
set_option maxHeartbeats 400000 in
theorem dall_fn (va vb : Value) (vs us : List Value) (la lb : List (List Int)) (ha : Shows G 1 va vs.length vs) (hb : Shows G 1 vb us.length us) (hLa : ShowsLI G vs la) (hLb : ShowsLI G us lb) (hz : vs.length ≤ 9223372036854775807 ∧ ∀ l ∈ la, l.length ≤ 9223372036854775807) : Fn Tryd.prog G 42 #[va, vb] (.bool (decide (la = lb))) := by
  refine Qf1 Tryd.func42 ?_
  refine Qs<|Qp<|(Qa)<|Qn<|Qs<|Qp<|(Qm)<|(Qm) ?_
  refine e_call rfl (Un 60) (deqf_fn va vb vs us la lb ha hb hLa hLb hz) rfl rfl ?_
  refine (Qa)<|Qn<|Qr ?_
  exact ⟨_, rfl, .tmp rfl⟩
end Go.Proofs.YtejejmhbhegneaaDoor
namespace Go.Proofs.YtejejmhbhegneaaDoor
open Go Go.RowKit
variable {G : Mem}
set_option maxHeartbeats 4000000 in
theorem alike_fn (ba : List Nat) (la : Bool) (vpa v0a v1a vta : Value) (tva : List Value) (pa q0a q1a : List Int) (ta : List (List Int)) (_hbaz : ∀ x ∈ ba, x < 256) (hva : Shows G 1 vta tva.length tva) (hLa : ShowsLI G (vpa :: v0a :: v1a :: tva) (pa :: q0a :: q1a :: ta)) (bb : List Nat) (lb : Bool) (vpb v0b v1b vtb : Value) (tvb : List Value) (pb q0b q1b : List Int) (tb : List (List Int)) (_hbbz : ∀ x ∈ bb, x < 256) (hvb : Shows G 1 vtb tvb.length tvb) (hLb : ShowsLI G (vpb :: v0b :: v1b :: tvb) (pb :: q0b :: q1b :: tb)) (hza : ta.length ≤ 9223372036854775807 ∧ ∀ l ∈ pa :: q0a :: q1a :: ta, l.length ≤ 9223372036854775807) : Fn Tryd.prog G 29 #[.agg (patC ba la vpa v0a v1a vta), .agg (patC bb lb vpb v0b v1b vtb)] (.bool ((la == lb) && decide ([q0a, q1a] = [q0b, q1b]) && decide (ta = tb))) := by
  have hTa := li_tail (li_tail (li_tail hLa))
  have hTb := li_tail (li_tail (li_tail hLb))
  refine Qf1 Tryd.func29 ?_
  refine Qs<|Qp<|(Qh 0) fun r1=>(Qh 1) fun r2=>(Qa)<|Qn<|Qs<|(Qg) ?_
  refine e_join [(0, _), (1, _), (2, _), (3, _)] [(4, .bool ((la == lb) && decide ([q0a, q1a] = [q0b, q1b]) && decide (ta = tb)))] [(0, some _), (1, some _)] ⟨rfl, rfl, rfl, rfl, trivial⟩ ⟨rfl, rfl, trivial⟩ ?_ ?_
  · skip
    refine (Qf 1)<|(QV 1 0)<|(Qf 1)<|(QV 1 1) ?_
    refine e_eqB (Uu 4) rfl rfl rfl ?_
    refine (Qm) ?_
    refine e_case (b := (la == lb)) (fun hb0 => ?_) (fun hb0 => ?_)
    · skip
      refine (Qy)<|(Qf 3)<|(Qy) ?_
      refine e_sliceA 0 2 (Uu 23) (Uz 22) rfl rfl rfl rfl rfl (by omega) (by omega) (by omega) rfl ?_
      refine (Qy)<|(Qf 3)<|(Qy) ?_
      refine e_sliceA 0 2 (Uu 23) (Uz 22) rfl rfl rfl rfl rfl (by omega) (by omega) (by omega) rfl ?_
      refine (Qy) ?_
      refine e_callS rfl rfl (Un 42) (seen_app (seen1 0 rfl ⟨[], trivial⟩) (seen_app (seen1 1 rfl ⟨[], trivial⟩) seenG)) (dall_fn (G := ((⟨r1, patC ba la vpa v0a v1a vta, 26⟩ : Blk) :: (⟨r2, patC bb lb vpb v0b v1b vtb, 26⟩ : Blk) :: G)) _ _ [v0a, v1a] [v0b, v1b] [q0a, q1a] [q0b, q1b] (pre_two.mono (fun x hx => List.mem_cons.2 (.inl (List.mem_singleton.1 hx)))) (pre_two.mono (fun x hx => List.mem_cons_of_mem _ (List.mem_cons.2 (.inl (List.mem_singleton.1 hx))))) (li_mono (li_two (li_tail hLa)) (fun x hx => List.mem_cons_of_mem _ (List.mem_cons_of_mem _ hx))) (li_mono (li_two (li_tail hLb)) (fun x hx => List.mem_cons_of_mem _ (List.mem_cons_of_mem _ hx))) ⟨by simp, fun l hl => hza.2 l (by simp only [List.mem_cons, List.not_mem_nil, or_false] at hl ⊢; rcases hl with rfl | rfl <;> simp)⟩) rfl rfl ?_
      refine (QT)<|(Qm) ?_
      refine e_case (b := decide ([q0a, q1a] = [q0b, q1b])) (fun hb1 => ?_) (fun hb1 => ?_)
      · skip
        refine (Qy)<|(Qf 5)<|(Qy)<|(QV 5 0)<|(Qy)<|(Qf 5)<|(Qy)<|(QV 5 1)<|(Qy) ?_
        refine e_call rfl (Un 42) (dall_fn vta vtb tva tvb ta tb hva hvb hTa hTb ⟨by have := hTa.1; have := hza.1; omega, fun l hl => hza.2 l (by simp [hl])⟩) rfl rfl ?_
        refine (QT)<|(Qa)<|Qn ?_
        exact ⟨⟨rfl, rfl, rfl, rfl, trivial⟩, ⟨bool_fin (by rw [hb0, hb1] <;> rfl), trivial⟩, ⟨rfl, rfl, trivial⟩⟩
      · skip
        refine (Qo)<|(Qo)<|(Qo)<|(Qo)<|(Qo)<|(QF)<|(Qa)<|Qn ?_
        exact ⟨⟨rfl, rfl, rfl, rfl, trivial⟩, ⟨bool_fin (by rw [hb0, hb1] <;> rfl), trivial⟩, ⟨rfl, rfl, trivial⟩⟩
    · skip
      refine (Qo)<|(Qo)<|(Qo)<|(Qo)<|(Qo)<|(QF)<|(Qm)<|(Qo)<|(Qo)<|(Qo)<|(Qo)<|(Qo)<|(QF)<|(Qa)<|Qn ?_
      exact ⟨⟨rfl, rfl, rfl, rfl, trivial⟩, ⟨bool_fin (by rw [hb0] <;> rfl), trivial⟩, ⟨rfl, rfl, trivial⟩⟩
  · simp only [catE]
    refine Qr ?_
    exact ⟨_, rfl, .tmp rfl⟩
end Go.Proofs.YtejejmhbhegneaaDoor
namespace Go.Proofs.YtejejmhbhegneaaDoor
open Go Go.RowKit
variable {G : Mem}
set_option maxHeartbeats 400000 in
theorem small_fn (z : Nat) (hz : z ≤ 9) : Fn Tryd.prog G 84 #[ii z] (sv [48 + z]) := by
  refine Qf1 Tryd.func84 ?_
  refine Qs<|Qp ?_
  refine e_assign (v := sv []) rfl rfl ?_
  refine Qn<|Qs<|Qs<|Qp<|(Qm)<|(Ql)<|(Qat)<|Qn<|(Qct)<|Qs<|Qp<|(Qm)<|(Qm)<|(Q2 1) ?_
  refine e_sliceStr z (z + 1) (l := [48, 49, 50, 51, 52, 53, 54, 55, 56, 57, 97, 98, 99, 100, 101, 102, 103, 104, 105, 106, 107, 108, 109, 110, 111, 112, 113, 114, 115, 116, 117, 118, 119, 120, 121, 122]) (Uu 9) rfl rfl rfl ⟨_, rfl⟩ ⟨_, rfl⟩ (by omega) (by simp only [List.length_cons, List.length_nil]; omega) rfl ?_
  refine e_as (congrArg sv (dig_at hz)) ?_
  refine (Qa)<|Qn<|Qr ?_
  exact ⟨_, rfl, .tmp rfl⟩
set_option maxHeartbeats 400000 in
theorem fmtint_fn (z : Nat) (hz : z ≤ 9) : Fn Tryd.prog G 77 #[ii z, ii 10] (sv [48 + z]) := by
  refine Qf1 Tryd.func77 ?_
  refine Qs<|Qp ?_
  refine e_assign (v := sv []) rfl rfl ?_
  refine Qn<|Qs<|Qs<|Qp<|(Qm)<|(Qc)<|(Qat)<|Qn<|(Qct)<|Qs<|Qs<|Qp<|(Qm)<|(QL)<|(Qat)<|(Qm)<|(Qy)<|(Qm)<|(Qy)<|(Ql)<|(Qat)<|(QT)<|Qn<|(Qct)<|Qs<|Qp<|(Qm) ?_
  refine e_call rfl (Un 84) (small_fn z hz) rfl rfl ?_
  refine (Qa)<|Qn<|Qr ?_
  exact ⟨_, rfl, .tmp rfl⟩
set_option maxHeartbeats 400000 in
theorem litoa_fn (z : Nat) (hz : z ≤ 9) : Fn Tryd.prog G 62 #[ii z] (sv [48 + z]) := by
  refine Qf1 Tryd.func62 ?_
  refine Qs<|Qp ?_
  refine e_assign (v := sv []) rfl rfl ?_
  refine Qn<|Qs<|Qp<|(Qm) ?_
  refine e_call rfl (Un 77) (fmtint_fn z hz) rfl rfl ?_
  refine (Qa)<|Qn<|Qr ?_
  exact ⟨_, rfl, .tmp rfl⟩
set_option maxHeartbeats 400000 in
theorem itoa_fn (z : Nat) (hz : z ≤ 9) : Fn Tryd.prog G 43 #[ii z] (sv [48 + z]) := by
  refine Qf1 Tryd.func43 ?_
  refine Qs<|Qp ?_
  refine e_assign (v := sv []) rfl rfl ?_
  refine Qn<|Qs<|Qp<|(Qm) ?_
  refine e_call rfl (Un 62) (litoa_fn z hz) rfl rfl ?_
  refine (Qa)<|Qn<|Qr ?_
  exact ⟨_, rfl, .tmp rfl⟩
end Go.Proofs.YtejejmhbhegneaaDoor
namespace Go.Proofs.YtejejmhbhegneaaDoor
open Go Go.RowKit
variable {G : Mem}
set_option maxHeartbeats 4000000 in
theorem joined_fn (b : List Nat) (v : Value) (ps : List Int) (_hb : ∀ x ∈ b, x < 256) (hbl : b.length ≤ 1000) (hv : Shows G 1 v ps.length (ps.map iv)) (h4 : ps.length ≤ 4) (h9 : ∀ i, i < ps.length → 0 ≤ ps.getD i 0 ∧ ps.getD i 0 ≤ 9) : Fn Tryd.prog G 30 #[sv b, v] (sv (pname b ps)) := by
  refine Qf1 Tryd.func30 ?_
  refine Qs<|Qp ?_
  refine e_assign (v := sv []) rfl rfl ?_
  refine Qn<|Qs<|Qp<|(Qa)<|Qn<|Qs<|Qs<|Qp<|(Qm)<|(QC hv)<|(Qm)<|Qn<|Qb ?_
  refine QzK [(0, _), (4, _), (8, _), (9, _)] [] (fun kk E m => ∃ (i : Nat) (w4 : Value) (oz : Option Blk), kk = ps.length - i ∧ E = [(5, w4), (10, ii i)] ∧ m = [(50, oz)] ∧ (i ≤ ps.length) ∧ (OwnS 9 1 w4 ((ps.take i).map pskW).length (((ps.take i).map pskW).map sv) oz.toList)) ⟨0, nilS, none, rfl, rfl, rfl, by omega, (own_fix (own_nil _ _) (by simp) (by simp))⟩ ⟨rfl, rfl, rfl, rfl, rfl, rfl, trivial⟩ ⟨rfl, trivial⟩ ?_
  rintro kk E m ⟨i, w4, oz, rfl, rfl, rfl, hf0_0, hf0_1⟩
  simp only [catE, catL]
  have hjl : ((ps.take i).map pskW).length ≤ 4 := by rw [List.length_map, List.length_take]; omega
  refine Qs<|Qp<|(Ql)<|Qn<|Qs ?_
  refine e_cond rfl ?_ ?_
  · intro hc0
    have hc0 : i < ps.length := by have := of_decide_eq_true hc0; omega
    refine Qk<|Qs<|Qb<|Qs<|Qp ?_
    refine e_atV hv (Uu 22) (Uz 3) rfl rfl (by omega) rfl ?_
    refine (QS) ?_
    obtain ⟨z9, hz9⟩ : ∃ z9 : Nat, ps.getD i 0 = (z9 : Int) := ⟨(ps.getD i 0).toNat, by have := h9 i (by omega); omega⟩
    refine e_loadV hv seenG (Uu 3) rfl rfl (iv_at (by omega)) rfl ?_
    refine e_as (show _ = ii z9 from congrArg (Value.int .i64) hz9) ?_
    refine (Qa)<|Qn ?_
    have hz99 : z9 ≤ 9 := by have := h9 i (by omega); omega
    refine Qp<|(Qm)<|(Qm) ?_
    refine e_call rfl (Un 43) (itoa_fn z9 hz99) rfl rfl ?_
    refine e_catS (l := [112, 115, 107]) rfl rfl rfl (by simp only [List.length_cons, List.length_nil]; omega) ?_
    refine e_as (congrArg sv (show _ = pskW (ps.getD i 0) by rw [pskW, pskD_small (h9 i (by omega)).1 (h9 i (by omega)).2, hz9]; rfl)) ?_
    refine e_buildSl 0 #[sv (pskW (ps.getD i 0))] (Uu 47 rfl) (Uz 9 rfl) (Ub 9 rfl) (by decide) (by decide) rfl (fill1 (by simp) rfl) rfl fun r1 => ?_
    refine e_append 50 hf0_1 (shows_new _ _ (by rfl)) rfl (seen1 0 rfl ⟨[], trivial⟩) (Uu 47) (Uz 9) (Uy 9) (Ub 9) (by rfl) rfl rfl (by intro u hu; simp at hu; subst hu; rfl) (by simp only [maxLen]; omega) (by omega) rfl fun v2_1 oz2_1 ho2_1 => ?_
    refine (Qa)<|Qn<|Qp<|(Q2 1)<|(Qm)<|Qn ?_
    refine QzL ⟨i + 1, _, _, rfl, rfl, rfl, by omega, (own_fix ho2_1 (by rw [psk_next (by omega), List.length_append]; rfl) (by rw [psk_next (by omega), List.map_append]; rfl))⟩ ⟨rfl, rfl, rfl, rfl, rfl, rfl, trivial⟩ ⟨rfl, trivial⟩ ?_
    omega
  · intro hc0
    have hc0 := of_decide_eq_false hc0
    have hz0 : i = ps.length := by omega
    refine Qe<|Qs<|Qp<|(Qm) ?_
    refine e_catS (l := [78, 111, 105, 115, 101, 95]) rfl rfl rfl (by simp only [List.length_cons, List.length_nil]; omega) ?_
    refine (Qm) ?_
    refine e_callS rfl rfl (Un 44) (seenM 50 rfl ⟨[], trivial⟩) (join_fn (G := oz.toList) w4 ((ps.take i).map pskW) hf0_1.shows (by omega) (by rw [hz0, List.take_length, join_all]; have := pmd_len ps ps.length; omega)) rfl rfl ?_
    refine e_as (congrArg sv (show joinL 43 ((ps.take i).map pskW) = pmd ps ps.length by rw [hz0, List.take_length, join_all])) ?_
    refine e_catS rfl rfl rfl (by have := pmd_len ps ps.length; simp only [List.length_append, List.length_cons, List.length_nil]; omega) ?_
    refine e_catS (k := [95, 50, 53, 53, 49, 57, 95, 67, 104, 97, 67, 104, 97, 80, 111, 108, 121, 95, 66, 76, 65, 75, 69, 50, 115]) rfl rfl rfl (by have := pmd_len ps ps.length; simp only [List.length_append, List.length_cons, List.length_nil]; omega) ?_
    refine (Qa)<|Qn<|Qr ?_
    rw [show pname b ps = hdN ++ b ++ pmd ps ps.length ++ tlN from rfl]
    exact ⟨_, rfl, .tmp rfl⟩
end Go.Proofs.YtejejmhbhegneaaDoor
namespace Go.Proofs.YtejejmhbhegneaaDoor
open Go Go.RowKit
variable {G : Mem}
set_option maxHeartbeats 4000000 in
theorem dshow_ok (ba : List Nat) (la : Bool) (vpa v0a v1a vta : Value) (tva : List Value) (pa q0a q1a : List Int) (ta : List (List Int)) (hbaz : ∀ x ∈ ba, x < 256) (hva : Shows G 1 vta tva.length tva) (hLa : ShowsLI G (vpa :: v0a :: v1a :: tva) (pa :: q0a :: q1a :: ta)) (hza : ta.length ≤ 9223372036854775807 ∧ ∀ l ∈ pa :: q0a :: q1a :: ta, l.length ≤ 9223372036854775807) (hp9 : pa.length ≤ 9223372036854775807) (he : (pwith ba pa).1 = 0) (hs : sameP ba ba la (decide (ba = nXF)) pa pa q0a (ci (wq ba pa 0)) q1a (ci (wq ba pa 1)) ta ((wt ba pa).map ci) = true) : Fn Tryd.prog G 13 #[.agg (patC ba la vpa v0a v1a vta)] (.tuple #[sv (pname ba pa), ii 0]) := by
  obtain ⟨ha0, ha1, ha2, ha3, ha4⟩ := li_three hLa
  obtain ⟨hw0, hw4, hw1⟩ := pwith_in he
  have hpc := pchk_bound (show pchk ((pbase ba).length - 2) pa = 0 by rw [← pwith_pchk hw0]; exact he)
  obtain ⟨_, hpb5, _⟩ := pbase_ok hw0
  have hs2 := (sameQ ba pa la (decide (ba = nXF)) q0a (ci (wq ba pa 0)) q1a (ci (wq ba pa 1)) ta ((wt ba pa).map ci)).trans hs
  refine Qf2 Tryd.func13 ?_
  refine Qs<|Qp<|(Qh 0) fun r1=>?_
  refine e_assign (v := sv []) rfl rfl ?_
  refine (Qa)<|Qn<|Qs<|QR ⟨[], 4, [], none⟩<|(Qf 0)<|(QV 0 0)<|(Qf 2)<|(QV 2 0) ?_
  refine e_callD [(0, _)] (by repeat (first | exact bag_nil | exact bag_lab _ | apply bag_skip rfl)) ⟨rfl, trivial⟩ rfl rfl rfl (Un 8) seenG (dwith_ok ba vpa pa hbaz ha0 hp9 he) (pat_roomI ba (decide (ba = nXF)) pa (wq ba pa 0) (wq ba pa 1) (wt ba pa)) rfl rfl fun v1_1 nw1_1 hD1_1 => ?_
  simp only [catL]
  obtain ⟨_, rfl, vp1, hp1, va1, vb1, vt1, tv1, rfl, ha1', hb1, ht1, hn1, hl1⟩ := hD1_1
  refine (Qm)<|(Qx)<|(Qx)<|(QH 1) fun r2=>?_
  refine e_storeA (i := 1) (Uz 26) rfl rfl (arrv_size _ _) (catOkP (shows_oneC hp1) (shows_oneC ha1') (shows_oneC hb1) (shows_oneC ht1)) rfl cells_sz (.inl rfl) ?_
  refine (Qa)<|Qn<|Qs<|Qs<|Qp<|(Qm)<|(QN) ?_
  refine e_as (congrArg Value.bool (decide_eq_false (by decide))) ?_
  refine Qn<|(Qcf)<|Qk<|Qs<|Qs<|Qp<|(QD 0)<|(QD 1) ?_
  refine e_callS rfl rfl (Un 29) (seen_app seenG (seen_bag (by repeat (first | exact bag_nil | exact bag_lab _ | apply bag_skip rfl)) rfl)) (alike_fn (G := G ++ ([] ++ nw1_1)) ba la vpa v0a v1a vta tva pa q0a q1a ta hbaz (hva.mono (fun x hx => List.mem_append_left _ hx)) (li_mono hLa (fun x hx => List.mem_append_left _ hx)) ba (decide (ba = nXF)) vp1 va1 vb1 vt1 tv1 pa (ci (wq ba pa 0)) (ci (wq ba pa 1)) ((wt ba pa).map ci) hbaz (by rw [hn1]; exact ht1.mono (fun x hx => List.mem_append_right _ (List.mem_append_right _ hx))) (pat_li (hp1.mono (fun x hx => List.mem_append_right _ (List.mem_append_right _ hx))) (ha1'.mono (fun x hx => List.mem_append_right _ (List.mem_append_right _ hx))) (hb1.mono (fun x hx => List.mem_append_right _ (List.mem_append_right _ hx))) (li_mono hl1 (fun x hx => List.mem_append_right _ (List.mem_append_right _ hx)))) hza) rfl rfl ?_
  refine e_as (congrArg Value.bool hs2) ?_
  refine (Q0)<|Qn<|(Qcf)<|Qk<|Qs<|Qp<|(Qf 0)<|(QV 0 1)<|(Qf 2)<|(QV 2 1) ?_
  refine e_callS rfl rfl (Un 30) (seen_bag (by repeat (first | exact bag_nil | exact bag_lab _ | apply bag_skip rfl)) rfl) (joined_fn (G := nw1_1) ba vp1 pa hbaz (by omega) hp1 (by omega) (fun i hi => by have := hpc.2 i hi; omega)) rfl rfl ?_
  refine (Qa)<|(Qa)<|Qn<|Qr ?_
  exact ⟨_, _, rfl, .tmp rfl, .tmp rfl⟩
set_option maxHeartbeats 4000000 in
theorem dshow_form (ba : List Nat) (la : Bool) (vpa v0a v1a vta : Value) (tva : List Value) (pa q0a q1a : List Int) (ta : List (List Int)) (hbaz : ∀ x ∈ ba, x < 256) (hva : Shows G 1 vta tva.length tva) (hLa : ShowsLI G (vpa :: v0a :: v1a :: tva) (pa :: q0a :: q1a :: ta)) (hza : ta.length ≤ 9223372036854775807 ∧ ∀ l ∈ pa :: q0a :: q1a :: ta, l.length ≤ 9223372036854775807) (hp9 : pa.length ≤ 9223372036854775807) (he : (pwith ba pa).1 = 0) (hs : sameP ba ba la (decide (ba = nXF)) pa pa q0a (ci (wq ba pa 0)) q1a (ci (wq ba pa 1)) ta ((wt ba pa).map ci) = false) : Fn Tryd.prog G 13 #[.agg (patC ba la vpa v0a v1a vta)] (.tuple #[sv [], ii 3]) := by
  obtain ⟨ha0, ha1, ha2, ha3, ha4⟩ := li_three hLa
  obtain ⟨hw0, hw4, hw1⟩ := pwith_in he
  have hpc := pchk_bound (show pchk ((pbase ba).length - 2) pa = 0 by rw [← pwith_pchk hw0]; exact he)
  obtain ⟨_, hpb5, _⟩ := pbase_ok hw0
  have hs2 := (sameQ ba pa la (decide (ba = nXF)) q0a (ci (wq ba pa 0)) q1a (ci (wq ba pa 1)) ta ((wt ba pa).map ci)).trans hs
  refine Qf2 Tryd.func13 ?_
  refine Qs<|Qp<|(Qh 0) fun r1=>?_
  refine e_assign (v := sv []) rfl rfl ?_
  refine (Qa)<|Qn<|Qs<|QR ⟨[], 4, [], none⟩<|(Qf 0)<|(QV 0 0)<|(Qf 2)<|(QV 2 0) ?_
  refine e_callD [(0, _)] (by repeat (first | exact bag_nil | exact bag_lab _ | apply bag_skip rfl)) ⟨rfl, trivial⟩ rfl rfl rfl (Un 8) seenG (dwith_ok ba vpa pa hbaz ha0 hp9 he) (pat_roomI ba (decide (ba = nXF)) pa (wq ba pa 0) (wq ba pa 1) (wt ba pa)) rfl rfl fun v1_1 nw1_1 hD1_1 => ?_
  simp only [catL]
  obtain ⟨_, rfl, vp1, hp1, va1, vb1, vt1, tv1, rfl, ha1', hb1, ht1, hn1, hl1⟩ := hD1_1
  refine (Qm)<|(Qx)<|(Qx)<|(QH 1) fun r2=>?_
  refine e_storeA (i := 1) (Uz 26) rfl rfl (arrv_size _ _) (catOkP (shows_oneC hp1) (shows_oneC ha1') (shows_oneC hb1) (shows_oneC ht1)) rfl cells_sz (.inl rfl) ?_
  refine (Qa)<|Qn<|Qs<|Qs<|Qp<|(Qm)<|(QN) ?_
  refine e_as (congrArg Value.bool (decide_eq_false (by decide))) ?_
  refine Qn<|(Qcf)<|Qk<|Qs<|Qs<|Qp<|(QD 0)<|(QD 1) ?_
  refine e_callS rfl rfl (Un 29) (seen_app seenG (seen_bag (by repeat (first | exact bag_nil | exact bag_lab _ | apply bag_skip rfl)) rfl)) (alike_fn (G := G ++ ([] ++ nw1_1)) ba la vpa v0a v1a vta tva pa q0a q1a ta hbaz (hva.mono (fun x hx => List.mem_append_left _ hx)) (li_mono hLa (fun x hx => List.mem_append_left _ hx)) ba (decide (ba = nXF)) vp1 va1 vb1 vt1 tv1 pa (ci (wq ba pa 0)) (ci (wq ba pa 1)) ((wt ba pa).map ci) hbaz (by rw [hn1]; exact ht1.mono (fun x hx => List.mem_append_right _ (List.mem_append_right _ hx))) (pat_li (hp1.mono (fun x hx => List.mem_append_right _ (List.mem_append_right _ hx))) (ha1'.mono (fun x hx => List.mem_append_right _ (List.mem_append_right _ hx))) (hb1.mono (fun x hx => List.mem_append_right _ (List.mem_append_right _ hx))) (li_mono hl1 (fun x hx => List.mem_append_right _ (List.mem_append_right _ hx)))) hza) rfl rfl ?_
  refine e_as (congrArg Value.bool hs2) ?_
  refine (Q0)<|Qn<|(Qct)<|Qs<|Qp ?_
  refine e_assign (v := sv []) rfl rfl ?_
  refine (Qa)<|Qn<|Qr ?_
  exact ⟨_, _, rfl, .tmp rfl, .tmp rfl⟩
end Go.Proofs.YtejejmhbhegneaaDoor
namespace Go.Proofs.YtejejmhbhegneaaDoor
open Go Go.RowKit
variable {G : Mem}
set_option maxHeartbeats 2000000 in
theorem name_err (ba : List Nat) (la : Bool) (vpa v0a v1a vta : Value) (tva : List Value) (pa q0a q1a : List Int) (ta : List (List Int)) (hbaz : ∀ x ∈ ba, x < 256) (_hva : Shows ((⟨1, arr .u8 256 asp, 77⟩ : Blk) :: G) 1 vta tva.length tva) (hLa : ShowsLI ((⟨1, arr .u8 256 asp, 77⟩ : Blk) :: G) (vpa :: v0a :: v1a :: tva) (pa :: q0a :: q1a :: ta)) (hp9 : pa.length ≤ 9223372036854775807) (e : Nat) (he : (pwith ba pa).1 = e) (h0 : e ≠ 0) : Fn Tryd.prog ((⟨1, arr .u8 256 asp, 77⟩ : Blk) :: G) 14 #[.agg (patC ba la vpa v0a v1a vta)] (.tuple #[sv [], ii e]) := by
  obtain ⟨ha0, ha1, ha2, ha3, ha4⟩ := li_three hLa
  refine Qf2 Tryd.func14 ?_
  refine Qs<|Qp<|(Qh 0) fun r1=>?_
  refine e_assign (v := sv []) rfl rfl ?_
  refine (Qa)<|Qn<|Qs<|Qp<|(Qf 0)<|(QV 0 0)<|(Qf 2)<|(QV 2 0) ?_
  refine e_call rfl (Un 9) (with_err ba vpa pa e hbaz ha0 hp9 he h0) rfl rfl ?_
  refine (Qm)<|(Qx)<|(Qx)<|(QH 1) fun r2=>?_
  refine e_storeA (i := 1) (Uz 26) rfl rfl (arrv_size _ _) (cells_one ⟨fun _ => rfl, fun _ => rfl, fun _ => rfl, fun _ => rfl, fun _ => rfl, fun _ => rfl, trivial⟩) rfl cells_sz (.inl rfl) ?_
  refine (Qa)<|Qn<|Qs<|Qs<|Qp<|(Qm)<|(QN)<|(Qat)<|Qn<|(Qct)<|Qs<|Qp<|(Qm) ?_
  refine e_assign (v := sv []) rfl rfl ?_
  refine (Qa)<|Qn<|Qr ?_
  exact ⟨_, _, rfl, .tmp rfl, .tmp rfl⟩
end Go.Proofs.YtejejmhbhegneaaDoor
namespace Go.Proofs.YtejejmhbhegneaaDoor
open Go Go.RowKit
variable {G : Mem}
set_option maxHeartbeats 4000000 in
theorem name_form (ba : List Nat) (la : Bool) (vpa v0a v1a vta : Value) (tva : List Value) (pa q0a q1a : List Int) (ta : List (List Int)) (hbaz : ∀ x ∈ ba, x < 256) (hva : Shows ((⟨1, arr .u8 256 asp, 77⟩ : Blk) :: G) 1 vta tva.length tva) (hLa : ShowsLI ((⟨1, arr .u8 256 asp, 77⟩ : Blk) :: G) (vpa :: v0a :: v1a :: tva) (pa :: q0a :: q1a :: ta)) (hza : ta.length ≤ 9223372036854775807 ∧ ∀ l ∈ pa :: q0a :: q1a :: ta, l.length ≤ 9223372036854775807) (hp9 : pa.length ≤ 9223372036854775807) (he : (pwith ba pa).1 = 0) (hs : sameP ba ba la (decide (ba = nXF)) pa pa q0a (ci (wq ba pa 0)) q1a (ci (wq ba pa 1)) ta ((wt ba pa).map ci) = false) : Fn Tryd.prog ((⟨1, arr .u8 256 asp, 77⟩ : Blk) :: G) 14 #[.agg (patC ba la vpa v0a v1a vta)] (.tuple #[sv [], ii 3]) := by
  obtain ⟨ha0, ha1, ha2, ha3, ha4⟩ := li_three hLa
  obtain ⟨hw0, hw4, hw1⟩ := pwith_in he
  refine Qf2 Tryd.func14 ?_
  refine Qs<|Qp<|(Qh 0) fun r1=>?_
  refine e_assign (v := sv []) rfl rfl ?_
  refine (Qa)<|Qn<|Qs<|QR ⟨[], 4, [], none⟩<|(Qf 0)<|(QV 0 0)<|(Qf 2)<|(QV 2 0) ?_
  refine e_callD [(0, _)] (by repeat (first | exact bag_nil | exact bag_lab _ | apply bag_skip rfl)) ⟨rfl, trivial⟩ rfl rfl rfl (Un 9) seenG (with_ok (G := G) ba vpa pa hbaz ha0 hp9 he) (pat_room ba (decide (ba = nXF)) vpa (wq ba pa 0) (wq ba pa 1) (wt ba pa)) rfl rfl fun v1_1 nw1_1 hD1_1 => ?_
  simp only [catL]
  obtain ⟨_, rfl, va1, vb1, vt1, tv1, rfl, ha1', hb1, ht1, hn1, hl1⟩ := hD1_1
  refine (Qm)<|(Qx)<|(Qx)<|(QH 1) fun r2=>?_
  refine e_storeA (i := 1) (Uz 26) rfl rfl (arrv_size _ _) (catOkP (shows_oneC ha0) (shows_oneC ha1') (shows_oneC hb1) (shows_oneC ht1)) rfl cells_sz (.inl rfl) ?_
  refine (Qa)<|Qn<|Qs<|Qs<|Qp<|(Qm)<|(QN) ?_
  refine e_as (congrArg Value.bool (decide_eq_false (by decide))) ?_
  refine Qn<|(Qcf)<|Qk<|Qs<|Qs<|Qp<|(QD 0)<|(QD 1) ?_
  refine e_callS rfl rfl (Un 10) (seen_app seenG (seen_bag (by repeat (first | exact bag_nil | exact bag_lab _ | apply bag_skip rfl)) rfl)) (sameP_fn (G := (((⟨1, arr .u8 256 asp, 77⟩ : Blk) :: G) ++ ([] ++ nw1_1))) ba la vpa v0a v1a vta tva pa q0a q1a ta hbaz (hva.mono (fun x hx => List.mem_append_left _ hx)) (li_mono hLa (fun x hx => List.mem_append_left _ hx)) ba (decide (ba = nXF)) vpa va1 vb1 vt1 tv1 pa (ci (wq ba pa 0)) (ci (wq ba pa 1)) ((wt ba pa).map ci) hbaz (by rw [hn1]; exact ht1.mono (fun x hx => List.mem_append_right _ (List.mem_append_right _ hx))) (pat_li (ha0.mono (fun x hx => List.mem_append_left _ hx)) (ha1'.mono (fun x hx => List.mem_append_right _ (List.mem_append_right _ hx))) (hb1.mono (fun x hx => List.mem_append_right _ (List.mem_append_right _ hx))) (li_mono hl1 (fun x hx => List.mem_append_right _ (List.mem_append_right _ hx)))) hza) rfl rfl ?_
  refine e_as (congrArg Value.bool hs) ?_
  refine (Q0)<|Qn<|(Qct)<|Qs<|Qp ?_
  refine e_assign (v := sv []) rfl rfl ?_
  refine (Qa)<|Qn<|Qr ?_
  exact ⟨_, _, rfl, .tmp rfl, .tmp rfl⟩
end Go.Proofs.YtejejmhbhegneaaDoor
namespace Go.Proofs.YtejejmhbhegneaaDoor
open Go Go.RowKit
variable {G : Mem}
set_option maxHeartbeats 4000000 in
theorem name_ok (ba : List Nat) (la : Bool) (vpa v0a v1a vta : Value) (tva : List Value) (pa q0a q1a : List Int) (ta : List (List Int)) (hbaz : ∀ x ∈ ba, x < 256) (hva : Shows ((⟨1, arr .u8 256 asp, 77⟩ : Blk) :: G) 1 vta tva.length tva) (hLa : ShowsLI ((⟨1, arr .u8 256 asp, 77⟩ : Blk) :: G) (vpa :: v0a :: v1a :: tva) (pa :: q0a :: q1a :: ta)) (hza : ta.length ≤ 9223372036854775807 ∧ ∀ l ∈ pa :: q0a :: q1a :: ta, l.length ≤ 9223372036854775807) (hp9 : pa.length ≤ 9223372036854775807) (he : (pwith ba pa).1 = 0) (hs : sameP ba ba la (decide (ba = nXF)) pa pa q0a (ci (wq ba pa 0)) q1a (ci (wq ba pa 1)) ta ((wt ba pa).map ci) = true) : Fn Tryd.prog ((⟨1, arr .u8 256 asp, 77⟩ : Blk) :: G) 14 #[.agg (patC ba la vpa v0a v1a vta)] (.tuple #[sv (pname ba pa), ii 0]) := by
  obtain ⟨ha0, ha1, ha2, ha3, ha4⟩ := li_three hLa
  obtain ⟨hw0, hw4, hw1⟩ := pwith_in he
  refine Qf2 Tryd.func14 ?_
  refine Qs<|Qp<|(Qh 0) fun r1=>?_
  refine e_assign (v := sv []) rfl rfl ?_
  refine (Qa)<|Qn<|Qs<|QR ⟨[], 4, [], none⟩<|(Qf 0)<|(QV 0 0)<|(Qf 2)<|(QV 2 0) ?_
  refine e_callD [(0, _)] (by repeat (first | exact bag_nil | exact bag_lab _ | apply bag_skip rfl)) ⟨rfl, trivial⟩ rfl rfl rfl (Un 9) seenG (with_ok (G := G) ba vpa pa hbaz ha0 hp9 he) (pat_room ba (decide (ba = nXF)) vpa (wq ba pa 0) (wq ba pa 1) (wt ba pa)) rfl rfl fun v1_1 nw1_1 hD1_1 => ?_
  simp only [catL]
  obtain ⟨_, rfl, va1, vb1, vt1, tv1, rfl, ha1', hb1, ht1, hn1, hl1⟩ := hD1_1
  refine (Qm)<|(Qx)<|(Qx)<|(QH 1) fun r2=>?_
  refine e_storeA (i := 1) (Uz 26) rfl rfl (arrv_size _ _) (catOkP (shows_oneC ha0) (shows_oneC ha1') (shows_oneC hb1) (shows_oneC ht1)) rfl cells_sz (.inl rfl) ?_
  refine (Qa)<|Qn<|Qs<|Qs<|Qp<|(Qm)<|(QN) ?_
  refine e_as (congrArg Value.bool (decide_eq_false (by decide))) ?_
  refine Qn<|(Qcf)<|Qk<|Qs<|Qs<|Qp<|(QD 0)<|(QD 1) ?_
  refine e_callS rfl rfl (Un 10) (seen_app seenG (seen_bag (by repeat (first | exact bag_nil | exact bag_lab _ | apply bag_skip rfl)) rfl)) (sameP_fn (G := (((⟨1, arr .u8 256 asp, 77⟩ : Blk) :: G) ++ ([] ++ nw1_1))) ba la vpa v0a v1a vta tva pa q0a q1a ta hbaz (hva.mono (fun x hx => List.mem_append_left _ hx)) (li_mono hLa (fun x hx => List.mem_append_left _ hx)) ba (decide (ba = nXF)) vpa va1 vb1 vt1 tv1 pa (ci (wq ba pa 0)) (ci (wq ba pa 1)) ((wt ba pa).map ci) hbaz (by rw [hn1]; exact ht1.mono (fun x hx => List.mem_append_right _ (List.mem_append_right _ hx))) (pat_li (ha0.mono (fun x hx => List.mem_append_left _ hx)) (ha1'.mono (fun x hx => List.mem_append_right _ (List.mem_append_right _ hx))) (hb1.mono (fun x hx => List.mem_append_right _ (List.mem_append_right _ hx))) (li_mono hl1 (fun x hx => List.mem_append_right _ (List.mem_append_right _ hx)))) hza) rfl rfl ?_
  refine e_as (congrArg Value.bool hs) ?_
  refine (Q0)<|Qn<|(Qcf)<|Qk<|Qs<|Qp<|(Qf 0)<|(QV 0 0) ?_
  refine e_catS (l := [78, 111, 105, 115, 101, 95]) rfl rfl rfl (by simp; omega) ?_
  refine e_as (show _ = sv (hdN ++ ba ++ pmd pa 0) by rw [pmd, List.append_nil]) ?_
  refine (Qa)<|Qn<|Qs<|Qs<|Qp<|(Qf 2)<|(QV 2 0)<|(QC ha0)<|(Qm)<|Qn<|Qb ?_
  refine e_loopB [(2, _), (3, _), (28, _), (29, _)] [(0, _), (1, _)] (fun kk E m fz9 => ∃ (i : Nat), kk = pa.length - i ∧ E = [(6, sv (hdN ++ ba ++ pmd pa i)), (30, ii i)] ∧ m = [] ∧ fz9 = ([] ++ nw1_1) ∧ (i ≤ pa.length)) (k := pa.length - 0) (E0 := [(6, sv (hdN ++ ba ++ pmd pa 0)), (30, ii 0)]) (M0 := []) (fz := ([] ++ nw1_1)) ⟨0, rfl, rfl, rfl, rfl, by omega⟩ ⟨rfl, rfl, rfl, rfl, rfl, rfl, trivial⟩ ⟨rfl, rfl, trivial⟩ (by repeat (first | exact bag_nil | exact bag_lab _ | apply bag_skip rfl)) ?_
  rintro kk E m fz9 ⟨i, rfl, rfl, rfl, hfz9, hf0_0⟩
  rw [hfz9]
  clear hfz9
  simp only [catE, catL]
  have hml := pmd_len pa i
  have hhl : (hdN ++ ba ++ pmd pa i).length = 6 + ba.length + (pmd pa i).length := by simp; omega
  refine Qs<|Qp<|(Ql)<|Qn<|Qs ?_
  refine e_cond rfl ?_ ?_
  · intro hc2
    have hc2 : i < pa.length := by have := of_decide_eq_true hc2; omega
    refine Qk<|Qs<|Qb<|Qs<|Qp<|(Qm) ?_
    refine e_atV ha0 (Uu 22) (Uz 3) rfl rfl (by omega) rfl ?_
    refine (QS) ?_
    refine e_loadV ha0 seenG (Uu 3) rfl rfl (iv_at (by omega)) rfl ?_
    refine (Qa)<|(Qa)<|Qn<|Qs<|Qs<|Qp<|(Qm)<|(QG)<|Qn ?_
    refine e_cond rfl ?_ ?_
    · intro hc3
      have h0i : 0 < i := by have := of_decide_eq_true hc3; omega
      refine Qp<|(Qm) ?_
      refine e_catS (k := [43]) rfl rfl rfl (by simp only [List.length_cons, List.length_nil]; omega) ?_
      refine (Qa)<|Qn<|Qp<|(Qm)<|(Qm) ?_
      refine e_conv_u8z (Uu 3) (Uu 5) rfl rfl rfl ?_
      refine e_add_b (p := 48) rfl rfl rfl  ?_
      refine e_buildSl 2 #[by8 (pskD (pa.getD i 0))] (Uu 56 rfl) (Uz 5 rfl) (Ub 5 rfl) (by decide) (by decide) rfl (by kernel_rfl) rfl fun r3 => ?_
      refine e_conv_strV (l := [pskD (pa.getD i 0)]) (shows_new (r := r3) (z := 1) (len := 1) #[by8 (pskD (pa.getD i 0))] 5 (by rfl)) (seen1 2 rfl ⟨[], trivial⟩) (Uu 56) (Uu 5) (Uu 9) rfl rfl rfl ?_
      refine e_catS (l := [112, 115, 107]) rfl rfl rfl (by simp) ?_
      refine e_catS rfl rfl rfl (by simp only [List.length_append, List.length_cons, List.length_nil] at *; omega) ?_
      refine (Qa)<|Qn<|Qp<|(Q2 1)<|(Qm)<|Qn ?_
      refine e_round (E'' := [(6, sv (hdN ++ ba ++ pmd pa (i + 1))), (30, ii (i + 1))]) (M'' := []) (fz' := ([] ++ nw1_1)) ⟨i + 1, rfl, rfl, rfl, rfl, by omega⟩ ⟨(congrArg some (congrArg sv (by first | (rw [pmd, if_pos h0i]; simp [List.append_assoc]) | (rw [pmd, if_neg h0i]; simp [List.append_assoc])))), rfl, rfl, rfl, rfl, rfl, trivial⟩ ⟨rfl, rfl, trivial⟩ (by repeat (first | exact bag_nil | exact bag_lab _ | apply bag_skip rfl)) (by omega)
    · intro hc3
      have h0i : ¬ 0 < i := by have := of_decide_eq_false hc3; omega
      refine Qk<|Qp<|(Qm)<|(Qm) ?_
      refine e_conv_u8z (Uu 3) (Uu 5) rfl rfl rfl ?_
      refine e_add_b (p := 48) rfl rfl rfl  ?_
      refine e_buildSl 2 #[by8 (pskD (pa.getD i 0))] (Uu 56 rfl) (Uz 5 rfl) (Ub 5 rfl) (by decide) (by decide) rfl (by kernel_rfl) rfl fun r3 => ?_
      refine e_conv_strV (l := [pskD (pa.getD i 0)]) (shows_new (r := r3) (z := 1) (len := 1) #[by8 (pskD (pa.getD i 0))] 5 (by rfl)) (seen1 2 rfl ⟨[], trivial⟩) (Uu 56) (Uu 5) (Uu 9) rfl rfl rfl ?_
      refine e_catS (l := [112, 115, 107]) rfl rfl rfl (by simp) ?_
      refine e_catS rfl rfl rfl (by simp only [List.length_append, List.length_cons, List.length_nil] at *; omega) ?_
      refine (Qa)<|Qn<|Qp<|(Q2 1)<|(Qm)<|Qn ?_
      refine e_round (E'' := [(6, sv (hdN ++ ba ++ pmd pa (i + 1))), (30, ii (i + 1))]) (M'' := []) (fz' := ([] ++ nw1_1)) ⟨i + 1, rfl, rfl, rfl, rfl, by omega⟩ ⟨(congrArg some (congrArg sv (by first | (rw [pmd, if_pos h0i]; simp [List.append_assoc]) | (rw [pmd, if_neg h0i]; simp [List.append_assoc])))), rfl, rfl, rfl, rfl, rfl, trivial⟩ ⟨rfl, rfl, trivial⟩ (by repeat (first | exact bag_nil | exact bag_lab _ | apply bag_skip rfl)) (by omega)
  · intro hc2
    have hc2 := of_decide_eq_false hc2
    have hz0 : i = pa.length := by omega
    refine Qe<|Qs<|Qp<|(Qm) ?_
    refine e_catS (k := [95, 50, 53, 53, 49, 57, 95, 67, 104, 97, 67, 104, 97, 80, 111, 108, 121, 95, 66, 76, 65, 75, 69, 50, 115]) rfl rfl rfl (by simp only [List.length_append, List.length_cons, List.length_nil] at *; omega) ?_
    refine (Qa)<|(Qa)<|Qn<|Qr ?_
    rw [show pname ba pa = hdN ++ ba ++ pmd pa i ++ tlN by rw [hz0]; rfl]
    exact ⟨_, _, rfl, .tmp rfl, .tmp rfl⟩
end Go.Proofs.YtejejmhbhegneaaDoor
namespace Go.Proofs.YtejejmhbhegneaaDoor
open Go Go.RowKit
variable {G : Mem}
set_option maxHeartbeats 400000 in
theorem sameIntsK_fn (va vb : Value) (a b : List Int) (ha : Shows G 1 va a.length (a.map iv)) (hb : Shows G 1 vb b.length (b.map iv)) (hz : a.length ≤ 9223372036854775807) : Fn Tryd.prog G 32 #[va, vb] (.bool (decide (a = b))) := by
  refine Qf1 Tryd.func32 ?_
  refine Qs<|Qp<|(Qa)<|Qn<|Qs<|Qs<|Qp<|(Qm)<|(QC ha)<|(Qm)<|(QC hb)<|(QN)<|Qn ?_
  refine e_cond rfl ?_ ?_
  · intro hc0
    have hne := of_decide_eq_true hc0
    refine Qs<|Qp<|(Qa)<|Qn<|Qr ?_
    first | rw [show decide (a = b) = false from decide_eq_false (fun h => hne (by rw [h]))] | rw [show decide (a = b) = false from decide_eq_false (fun h => hq (by rw [h]))] | rw [show decide (a = b) = true from decide_eq_true (ints_ext hlen (fun j hj => hf0_1 j (by omega)))]
    exact ⟨_, rfl, .tmp rfl⟩
  · intro hc0
    have hlen : a.length = b.length := by have := of_decide_eq_false hc0; omega
    refine Qk<|Qs<|Qs<|Qp<|(Qm)<|(QC ha)<|(Qm)<|Qn<|Qb ?_
    refine QzK [(0, _), (1, _), (12, _)] [] (fun kk E m => ∃ (i : Nat), kk = a.length - i ∧ E = [(13, ii i)] ∧ m = [] ∧ (i ≤ a.length) ∧ (∀ j, j < i → a.getD j 0 = b.getD j 0) ∧ (a.length = b.length)) ⟨0, rfl, rfl, rfl, by omega, fun j hj => absurd hj (Nat.not_lt_zero j), hlen⟩ ⟨rfl, rfl, rfl, rfl, trivial⟩ trivial ?_
    rintro kk E m ⟨i, rfl, rfl, rfl, hf0_0, hf0_1, hf0_2⟩
    simp only [catE, catL]
    refine Qs<|Qp<|(Ql)<|Qn<|Qs ?_
    refine e_cond rfl ?_ ?_
    · intro hc1
      have hc1 : i < a.length := by have := of_decide_eq_true hc1; omega
      refine Qk<|Qs<|Qb<|Qs<|Qp<|(Qm)<|(Qa)<|Qn<|Qs<|(Qg)<|(Qm)<|(Qm) ?_
      refine e_atV ha (Uu 22) (Uz 3) rfl rfl (by omega) rfl ?_
      refine (QS) ?_
      refine e_loadV ha seenG (Uu 3) rfl rfl (iv_at (by omega)) rfl ?_
      refine (Qm)<|(Qm) ?_
      refine e_atV hb (Uu 22) (Uz 3) rfl rfl (by omega) rfl ?_
      refine (QS) ?_
      refine e_loadV hb seenG (Uu 3) rfl rfl (iv_at (by omega)) rfl ?_
      refine (QN)<|Qn ?_
      refine e_cond rfl ?_ ?_
      · intro hc2
        have hq := of_decide_eq_true hc2
        refine Qs<|Qp<|(Qa)<|Qn<|Qr ?_
        first | rw [show decide (a = b) = false from decide_eq_false (fun h => hne (by rw [h]))] | rw [show decide (a = b) = false from decide_eq_false (fun h => hq (by rw [h]))] | rw [show decide (a = b) = true from decide_eq_true (ints_ext hlen (fun j hj => hf0_1 j (by omega)))]
        exact ⟨_, rfl, .tmp rfl⟩
      · intro hc2
        have hq : a.getD i 0 = b.getD i 0 := by have := of_decide_eq_false hc2; omega
        refine Qk<|Qp<|(Q2 1)<|(Qm)<|Qn ?_
        refine QzL ⟨i + 1, rfl, rfl, rfl, by omega, fun j hj => by rcases (by omega : j < i ∨ j = i) with h | rfl; exact hf0_1 j h; exact hq, hlen⟩ ⟨rfl, rfl, rfl, rfl, trivial⟩ trivial ?_
        omega
    · intro hc1
      have hc1 := of_decide_eq_false hc1
      have hz0 : i = a.length := by omega
      refine Qe<|Qs<|Qp<|(Qa)<|Qn<|Qr ?_
      first | rw [show decide (a = b) = false from decide_eq_false (fun h => hne (by rw [h]))] | rw [show decide (a = b) = false from decide_eq_false (fun h => hq (by rw [h]))] | rw [show decide (a = b) = true from decide_eq_true (ints_ext hlen (fun j hj => hf0_1 j (by omega)))]
      exact ⟨_, rfl, .tmp rfl⟩
set_option maxHeartbeats 4000000 in
theorem samePK_fn (ba : List Nat) (la : Bool) (vpa v0a v1a vta : Value) (tva : List Value) (pa q0a q1a : List Int) (ta : List (List Int)) (hbaz : ∀ x ∈ ba, x < 256) (hva : Shows G 1 vta tva.length tva) (hLa : ShowsLI G (vpa :: v0a :: v1a :: tva) (pa :: q0a :: q1a :: ta)) (bb : List Nat) (lb : Bool) (vpb v0b v1b vtb : Value) (tvb : List Value) (pb q0b q1b : List Int) (tb : List (List Int)) (hbbz : ∀ x ∈ bb, x < 256) (hvb : Shows G 1 vtb tvb.length tvb) (hLb : ShowsLI G (vpb :: v0b :: v1b :: tvb) (pb :: q0b :: q1b :: tb)) (hza : ta.length ≤ 9223372036854775807 ∧ ∀ l ∈ pa :: q0a :: q1a :: ta, l.length ≤ 9223372036854775807) : Fn Tryd.prog G 16 #[.agg (patC ba la vpa v0a v1a vta), .agg (patC bb lb vpb v0b v1b vtb)] (.bool (sameP ba bb la lb pa pb q0a q0b q1a q1b ta tb)) := by
  obtain ⟨ha0, ha1, ha2, ha3, ha4⟩ := li_three hLa
  obtain ⟨hB0, hB1, hB2, hB3, hB4⟩ := li_three hLb
  rw [ha3] at hva
  rw [hB3] at hvb
  have hz1 := hza.1
  refine Qf1 Tryd.func16 ?_
  refine Qs<|Qp<|(Qh 0) fun r1=>(Qh 1) fun r2=>(Qa)<|Qn<|Qs<|Qp ?_
  refine e_join [(0, _), (1, _), (2, _), (3, _), (4, _)] [(5, .bool (sp0 ba bb la lb ta.length tb.length pa pb q0a q0b q1a q1b))] [(0, some _), (1, some _)] ⟨rfl, rfl, rfl, rfl, rfl, trivial⟩ ⟨rfl, rfl, trivial⟩ ?_ ?_
  · skip
    refine (Qf 0)<|(QV 0 0)<|(Qf 0)<|(QV 0 1) ?_
    refine e_eqStr rfl rfl rfl hbaz hbbz ?_
    refine (Qm) ?_
    refine e_case (fun hb0 => ?_) (fun hb0 => ?_)
    · skip
      refine (Qy)<|(Qf 1)<|(Qy)<|(QV 1 0)<|(Qy)<|(Qf 1)<|(Qy)<|(QV 1 1)<|(Qy) ?_
      refine e_eqB (Uu 4) rfl rfl rfl ?_
      refine (QT)<|(Qm) ?_
      refine e_case (fun hb1 => ?_) (fun hb1 => ?_)
      · skip
        refine (Qy)<|(Qf 5)<|(Qy)<|(QV 5 0)<|(Qy)<|(QC hva)<|(Qy)<|(Qf 5)<|(Qy)<|(QV 5 1)<|(Qy)<|(QC hvb)<|(Qy)<|(Qc)<|(QT)<|(Qm) ?_
        refine e_case (fun hb2 => ?_) (fun hb2 => ?_)
        · skip
          refine (Qy)<|(Qf 2)<|(Qy)<|(QV 2 0)<|(Qy)<|(Qf 2)<|(Qy)<|(QV 2 1)<|(Qy) ?_
          refine e_call rfl (Un 32) (sameIntsK_fn vpa vpb pa pb ha0 hB0 (hza.2 pa (by simp))) rfl rfl ?_
          refine (QT)<|(Qm) ?_
          refine e_case (fun hb3 => ?_) (fun hb3 => ?_)
          · skip
            refine (Qy)<|(Qf 3)<|(Qy)<|(QA 3 0)<|(Qy)<|(QV 3 0)<|(Qy)<|(Qf 3)<|(Qy)<|(QA 3 0)<|(Qy)<|(QV 3 1)<|(Qy) ?_
            refine e_call rfl (Un 32) (sameIntsK_fn v0a v0b q0a q0b ha1 hB1 (hza.2 q0a (by simp))) rfl rfl ?_
            refine (QT)<|(Qm) ?_
            refine e_case (fun hb4 => ?_) (fun hb4 => ?_)
            · skip
              refine (Qy)<|(Qf 3)<|(Qy)<|(QA 4 1)<|(Qy)<|(QV 4 0)<|(Qy)<|(Qf 3)<|(Qy)<|(QA 4 1)<|(Qy)<|(QV 4 1)<|(Qy) ?_
              refine e_call rfl (Un 32) (sameIntsK_fn v1a v1b q1a q1b ha2 hB2 (hza.2 q1a (by simp))) rfl rfl ?_
              refine (QT)<|(Qa)<|Qn ?_
              exact ⟨⟨rfl, rfl, rfl, rfl, rfl, trivial⟩, ⟨bool_fin (by rw [sp0, hb0, hb1, hb2, hb3, hb4] <;> rfl), trivial⟩, ⟨rfl, rfl, trivial⟩⟩
            · skip
              refine (Qo)<|(Qo)<|(Qo)<|(Qo)<|(Qo)<|(Qo)<|(Qo)<|(QF)<|(Qa)<|Qn ?_
              exact ⟨⟨rfl, rfl, rfl, rfl, rfl, trivial⟩, ⟨bool_fin (by rw [sp0, hb0, hb1, hb2, hb3, hb4] <;> rfl), trivial⟩, ⟨rfl, rfl, trivial⟩⟩
          · skip
            refine (Qo)<|(Qo)<|(Qo)<|(Qo)<|(Qo)<|(Qo)<|(Qo)<|(QF)<|(Qm)<|(Qo)<|(Qo)<|(Qo)<|(Qo)<|(Qo)<|(Qo)<|(Qo)<|(QF)<|(Qa)<|Qn ?_
            exact ⟨⟨rfl, rfl, rfl, rfl, rfl, trivial⟩, ⟨bool_fin (by rw [sp0, hb0, hb1, hb2, hb3] <;> rfl), trivial⟩, ⟨rfl, rfl, trivial⟩⟩
        · skip
          refine (Qo)<|(Qo)<|(Qo)<|(Qo)<|(Qo)<|(QF)<|(Qm)<|(Qo)<|(Qo)<|(Qo)<|(Qo)<|(Qo)<|(Qo)<|(Qo)<|(QF)<|(Qm)<|(Qo)<|(Qo)<|(Qo)<|(Qo)<|(Qo)<|(Qo)<|(Qo)<|(QF)<|(Qa)<|Qn ?_
          exact ⟨⟨rfl, rfl, rfl, rfl, rfl, trivial⟩, ⟨bool_fin (by rw [sp0, hb0, hb1, hb2] <;> rfl), trivial⟩, ⟨rfl, rfl, trivial⟩⟩
      · skip
        refine (Qo)<|(Qo)<|(Qo)<|(Qo)<|(Qo)<|(Qo)<|(Qo)<|(QF)<|(Qm)<|(Qo)<|(Qo)<|(Qo)<|(Qo)<|(Qo)<|(QF)<|(Qm)<|(Qo)<|(Qo)<|(Qo)<|(Qo)<|(Qo)<|(Qo)<|(Qo)<|(QF)<|(Qm)<|(Qo)<|(Qo)<|(Qo)<|(Qo)<|(Qo)<|(Qo)<|(Qo)<|(QF)<|(Qa)<|Qn ?_
        exact ⟨⟨rfl, rfl, rfl, rfl, rfl, trivial⟩, ⟨bool_fin (by rw [sp0, hb0, hb1] <;> rfl), trivial⟩, ⟨rfl, rfl, trivial⟩⟩
    · skip
      refine (Qo)<|(Qo)<|(Qo)<|(Qo)<|(Qo)<|(QF)<|(Qm)<|(Qo)<|(Qo)<|(Qo)<|(Qo)<|(Qo)<|(Qo)<|(Qo)<|(QF)<|(Qm)<|(Qo)<|(Qo)<|(Qo)<|(Qo)<|(Qo)<|(QF)<|(Qm)<|(Qo)<|(Qo)<|(Qo)<|(Qo)<|(Qo)<|(Qo)<|(Qo)<|(QF)<|(Qm)<|(Qo)<|(Qo)<|(Qo)<|(Qo)<|(Qo)<|(Qo)<|(Qo)<|(QF)<|(Qa)<|Qn ?_
      exact ⟨⟨rfl, rfl, rfl, rfl, rfl, trivial⟩, ⟨bool_fin (by rw [sp0, hb0] <;> rfl), trivial⟩, ⟨rfl, rfl, trivial⟩⟩
  · simp only [catE]
    refine Qs<|Qs<|Qp<|(Qa)<|Qn<|Qb ?_
    refine QzK [(2, _), (3, _), (4, _)] [(0, _), (1, _)] (fun kk E m => ∃ (k : Nat) (ok : Bool), kk = ta.length - k ∧ E = [(5, .bool ok), (6, ii k)] ∧ m = [] ∧ (k ≤ ta.length) ∧ (ok = spk (sp0 ba bb la lb ta.length tb.length pa pb q0a q0b q1a q1b) ta tb k)) ⟨0, (sp0 ba bb la lb ta.length tb.length pa pb q0a q0b q1a q1b), rfl, rfl, rfl, by omega, (spk_zero _ _ _)⟩ ⟨rfl, rfl, rfl, rfl, rfl, trivial⟩ ⟨rfl, rfl, trivial⟩ ?_
    rintro kk E m ⟨k, ok, rfl, rfl, rfl, hf0_0, hf0_1⟩
    simp only [catE, catL]
    refine Qs<|Qs<|Qp ?_
    refine e_join [(2, _), (3, _), (4, _), (5, _), (6, _)] [(60, .bool (ok && decide ((k : Int) < (ta.length : Int))))] [(0, some _), (1, some _)] ⟨rfl, rfl, rfl, rfl, rfl, trivial⟩ ⟨rfl, rfl, trivial⟩ ?_ ?_
    · skip
      refine (Qm)<|(Qm) ?_
      refine e_case (fun hb5 => ?_) (fun hb5 => ?_)
      · skip
        refine (Qy)<|(Qm)<|(Qy)<|(Qf 5)<|(Qy)<|(QV 5 0)<|(Qy)<|(QC hva)<|(Qy)<|(Ql)<|(QT)<|Qn ?_
        exact ⟨⟨rfl, rfl, rfl, rfl, rfl, trivial⟩, ⟨bool_fin (by rw [hb5] <;> rfl), trivial⟩, ⟨rfl, rfl, trivial⟩⟩
      · skip
        refine (Qo)<|(Qo)<|(Qo)<|(Qo)<|(Qo)<|(QF)<|Qn ?_
        exact ⟨⟨rfl, rfl, rfl, rfl, rfl, trivial⟩, ⟨bool_fin (by rw [hb5] <;> rfl), trivial⟩, ⟨rfl, rfl, trivial⟩⟩
    · simp only [catE]
      refine e_cond rfl ?_ ?_
      · intro hc0
        obtain ⟨hok, hkl⟩ := and_true2 hc0
        have hlen := sp0_len (spk_sp (hf0_1.symm.trans hok))
        refine Qk<|Qs<|Qb<|(Qg)<|(Qf 5)<|(QV 5 0)<|(Qm) ?_
        refine e_atV hva (Uu 24) (Uz 22) rfl rfl (by omega) rfl ?_
        refine (QS) ?_
        refine e_loadV hva seenG (Uu 22) rfl rfl (val_at (by omega)) rfl ?_
        refine (Qf 5)<|(QV 5 1)<|(Qm) ?_
        refine e_atV hvb (Uu 24) (Uz 22) rfl rfl (by omega) rfl ?_
        refine (QS) ?_
        refine e_loadV hvb seenG (Uu 22) rfl rfl (val_at (by omega)) rfl ?_
        refine e_call rfl (Un 32) (sameIntsK_fn _ _ (ta.getD k []) (tb.getD k []) (ha4 k (by omega)) (hB4 k (by omega)) (lt_all (fun l h => hza.2 l (by simp [h])) k)) rfl rfl ?_
        refine (Qa)<|Qn<|Qp<|(Qm)<|(Q2 1)<|(Qa)<|Qn ?_
        refine QzL ⟨k + 1, _, rfl, rfl, rfl, by omega, (spk_next (hf0_1.symm.trans hok))⟩ ⟨rfl, rfl, rfl, rfl, rfl, trivial⟩ ⟨rfl, rfl, trivial⟩ ?_
        omega
      · intro hc0
        have hfin := sameP_fin hf0_1 hf0_0 hc0
        refine Qe<|Qs<|Qp<|(Qm)<|(Qa)<|Qn<|Qr ?_
        rw [← hfin]
        exact ⟨_, rfl, .tmp rfl⟩
end Go.Proofs.YtejejmhbhegneaaDoor
namespace Go.Proofs.YtejejmhbhegneaaDoor
open Go Go.RowKit
variable {G : Mem}
set_option maxHeartbeats 8000000 in
theorem patternBackI_fn (DG : Mem) (zn zm : Int) (hW : ∀ (G : Mem) (v : Value) (l : List Nat) (ps : List Int), (∀ b ∈ l, b < 256) → ps.length ≤ 1000000 → Shows (DG ++ G) 1 v ps.length (ps.map iv) → (pwith l ps).1 = 0 → Fx Tryd.prog (DG ++ G) [] 8 #[sv l, v] (fun w l1 nw => l1 = [] ∧ ∃ w', w = .tuple #[w', ii 0] ∧ PatIsI l (decide (l = nXF)) ps (wq l ps 0) (wq l ps 1) (wt l ps) w' nw)) (hSh : ∀ (G : Mem) (ba : List Nat) (la : Bool) (vpa v0a v1a vta : Value) (tva : List Value) (pa q0a q1a : List Int) (ta : List (List Int)), (∀ x ∈ ba, x < 256) → Shows (DG ++ G) 1 vta tva.length tva → ShowsLI (DG ++ G) (vpa :: v0a :: v1a :: tva) (pa :: q0a :: q1a :: ta) → pa.length ≤ 1000000 → (ta.length ≤ 1000000 ∧ ∀ l ∈ pa :: q0a :: q1a :: ta, l.length ≤ 1000000) → Fn Tryd.prog (DG ++ G) 13 #[.agg (patC ba la vpa v0a v1a vta)] (.tuple #[sv (pshow ba la pa q0a q1a ta).1, ii (pshow ba la pa q0a q1a ta).2])) (hPa : ∀ (G : Mem) (s a ds : List Nat), (∀ b ∈ s, b < 256) → s.length ≤ 1000000 → pparse s = (0, a, ds) → (pwith a (ci ds)).1 = 0 → Fx Tryd.prog (DG ++ G) [] 11 #[sv s] (fun w l1 nw => l1 = [] ∧ ∃ w', w = .tuple #[w', ii 0] ∧ PatIs2 a (decide (a = nXF)) ds (wq a (ci ds) 0) (wq a (ci ds) 1) (wt a (ci ds)) w' nw)) (hCh : ∀ (G : Mem) (ba : List Nat) (la : Bool) (vpa v0a v1a vta : Value) (tva : List Value) (pa q0a q1a : List Int) (ta : List (List Int)), (∀ x ∈ ba, x < 256) → Shows (DG ++ G) 1 vta tva.length tva → ShowsLI (DG ++ G) (vpa :: v0a :: v1a :: tva) (pa :: q0a :: q1a :: ta) → (ta.length ≤ 1000000 ∧ ∀ l ∈ pa :: q0a :: q1a :: ta, l.length ≤ 1000000) → Fn Tryd.prog (DG ++ G) 17 #[.agg (patC ba la vpa v0a v1a vta)] (ii (pfault la q0a q1a ta))) : Fn Tryd.prog ((⟨0, (nm6.map sv).toArray, 57⟩ : Blk) :: (DG ++ G)) 6 #[.int .i64 zn, .int .i64 zm] (.bool true) := by
  have hk := pkn_lt zn (m := 6) (by decide)
  have hj := pkn_lt zm (m := 16) (by decide)
  obtain ⟨_, hb2, hb3, hb8⟩ := base_ok _ hk
  have hwa := with_all _ hk _ hj
  obtain ⟨ho1, ho2, ho3, ho4, ho5⟩ := okK_open hk hj
  have hpo := patternOfI_fn (G := G) DG zn zm hW
  have hsh := pshow_ok (l := decide (nmK (pkn zn 6) = nXF)) hwa (sameP_self _ _ _ _ _ _)
  have hws := pwith_short hwa
  have hpl := psK_len (pkn zn 6) (pkn zm 16)
  generalize nmK (pkn zn 6) = nk at *
  generalize psK (pkn zn 6) (pkn zm 16) = pk at *
  obtain ⟨q0, hq0⟩ : ∃ x, x = wq nk (ci pk) 0 := ⟨_, rfl⟩
  obtain ⟨q1, hq1⟩ : ∃ x, x = wq nk (ci pk) 1 := ⟨_, rfl⟩
  obtain ⟨us, hus⟩ : ∃ x, x = wt nk (ci pk) := ⟨_, rfl⟩
  have hsz : us.length ≤ 1000 ∧ pk.length ≤ 1000 ∧ q0.length ≤ 1000 ∧ q1.length ≤ 1000 ∧ ∀ q ∈ us, q.length ≤ 1000 := back_sizes hws hpl hb3 hq0 hq1 hus
  have hbig := pat_sizes2 (ps := pk) (q0 := q0) (q1 := q1) (us := us) (sizes_up hsz)
  have hbg2 := pat_sizes1000 hsz
  have hPa2 := fun (G : Mem) => hPa G (pname nk (ci pk)) nk pk ho5 (by omega) ho1 hwa
  rw [← hq0, ← hq1, ← hus] at ho2 hsh hpo hPa2
  rw [← hus] at ho3
  refine Qf1 Tryd.func6 ?_
  refine Qs<|Qp<|(Qa)<|Qn<|Qs<|QR ⟨[], 4, [], none⟩<|(Qm)<|(Qm) ?_
  refine e_callD [] (by repeat (first | exact bag_nil | exact bag_lab _ | apply bag_skip rfl)) trivial rfl rfl rfl (Un 15) seenG hpo (pat_room3 nk (decide (nk = nXF)) pk q0 q1 us (.bool true)) rfl rfl fun v1_1 nw1_1 hD1_1 => ?_
  simp only [catL]
  obtain ⟨_, rfl, vp1, hp1, va1, vb1, vt1, tv1, rfl, ha1, hb1, ht1, hn1, hl1⟩ := hD1_1
  refine (Qm)<|(Qx)<|(Qx)<|(QH 0) fun r1=>?_
  refine e_storeA (i := 0) (Uz 26) rfl rfl (arrv_size _ _) (catOkP (shows_oneC hp1) (shows_oneC ha1) (shows_oneC hb1) (shows_oneC ht1)) rfl cells_sz (.inl rfl) ?_
  refine (Qa)<|Qn<|Qs<|Qp<|(QD 0) ?_
  refine e_callS rfl rfl (Un 13) (seen_app (seen_sub (fun x hx => List.mem_cons_of_mem _ (List.mem_append_left _ hx))) (seen_bag (by repeat (first | exact bag_nil | exact bag_lab _ | apply bag_skip rfl)) rfl)) (hSh ([] ++ nw1_1) nk (decide (nk = nXF)) vp1 va1 vb1 vt1 tv1 (ci pk) (ci q0) (ci q1) (us.map ci) hb8 (by rw [hn1]; exact ht1.mono (fun x hx => List.mem_append_right _ (List.mem_append_right _ hx))) (pat_li2 (hp1.mono (fun x hx => List.mem_append_right _ (List.mem_append_right _ hx))) (ha1.mono (fun x hx => List.mem_append_right _ (List.mem_append_right _ hx))) (hb1.mono (fun x hx => List.mem_append_right _ (List.mem_append_right _ hx))) (li_mono hl1 (fun x hx => List.mem_append_right _ (List.mem_append_right _ hx)))) (by simp [ci]; omega) hbg2) rfl rfl ?_
  refine e_as (show _ = Value.tuple #[sv (pname nk (ci pk)), ii 0] by rw [hsh]) ?_
  refine (Qm)<|(Qx)<|(Qx)<|(Qa)<|(Qa)<|Qn<|Qs<|QR ⟨[], 4, [], none⟩<|(Qm) ?_
  refine e_callD [(0, _)] (by repeat (first | exact bag_nil | exact bag_lab _ | apply bag_skip rfl)) ⟨rfl, trivial⟩ rfl rfl rfl (Un 11) (seen_sub (fun x hx => List.mem_cons_of_mem _ hx)) (hPa2 G) (pat_room2 nk (decide (nk = nXF)) pk q0 q1 us) rfl rfl fun v1_2 nw1_2 hD1_2 => ?_
  simp only [catL]
  obtain ⟨_, rfl, vp2, hp2, va2, vb2, vt2, tv2, rfl, ha2, hb2, ht2, hn2, hl2⟩ := hD1_2
  refine (Qm)<|(Qx)<|(Qx)<|(QH 1) fun r2=>?_
  refine e_storeA (i := 1) (Uz 26) rfl rfl (arrv_size _ _) (catOkP (shows_oneC hp2) (shows_oneC ha2) (shows_oneC hb2) (shows_oneC ht2)) rfl cells_sz (.inl rfl) ?_
  refine (Qa)<|Qn<|Qs<|Qp<|(Qa)<|Qn<|Qs<|Qs<|Qp<|(Qf 5)<|(QV 5 0) ?_
  refine e_lenV (Shows.mono (B' := (([] ++ nw1_1) ++ nw1_2)) ht1 (fun x hx => List.mem_append_left _ (List.mem_append_right _ hx))) (Uu 24) rfl rfl rfl ?_
  refine (Qm)<|Qn<|Qb ?_
  refine e_loopB [(4, _), (5, _), (6, _), (8, _), (9, _), (10, _), (33, _), (34, _)] [(0, _), (1, _)] (fun kk E m fz9 => ∃ (i : Nat), kk = us.length - i ∧ E = [(11, ii (cntT us i)), (35, ii i)] ∧ m = [] ∧ fz9 = (([] ++ nw1_1) ++ nw1_2) ∧ (i ≤ us.length)) (k := us.length - 0) (E0 := [(11, ii (cntT us 0)), (35, ii 0)]) (M0 := []) (fz := (([] ++ nw1_1) ++ nw1_2)) ⟨0, rfl, rfl, rfl, rfl, by omega⟩ ⟨rfl, rfl, rfl, rfl, rfl, rfl, rfl, rfl, rfl, rfl, trivial⟩ ⟨rfl, rfl, trivial⟩ (by repeat (first | exact bag_nil | exact bag_lab _ | apply bag_skip rfl)) ?_
  rintro kk E m fz9 ⟨i, rfl, rfl, rfl, hfz9, hf0_0⟩
  rw [hfz9]
  clear hfz9
  simp only [catE, catL]
  have hcl := cnt_le us i
  have hcs := sum_small hsz.2.2.2.2 hsz.1
  refine Qs<|Qp<|(Ql)<|Qn<|Qs ?_
  refine e_cond rfl ?_ ?_
  · intro hc0
    have hc0 : i < us.length := by have := of_decide_eq_true hc0; omega
    refine Qk<|Qs<|Qb<|Qs<|Qp ?_
    refine e_atV (Shows.mono (B' := (([] ++ nw1_1) ++ nw1_2)) ht1 (fun x hx => List.mem_append_left _ (List.mem_append_right _ hx))) (Uu 24) (Uz 22) rfl rfl (by omega) rfl ?_
    refine (QS) ?_
    refine e_loadV (Shows.mono (B' := (([] ++ nw1_1) ++ nw1_2)) ht1 (fun x hx => List.mem_append_left _ (List.mem_append_right _ hx))) (seen_bag (by repeat (first | exact bag_nil | exact bag_lab _ | apply bag_skip rfl)) rfl) (Uu 22) rfl rfl (val_at (by omega)) rfl ?_
    refine (Qa)<|Qn<|Qs<|Qp<|(Qm) ?_
    refine e_lenV (Shows.mono (B' := (([] ++ nw1_1) ++ nw1_2)) (li_at hl1 (show i < us.length by omega)) (fun x hx => List.mem_append_left _ (List.mem_append_right _ hx))) (Uu 22) rfl rfl rfl ?_
    refine (Qm)<|Qn<|Qb ?_
    refine e_loopB [(4, _), (5, _), (6, _), (8, _), (9, _), (10, _), (33, _), (34, _), (35, _), (39, _), (40, _)] [(0, _), (1, _)] (fun kk E m fz9 => ∃ (j : Nat), kk = (us.getD i []).length - j ∧ E = [(11, ii (cntT us i + ((us.getD i []).take j).count 7)), (41, ii j)] ∧ m = [] ∧ fz9 = (([] ++ nw1_1) ++ nw1_2) ∧ (j ≤ (us.getD i []).length)) (k := (us.getD i []).length - 0) (E0 := [(11, ii (cntT us i + ((us.getD i []).take 0).count 7)), (41, ii 0)]) (M0 := []) (fz := (([] ++ nw1_1) ++ nw1_2)) ⟨0, rfl, rfl, rfl, rfl, by omega⟩ ⟨rfl, rfl, rfl, rfl, rfl, rfl, rfl, rfl, rfl, rfl, rfl, rfl, rfl, trivial⟩ ⟨rfl, rfl, trivial⟩ (by repeat (first | exact bag_nil | exact bag_lab _ | apply bag_skip rfl)) ?_
    rintro kk E m fz9 ⟨j, rfl, rfl, rfl, hfz9, hf1_0⟩
    rw [hfz9]
    clear hfz9
    simp only [catE, catL]
    have hjl := List.count_le_length (a := 7) (l := (us.getD i []).take j)
    have hjt : ((us.getD i []).take j).length ≤ 1000 := take_small hsz.2.2.2.2 i j
    have hjg : (us.getD i []).length ≤ 1000 := by have h9 := take_small hsz.2.2.2.2 i (us.getD i []).length; rwa [List.take_length] at h9
    refine Qs<|Qp<|(Ql)<|Qn<|Qs ?_
    refine e_cond rfl ?_ ?_
    · intro hc1
      have hc1 : j < (us.getD i []).length := by have := of_decide_eq_true hc1; omega
      refine Qk<|Qs<|Qb<|Qs<|Qp ?_
      refine e_atV (Shows.mono (B' := (([] ++ nw1_1) ++ nw1_2)) (li_at hl1 (show i < us.length by omega)) (fun x hx => List.mem_append_left _ (List.mem_append_right _ hx))) (Uu 22) (Uz 3) rfl rfl (by omega) rfl ?_
      refine (QS) ?_
      refine e_loadV (Shows.mono (B' := (([] ++ nw1_1) ++ nw1_2)) (li_at hl1 (show i < us.length by omega)) (fun x hx => List.mem_append_left _ (List.mem_append_right _ hx))) (seen_bag (by repeat (first | exact bag_nil | exact bag_lab _ | apply bag_skip rfl)) rfl) (Uu 3) rfl rfl (ci_at (by omega)) rfl ?_
      refine (Qa)<|Qn<|Qs<|Qp<|(Qm)<|(Qc)<|Qn ?_
      refine e_cond rfl ?_ ?_
      · intro hc2
        have h7 : (us.getD i []).getD j 0 = 7 := by have := of_decide_eq_true hc2; omega
        refine Qp<|(Qm)<|(Q2 1)<|(Qa)<|Qn<|Qp<|(Q2 1)<|(Qm)<|Qn ?_
        refine e_round (E'' := [(11, ii (cntT us i + ((us.getD i []).take (j + 1)).count 7)), (41, ii (j + 1))]) (M'' := []) (fz' := (([] ++ nw1_1) ++ nw1_2)) ⟨j + 1, rfl, rfl, rfl, rfl, by omega⟩ ⟨(congrArg (fun z => some (ii z)) (by rw [count_take_next (by omega)]; first | (rw [if_pos h7]; omega) | (rw [if_neg h7]; omega))), rfl, rfl, rfl, rfl, rfl, rfl, rfl, rfl, rfl, rfl, rfl, rfl, trivial⟩ ⟨rfl, rfl, trivial⟩ (by repeat (first | exact bag_nil | exact bag_lab _ | apply bag_skip rfl)) (by omega)
      · intro hc2
        have h7 : ¬ (us.getD i []).getD j 0 = 7 := by have := of_decide_eq_false hc2; omega
        refine Qk<|Qp<|(Q2 1)<|(Qm)<|Qn ?_
        refine e_round (E'' := [(11, ii (cntT us i + ((us.getD i []).take (j + 1)).count 7)), (41, ii (j + 1))]) (M'' := []) (fz' := (([] ++ nw1_1) ++ nw1_2)) ⟨j + 1, rfl, rfl, rfl, rfl, by omega⟩ ⟨(congrArg (fun z => some (ii z)) (by rw [count_take_next (by omega)]; first | (rw [if_pos h7]; omega) | (rw [if_neg h7]; omega))), rfl, rfl, rfl, rfl, rfl, rfl, rfl, rfl, rfl, rfl, rfl, rfl, trivial⟩ ⟨rfl, rfl, trivial⟩ (by repeat (first | exact bag_nil | exact bag_lab _ | apply bag_skip rfl)) (by omega)
    · intro hc1
      have hc1 := of_decide_eq_false hc1
      have hz1 : j = (us.getD i []).length := by omega
      refine Qe<|Qp<|(Q2 1)<|(Qm)<|Qn ?_
      refine e_round (E'' := [(11, ii (cntT us (i + 1))), (35, ii (i + 1))]) (M'' := []) (fz' := (([] ++ nw1_1) ++ nw1_2)) ⟨i + 1, rfl, rfl, rfl, rfl, by omega⟩ ⟨(congrArg (fun z => some (ii z)) (by rw [hz1, List.take_length]; exact cntT_next (by omega))), rfl, rfl, rfl, rfl, rfl, rfl, rfl, rfl, rfl, trivial⟩ ⟨rfl, rfl, trivial⟩ (by repeat (first | exact bag_nil | exact bag_lab _ | apply bag_skip rfl)) (by omega)
  · intro hc0
    have hc0 := of_decide_eq_false hc0
    have hz0 : i = us.length := by omega
    refine Qe<|Qs<|Qp<|(Qm)<|(Qm)<|(Qy)<|(Qm)<|(Qy)<|(Qc)<|(Qar)<|(QT)<|(Qm)<|(Qy)<|(Qm)<|(Qy)<|(Qc)<|(Qar)<|(QT)<|(Qm)<|(Qy)<|(QD 0)<|(Qy)<|(QD 1)<|(Qy) ?_
    refine e_callS rfl rfl (Un 16) (seen_app (seen_sub (fun x hx => List.mem_cons_of_mem _ (List.mem_append_left _ hx))) (seen_bag (by repeat (first | exact bag_nil | exact bag_lab _ | apply bag_skip rfl)) rfl)) (samePK_fn (G := DG ++ (([] ++ nw1_1) ++ nw1_2)) nk (decide (nk = nXF)) vp1 va1 vb1 vt1 tv1 (ci pk) (ci q0) (ci q1) (us.map ci) hb8 (by rw [hn1]; exact ht1.mono (fun x hx => List.mem_append_right _ (List.mem_append_left _ (List.mem_append_right _ hx)))) (pat_li2 (hp1.mono (fun x hx => List.mem_append_right _ (List.mem_append_left _ (List.mem_append_right _ hx)))) (ha1.mono (fun x hx => List.mem_append_right _ (List.mem_append_left _ (List.mem_append_right _ hx)))) (hb1.mono (fun x hx => List.mem_append_right _ (List.mem_append_left _ (List.mem_append_right _ hx)))) (li_mono hl1 (fun x hx => List.mem_append_right _ (List.mem_append_left _ (List.mem_append_right _ hx))))) nk (decide (nk = nXF)) vp2 va2 vb2 vt2 tv2 (ci pk) (ci q0) (ci q1) (us.map ci) hb8 (by rw [hn2]; exact ht2.mono (fun x hx => List.mem_append_right _ (List.mem_append_right _ hx))) (pat_li2 (hp2.mono (fun x hx => List.mem_append_right _ (List.mem_append_right _ hx))) (ha2.mono (fun x hx => List.mem_append_right _ (List.mem_append_right _ hx))) (hb2.mono (fun x hx => List.mem_append_right _ (List.mem_append_right _ hx))) (li_mono hl2 (fun x hx => List.mem_append_right _ (List.mem_append_right _ hx)))) hbig) rfl rfl ?_
    refine e_as (congrArg Value.bool (sameP_self _ _ _ _ _ _)) ?_
    refine (QT)<|(Qm)<|(Qy)<|(QD 0)<|(Qy) ?_
    refine e_callS rfl rfl (Un 17) (seen_app (seen_sub (fun x hx => List.mem_cons_of_mem _ (List.mem_append_left _ hx))) (seen_bag (by repeat (first | exact bag_nil | exact bag_lab _ | apply bag_skip rfl)) rfl)) (hCh (([] ++ nw1_1) ++ nw1_2) nk (decide (nk = nXF)) vp1 va1 vb1 vt1 tv1 (ci pk) (ci q0) (ci q1) (us.map ci) hb8 (by rw [hn1]; exact ht1.mono (fun x hx => List.mem_append_right _ (List.mem_append_left _ (List.mem_append_right _ hx)))) (pat_li2 (hp1.mono (fun x hx => List.mem_append_right _ (List.mem_append_left _ (List.mem_append_right _ hx)))) (ha1.mono (fun x hx => List.mem_append_right _ (List.mem_append_left _ (List.mem_append_right _ hx)))) (hb1.mono (fun x hx => List.mem_append_right _ (List.mem_append_left _ (List.mem_append_right _ hx)))) (li_mono hl1 (fun x hx => List.mem_append_right _ (List.mem_append_left _ (List.mem_append_right _ hx))))) hbg2) rfl rfl ?_
    refine e_as (congrArg ii ho2) ?_
    refine (Qy)<|(Qc)<|(Qar)<|(QT)<|(Qm)<|(Qy)<|(Qm)<|(Qy)<|(Qf 2)<|(Qy)<|(QV 2 0)<|(Qy) ?_
    refine e_lenV (Shows.mono (B' := (([] ++ nw1_1) ++ nw1_2)) hp1 (fun x hx => List.mem_append_left _ (List.mem_append_right _ hx))) (Uu 22) rfl rfl rfl ?_
    refine (Qy)<|(Qc) ?_
    refine e_as (congrArg Value.bool (decide_eq_true (by rw [hz0, cntT_all, ho3]))) ?_
    refine (QT)<|(Qa)<|Qn<|Qr ?_
    exact ⟨_, rfl, .tmp rfl⟩
end Go.Proofs.YtejejmhbhegneaaDoor
