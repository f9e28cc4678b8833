import Derived.Test.YtfldnikepdbgkaaKt5
namespace Go.Proofs.Ytfldnikepdbgkaa
open Go Go.RowKit
variable {G : Mem}
set_option maxHeartbeats 400000 in
theorem tatom_fn (i : Int) : Fn Try.prog G 24 #[iv i] (.agg (tC (atomT i) nilS)) := by
  refine Qf1 Try.func24 ?_
  refine Qs<|Qp<|(QH 0) fun r1=>Qn<|Qs<|Qp<|(Qm) ?_
  refine e_buildS (tC (atomT i) nilS) (Ub 39 rfl) (Uu 39 rfl) pls39 rfl (by kernel_rfl) rfl ?_
  refine e_storeA (i := 0) (Uz 39) rfl rfl (arrv_size _ _) (cells_one ⟨fun _ => rfl, fun _ => rfl, fun _ => rfl, fun _ => rfl, trivial⟩) rfl cells_sz (.inl rfl) ?_
  refine Qn<|Qr ?_
  exact ⟨_, rfl, .cell (i := 0) rfl rfl (Uu 39) rfl (Uz 39) (arrv_size _ _)⟩
set_option maxHeartbeats 400000 in
theorem tpub_fn (i : Int) : Fn Try.prog G 40 #[iv i] (.agg (tC (pubT i) nilS)) := by
  refine Qf1 Try.func40 ?_
  refine Qs<|Qp<|(QH 0) fun r1=>Qn<|Qs<|Qp<|(Qm) ?_
  refine e_buildS (tC (pubT i) nilS) (Ub 39 rfl) (Uu 39 rfl) pls39 rfl (by kernel_rfl) rfl ?_
  refine e_storeA (i := 0) (Uz 39) rfl rfl (arrv_size _ _) (cells_one ⟨fun _ => rfl, fun _ => rfl, fun _ => rfl, fun _ => rfl, trivial⟩) rfl cells_sz (.inl rfl) ?_
  refine Qn<|Qr ?_
  exact ⟨_, rfl, .cell (i := 0) rfl rfl (Uu 39) rfl (Uz 39) (arrv_size _ _)⟩
set_option maxHeartbeats 400000 in
theorem agreed_fn (k : Int) : Fn Try.prog G 54 #[iv k] (.agg (tC (agT k) nilS)) := by
  refine Qf1 Try.func54 ?_
  refine Qs<|Qp<|(QH 0) fun r1=>Qn<|Qs<|Qp<|(Qa)<|(Qa)<|Qn<|Qs<|Qs<|Qp ?_
  refine e_join [(0, _), (2, _), (3, _), (4, _)] [(10, .bool (decide (k = 3) || decide (k = 4)))] [(0, some _)] ⟨rfl, rfl, rfl, rfl, trivial⟩ ⟨rfl, trivial⟩ ?_ ?_
  · skip
    refine (Qm)<|(Qc)<|(Qm) ?_
    refine e_case (fun hb0 => ?_) (fun hb0 => ?_)
    · skip
      refine (Qo)<|(Qo)<|(QT)<|Qn ?_
      exact ⟨⟨rfl, rfl, rfl, rfl, trivial⟩, ⟨bool_fin (by rw [hb0] <;> rfl), trivial⟩, ⟨rfl, trivial⟩⟩
    · skip
      refine (Qy)<|(Qm)<|(Qy)<|(Qc)<|(QF)<|Qn ?_
      exact ⟨⟨rfl, rfl, rfl, rfl, trivial⟩, ⟨bool_fin (by rw [hb0] <;> rfl), trivial⟩, ⟨rfl, trivial⟩⟩
  · simp only [catE]
    refine s_join [(0, _), (2, _), (10, _)] [(3, ii (agF k)), (4, ii 2)] [(0, some _)] ⟨rfl, rfl, rfl, trivial⟩ ⟨rfl, trivial⟩ ?_ ?_
    · skip
      refine e_cond rfl ?_ ?_
      · intro hc0
        refine Qp<|(Qa)<|Qn ?_
        exact ⟨⟨rfl, rfl, rfl, trivial⟩, ⟨(by unfold agF; first | (rw [if_pos (by simpa using hc0)] <;> rfl) | (rw [if_neg (by simpa using hc0)] <;> rfl)), rfl, trivial⟩, ⟨rfl, trivial⟩⟩
      · intro hc0
        refine Qk ?_
        exact ⟨⟨rfl, rfl, rfl, trivial⟩, ⟨(by unfold agF; first | (rw [if_pos (by simpa using hc0)] <;> rfl) | (rw [if_neg (by simpa using hc0)] <;> rfl)), rfl, trivial⟩, ⟨rfl, trivial⟩⟩
    · simp only [catE]
      refine Qs<|Qs<|Qp ?_
      refine e_join [(0, _), (2, _), (3, _), (4, _), (10, _)] [(16, .bool (decide (k = 3) || decide (k = 5)))] [(0, some _)] ⟨rfl, rfl, rfl, rfl, rfl, trivial⟩ ⟨rfl, trivial⟩ ?_ ?_
      · skip
        refine (Qm)<|(Qc)<|(Qm) ?_
        refine e_case (fun hb1 => ?_) (fun hb1 => ?_)
        · skip
          refine (Qo)<|(Qo)<|(QT)<|Qn ?_
          exact ⟨⟨rfl, rfl, rfl, rfl, rfl, trivial⟩, ⟨bool_fin (by rw [hb1] <;> rfl), trivial⟩, ⟨rfl, trivial⟩⟩
        · skip
          refine (Qy)<|(Qm)<|(Qy)<|(Qc)<|(QF)<|Qn ?_
          exact ⟨⟨rfl, rfl, rfl, rfl, rfl, trivial⟩, ⟨bool_fin (by rw [hb1] <;> rfl), trivial⟩, ⟨rfl, trivial⟩⟩
      · simp only [catE]
        refine s_join [(0, _), (2, _), (3, _), (10, _), (16, _)] [(4, ii (agO k))] [(0, some _)] ⟨rfl, rfl, rfl, rfl, rfl, trivial⟩ ⟨rfl, trivial⟩ ?_ ?_
        · skip
          refine e_cond rfl ?_ ?_
          · intro hc1
            refine Qp<|(Qa)<|Qn ?_
            exact ⟨⟨rfl, rfl, rfl, rfl, rfl, trivial⟩, ⟨(by unfold agO; first | (rw [if_pos (by simpa using hc1)] <;> rfl) | (rw [if_neg (by simpa using hc1)] <;> rfl)), trivial⟩, ⟨rfl, trivial⟩⟩
          · intro hc1
            refine Qk ?_
            exact ⟨⟨rfl, rfl, rfl, rfl, rfl, trivial⟩, ⟨(by unfold agO; first | (rw [if_pos (by simpa using hc1)] <;> rfl) | (rw [if_neg (by simpa using hc1)] <;> rfl)), trivial⟩, ⟨rfl, trivial⟩⟩
        · simp only [catE]
          refine Qs<|Qp<|(Qm)<|(Qm) ?_
          refine e_min rfl rfl rfl rfl ?_
          refine (Qm)<|(Qm) ?_
          refine e_max rfl rfl rfl rfl ?_
          refine e_buildS (tC (agT k) nilS) (Ub 39 rfl) (Uu 39 rfl) pls39 rfl (by kernel_rfl) rfl ?_
          refine e_storeA (i := 0) (Uz 39) rfl rfl (arrv_size _ _) (cells_one ⟨fun _ => rfl, fun _ => rfl, fun _ => rfl, fun _ => rfl, trivial⟩) rfl cells_sz (.inl rfl) ?_
          refine Qn<|Qr ?_
          exact ⟨_, rfl, .cell (i := 0) rfl rfl (Uu 39) rfl (Uz 39) (arrv_size _ _)⟩
set_option maxHeartbeats 2000000 in
theorem kdf_fn (w : Int) (a b : TT) (ca cb : Value) (ya yb : List Value) (hA : TL G a.args ca ya) (hB : TL G b.args cb yb) : Fx Try.prog G [] 74 #[iv w, .agg (tC a ca), .agg (tC b cb)] (fun v l1 nw => l1 = [] ∧ TermD G (kdfT w a b) v nw) := by
  have hco := shows_oneC hA.2.1
  have hco2 := shows_oneC hB.2.1
  refine fxD (n := 12) Try.func74 rfl rfl (by simp) (argE [iv w, .agg (tC a ca), .agg (tC b cb)] 0) (argE_ok _) ?_
  refine Qs<|Qp<|(Qh 0) fun r1=>(Qh 1) fun r2=>(QH 2) fun r3=>Qn<|Qs<|Qp<|(Qm)<|(QD 0)<|(QD 1) ?_
  refine e_buildSl 3 ((tC a ca).toList ++ (tC b cb).toList).toArray (Uu 27 rfl) (Uz 39 rfl) (Ub 39 rfl) (by decide) (by decide) rfl (fill_tC2 (by kernel_rfl)) rfl fun r4 => ?_
  refine e_buildS (tC (kdfT w a b) (.slice (some ⟨r4, 0, none⟩) 2 2)) (Ub 39 rfl) (Uu 39 rfl) pls39 rfl (by kernel_rfl) rfl ?_
  refine e_storeA (i := 2) (Uz 39) rfl rfl (arrv_size _ _) (cells_one ⟨fun _ => rfl, fun _ => rfl, fun _ => rfl, fun _ => rfl, trivial⟩) rfl cells_sz (.inl rfl) ?_
  refine Qn ?_
  refine s_freeze 3 [(0, _), (1, _), (2, _)] rfl rfl (by repeat (first | exact bag_nil | exact bag_lab _ | apply bag_skip rfl)) ⟨rfl, rfl, rfl, trivial⟩ rfl rfl ?_
  simp only [catL]
  refine Qr ?_
  exact ⟨_, _, ([] ++ (some (⟨r4, ((tC a ca).toList ++ (tC b cb).toList).toArray, 39⟩ : Blk)).toList), rfl, .cell (i := 2) rfl rfl (Uu 39) rfl (Uz 39) (arrv_size _ _), ⟨_, _, rfl, tl_blk (n := 2) (l := [a, b]) ((to_one (hA.mono (fun z hz => List.mem_append_right _ hz))).app (to_one (hB.mono (fun z hz => List.mem_append_right _ hz)))) rfl (List.mem_append_left _ (List.mem_append_right _ (List.mem_singleton.2 rfl))) (by decide)⟩, (by repeat (first | exact bag_nil | exact bag_lab _ | apply bag_skip rfl))⟩
set_option maxHeartbeats 2000000 in
theorem lock_fn (a b t : TT) (ca cb ct : Value) (ya yb yt : List Value) (hA : TL G a.args ca ya) (hB : TL G b.args cb yb) (hC : TL G t.args ct yt) : Fx Try.prog G [] 55 #[.agg (tC a ca), .agg (tC b cb), .agg (tC t ct)] (fun v l1 nw => l1 = [] ∧ TermD G (lockT a b t) v nw) := by
  have hco := shows_oneC hA.2.1
  have hco2 := shows_oneC hB.2.1
  have hco3 := shows_oneC hC.2.1
  refine fxD (n := 12) Try.func55 rfl rfl (by simp) (argE [.agg (tC a ca), .agg (tC b cb), .agg (tC t ct)] 0) (argE_ok _) ?_
  refine Qs<|Qp<|(Qh 0) fun r1=>(Qh 1) fun r2=>(Qh 2) fun r3=>(QH 3) fun r4=>Qn<|Qs<|Qp<|(QD 0)<|(QD 1)<|(QD 2) ?_
  refine e_buildSl 4 ((tC a ca).toList ++ (tC b cb).toList ++ (tC t ct).toList).toArray (Uu 27 rfl) (Uz 39 rfl) (Ub 39 rfl) (by decide) (by decide) rfl (fill_tC3 (by kernel_rfl)) rfl fun r5 => ?_
  refine e_buildS (tC (lockT a b t) (.slice (some ⟨r5, 0, none⟩) 3 3)) (Ub 39 rfl) (Uu 39 rfl) pls39 rfl (by kernel_rfl) rfl ?_
  refine e_storeA (i := 3) (Uz 39) rfl rfl (arrv_size _ _) (cells_one ⟨fun _ => rfl, fun _ => rfl, fun _ => rfl, fun _ => rfl, trivial⟩) rfl cells_sz (.inl rfl) ?_
  refine Qn ?_
  refine s_freeze 4 [(0, _), (1, _), (2, _), (3, _)] rfl rfl (by repeat (first | exact bag_nil | exact bag_lab _ | apply bag_skip rfl)) ⟨rfl, rfl, rfl, rfl, trivial⟩ rfl rfl ?_
  simp only [catL]
  refine Qr ?_
  exact ⟨_, _, ([] ++ (some (⟨r5, ((tC a ca).toList ++ (tC b cb).toList ++ (tC t ct).toList).toArray, 39⟩ : Blk)).toList), rfl, .cell (i := 3) rfl rfl (Uu 39) rfl (Uz 39) (arrv_size _ _), ⟨_, _, rfl, tl_blk (n := 3) (l := [a, b, t]) ((to_one (hA.mono (fun z hz => List.mem_append_right _ hz))).app (to_one (hB.mono (fun z hz => List.mem_append_right _ hz))) |>.app (to_one (hC.mono (fun z hz => List.mem_append_right _ hz)))) rfl (List.mem_append_left _ (List.mem_append_right _ (List.mem_singleton.2 rfl))) (by decide)⟩, (by repeat (first | exact bag_nil | exact bag_lab _ | apply bag_skip rfl))⟩
end Go.Proofs.Ytfldnikepdbgkaa
namespace Go.Proofs.Ytfldnikepdbgkaa
open Go Go.RowKit
variable {G : Mem}
set_option maxHeartbeats 4000000 in
theorem keyOf_fn (Bk : Mem) (l : List TT) (v : Value) (xs : List Value) (hv : Shows Bk 4 v l.length xs) (hT : TO G l xs) (h0 : 0 < l.length) (hn : l.length ≤ 1000) (hf : ∀ t ∈ l, t.form = 0) : Fx Try.prog (Bk ++ G) [] 56 #[v] (fun v l1 nw => l1 = [] ∧ TermD G (keyM l) v nw) := by
  obtain ⟨q, hq⟩ : ∃ q, q = l.take (l.length - 1) := ⟨_, rfl⟩
  have hql : q.length = l.length - 1 := by rw [hq, List.length_take]; omega
  have hTq : TO G q (xs.take ((l.length - 1) * 4)) := hq ▸ hT.take _ (by omega)
  have hvq := show_take (k := l.length - 1) (hv.mono (fun z hz => List.mem_append_left G hz)) (by omega)
  have hfq : ∀ t ∈ q, t.form = 0 := fun t ht => hf t (by rw [hq] at ht; exact List.mem_of_mem_take ht)
  obtain ⟨cl, yl, hcl, hll⟩ := hT.at (show l.length - 1 < l.length by omega)
  refine fxD (n := 29) Try.func56 rfl rfl (by simp) (argE [v] 0) (argE_ok _) ?_
  refine Qs<|Qp<|(QH 0) fun r1=>Qn<|Qs<|Qp ?_
  refine e_call rfl (Un 24) (tatom_fn 0) rfl rfl ?_
  refine (Qm)<|(QC (hv.mono (fun z hz => List.mem_append_left G hz))) ?_
  refine e_sub_in (q := 1) rfl rfl rfl (by omega) (by omega) ?_
  refine (QH 1) fun r2=>?_
  refine e_storeA (i := 1) (Uz 39) rfl rfl (arrv_size _ _) (cells_one ⟨fun _ => rfl, fun _ => rfl, fun _ => rfl, fun _ => rfl, trivial⟩) rfl cells_sz (.inl rfl) ?_
  refine (Qa)<|Qn<|Qs<|Qs<|Qp<|(Qm)<|(Qm) ?_
  refine e_sliceV 0 (l.length - 1) (hv.mono (fun z hz => List.mem_append_left G hz)) (Uu 27) (Uz 39) rfl rfl rfl rfl ⟨_, rfl⟩ (by omega) (by omega) rfl ?_
  refine (QC hvq)<|(Qm)<|Qn<|Qb ?_
  refine e_loopB [(0, _), (2, _), (3, _), (4, _), (13, _), (14, _)] [(0, _)] (fun kk E m fz => ∃ (i : Nat) (c : Value) (ys : List Value), kk = (l.length - 1) - i ∧ E = [(15, ii i)] ∧ m = [(1, (some ⟨r2, tC (chainM (q.take i)) c, 39⟩))] ∧ (i ≤ (l.length - 1)) ∧ (TL (fz ++ G) (chainM (q.take i)).args c ys) ∧ ((chainM (q.take i)).form = 0)) (k := (l.length - 1) - 0) (E0 := [(15, ii 0)]) (M0 := [(1, (some ⟨r2, tC (chainM (q.take 0)) nilS, 39⟩))]) (fz := []) ⟨0, nilS, [], rfl, rfl, rfl, by omega, tl_nil, (form_at (by decide))⟩ ⟨rfl, rfl, rfl, rfl, rfl, rfl, rfl, trivial⟩ ⟨rfl, rfl, trivial⟩ (by repeat (first | exact bag_nil | exact bag_lab _ | apply bag_skip rfl)) ?_
  rintro kk E m fz ⟨i, c, ys, rfl, rfl, rfl, hf0_0, hf0_1, hf0_2⟩
  simp only [catE, catL]
  refine Qs<|Qp<|(Ql)<|Qn<|Qs ?_
  refine e_cond rfl ?_ ?_
  · intro hc0
    have hc0 : i < (l.length - 1) := by have := of_decide_eq_true hc0; omega
    obtain ⟨c1, ys1, hcs1, hl1⟩ := hTq.at (show i < q.length by omega)
    have hin1 := List.getElem_mem (show i < q.length by omega)
    have hfn := form_kdf (w := 1) (by decide) hf0_2 (hfq q[i] hin1)
    refine Qk<|Qs<|Qb<|Qs<|Qp ?_
    refine e_atV hvq (Uu 27) (Uz 39) rfl rfl (by omega) rfl ?_
    refine e_loadVS hvq seenG (Uu 39) rfl (Uz 39) rfl (by decide) (by have := hvq.len; omega) hcs1 rfl ?_
    refine e_as (show _ = Value.agg (tC q[i] c1) from rfl) ?_
    refine (QH 2) fun r3=>?_
    refine e_storeA (i := 2) (Uz 39) rfl rfl (arrv_size _ _) (cells_one ⟨fun _ => rfl, fun _ => rfl, fun _ => rfl, fun _ => shows_oneC hl1.2.1, trivial⟩) rfl cells_sz (.inl rfl) ?_
    refine Qn<|QR ⟨[], 4, [], none, none⟩<|(QD 1)<|(QD 2) ?_
    refine e_callD [(0, _), (1, _), (2, _)] (by repeat (first | exact bag_nil | exact bag_lab _ | apply bag_skip rfl)) ⟨rfl, rfl, rfl, trivial⟩ rfl rfl rfl (Un 74) (seen_app (seen_bag (by repeat (first | exact bag_nil | exact bag_lab _ | apply bag_skip rfl)) rfl) (seen_sub (fun z hz => List.mem_append_right _ hz))) (kdf_fn (G := fz ++ G) 1 (chainM (q.take i)) q[i] c c1 ys ys1 hf0_1 (hl1.mono (fun z hz => List.mem_append_right _ hz))) (termD_room 39 _ hfn) rfl rfl fun v2_1 nw2_1 hD2_1 => ?_
    simp only [catL]
    obtain ⟨c8, ys8, rfl, ht8⟩ := hD2_1
    rw [← chain_next (show i < q.length by omega)] at ht8 ⊢
    have hfx9 := hfn
    rw [← chain_next (show i < q.length by omega)] at hfx9
    have hnx9 := ht8.mono (G' := (fz ++ nw2_1) ++ G) in3
    refine e_storeA (i := 1) (Uz 39) rfl rfl (arrv_size _ _) (cells_one ⟨fun _ => rfl, fun _ => rfl, fun _ => rfl, fun _ => shows_oneC ht8.2.1, trivial⟩) rfl cells_sz (.inl rfl) ?_
    refine Qn<|Qp<|(Q2 1)<|(Qm)<|Qn ?_
    refine e_round (E'' := [(15, ii (i + 1))]) (M'' := [(1, (some ⟨r2, tC (chainM (q.take (i + 1))) _, 39⟩))]) (fz' := (fz ++ nw2_1)) ⟨i + 1, _, _, rfl, rfl, rfl, by omega, hnx9, hfx9⟩ ⟨rfl, rfl, rfl, rfl, rfl, rfl, rfl, trivial⟩ ⟨rfl, rfl, trivial⟩ (by repeat (first | exact bag_nil | exact bag_lab _ | apply bag_skip rfl)) (by omega)
  · intro hc0
    have hc0 := of_decide_eq_false hc0
    have hz0 : i = (l.length - 1) := by omega
    have hfn := form_kdf (w := 2) (by decide) hf0_2 (hf l[l.length - 1] (List.getElem_mem _))
    refine Qe<|Qs<|(Qq ⟨[], 4, [], none, none⟩)<|(QD 1)<|(Qm)<|(Qm) ?_
    refine e_atV (hv.mono (fun z hz => List.mem_append_left G hz)) (Uu 27) (Uz 39) rfl rfl (by omega) rfl ?_
    refine e_loadVS (hv.mono (fun z hz => List.mem_append_left G hz)) seenG (Uu 39) rfl (Uz 39) rfl (by decide) (by have := hv.len; omega) hcl rfl ?_
    refine e_as (show _ = Value.agg (tC l[l.length - 1] cl) from rfl) ?_
    refine e_callD [(0, _), (1, _)] (by repeat (first | exact bag_nil | exact bag_lab _ | apply bag_skip rfl)) ⟨rfl, rfl, trivial⟩ rfl rfl rfl (Un 74) (seen_app (seen_bag (by repeat (first | exact bag_nil | exact bag_lab _ | apply bag_skip rfl)) rfl) (seen_sub (fun z hz => List.mem_append_right _ hz))) (kdf_fn (G := fz ++ G) 2 (chainM (q.take i)) l[l.length - 1] c cl ys yl hf0_1 (hll.mono (fun z hz => List.mem_append_right _ hz))) (termD_room 39 _ hfn) rfl rfl fun v2_1 nw2_1 hD2_1 => ?_
    simp only [catL]
    obtain ⟨c8, ys8, rfl, ht8⟩ := hD2_1
    refine e_storeA (i := 0) (Uz 39) rfl rfl (arrv_size _ _) (cells_one ⟨fun _ => rfl, fun _ => rfl, fun _ => rfl, fun _ => shows_oneC ht8.2.1, trivial⟩) rfl cells_sz (.inl rfl) ?_
    refine Qn<|Qr ?_
    exact ⟨_, _, (fz ++ nw2_1), rfl, .cell (i := 0) rfl rfl (Uu 39) rfl (Uz 39) (arrv_size _ _), (by rw [key_end h0 hq hz0]; exact ⟨_, _, rfl, ht8.mono in3⟩), (by repeat (first | exact bag_nil | exact bag_lab _ | apply bag_skip rfl))⟩
end Go.Proofs.Ytfldnikepdbgkaa
namespace Go.Proofs.Ytfldnikepdbgkaa
open Go Go.RowKit
variable {G : Mem}
set_option maxHeartbeats 8000000 in
theorem wtell_fn (b : Nat) (sec : Bool) (s : WS) (n : Nat) (hs : s.Good n) (hn : n ≤ 900) (v1 v2 : Value) (xs1 xs2 : List Value) (oa ob : Option Blk) (h1 : OwnS 39 4 v1 s.told.length xs1 oa.toList) (h2 : TO G s.told xs1) (h3 : OwnS 39 4 v2 s.mixed.length xs2 ob.toList) (h4 : TO G s.mixed xs2) (hnd : (((⟨b, wC sec v1 v2 s.used, 50⟩ : Blk) :: (oa.toList ++ ob.toList) : Mem).map (·.b)).Nodup) (t : TT) (c : Value) (ys : List Value) (hT : TL G t.args c ys) (ht : t.form = 0) : Fx Try.prog G ((⟨b, wC sec v1 v2 s.used, 50⟩ : Blk) :: (oa.toList ++ ob.toList)) 30 #[ptr b, .agg (tC t c)] (Three b 50 oa ob (fun c' o1 o2 fz => WireIs 39 (fz ++ G) sec (s.tell t) c' o1 o2)) := by
  have hl1 := hs.tlen
  have hl2 := hs.mlen
  have hl3 := hs.ulen
  have hco := shows_oneC hT.2.1
  refine fxW3 (n := 35) Try.func30 rfl rfl (by simp) (argE [ptr b, .agg (tC t c)] 0) (argE_ok _) hnd ?_
  refine Qs<|Qp<|(Qh 3) fun r4=>Qn<|Qs<|Qs<|Qp<|(Qm) ?_
  refine e_nilCheck rfl rfl ?_
  refine (Qf 2)<|(QV 2 0)<|(QC h3.shows)<|(QG)<|Qn ?_
  refine e_cond rfl ?_ ?_
  · intro hc0
    have h58 : 0 < s.mixed.length := by have := of_decide_eq_true hc0; omega
    have e9 : lockedT s t = lockT (keyM s.mixed) (atomT ((100 + s.told.length : Nat) : Int)) t := if_pos h58
    refine e_order ⟨[], 4, [], none, none⟩ [0, 1, 2, 3, 5, 6, 7, 8, 12, 4, 9, 10, 11, 13, 14] mixed (by kernel_rfl) ?_
    refine (Qm) ?_
    refine e_nilCheck rfl rfl ?_
    refine (Qf 2)<|(QV 2 0)<|(Qm) ?_
    refine e_nilCheck rfl rfl ?_
    refine (Qf 1)<|(QV 1 0)<|(QD 3) ?_
    refine e_callD [(0, _), (1, _), (2, _), (3, _)] (by repeat (first | exact bag_nil | exact bag_lab _ | apply bag_skip rfl)) ⟨rfl, rfl, rfl, rfl, trivial⟩ rfl rfl rfl (Un 56) (seen_app (seenM 2 rfl ⟨[], trivial⟩) seenG) (keyOf_fn (G := G) ob.toList s.mixed v2 xs2 h3.shows h4 h58 (by omega) hs.mixed) (termD_room 39 _ (form_keyM hs.mixed)) rfl rfl fun v2_1 nw2_1 hD2_1 => ?_
    simp only [catL]
    obtain ⟨ck, yk, rfl, hk⟩ := hD2_1
    refine (QC h1.shows) ?_
    refine e_add_i (p := 100) rfl rfl rfl (by omega) ?_
    refine e_call rfl (Un 24) (tatom_fn ((100 + s.told.length : Nat) : Int)) rfl rfl ?_
    refine e_callD [(0, _), (1, _), (2, _), (3, _)] (by repeat (first | exact bag_nil | exact bag_lab _ | apply bag_skip rfl)) ⟨rfl, rfl, rfl, rfl, trivial⟩ rfl rfl rfl (Un 55) (seen_app (seen_bag (by repeat (first | exact bag_nil | exact bag_lab _ | apply bag_skip rfl)) rfl) seenG) (lock_fn (G := ([] ++ nw2_1) ++ G) (keyM s.mixed) (atomT ((100 + s.told.length : Nat) : Int)) t ck nilS c yk [] ys hk tl_nil (hT.mono (fun z hz => List.mem_append_right _ hz))) (termD_room 39 _ (form_lock (form_keyM hs.mixed) (form_at (by omega)) ht)) rfl rfl fun v2_2 nw2_2 hD2_2 => ?_
    simp only [catL]
    obtain ⟨cl, yl, rfl, hlk⟩ := hD2_2
    refine e_storeA (i := 3) (Uz 39) rfl rfl (arrv_size _ _) (cells_one ⟨fun _ => rfl, fun _ => rfl, fun _ => rfl, fun _ => shows_oneC hlk.2.1, trivial⟩) rfl cells_sz (.inl rfl) ?_
    refine Qn<|(Qq ⟨[], 1, [], none, (some (34, b))⟩)<|(Qm) ?_
    refine e_nilCheck rfl rfl ?_
    refine (Qf 1)<|(QV 1 0)<|(QD 3)<|(QC h1.shows) ?_
    refine e_buildSl 4 #[iv 0, iv 0, iv 0, nilS] (Uu 27 rfl) (Uz 39 rfl) (Ub 39 rfl) (by decide) (by decide) rfl (by kernel_rfl) rfl fun r5 => ?_
    refine e_appendJ 1 [(0, _), (2, _), (3, _), (4, _)] h1 (shows_new _ _ (by rfl)) rfl (seen1 4 rfl ⟨[], trivial⟩) (by repeat (first | exact bag_nil | exact bag_lab _ | apply bag_skip rfl)) (fun _ => ⟨rfl, rfl, rfl, rfl, trivial⟩) rfl rfl (Uu 27) (Uz 39) (Uy 39) (Ub 39) (by rfl) rfl rfl (by decide) (by simp only [maxLen]; omega) (by omega) rfl fun vq ozq jkq hoq hjq => ?_
    simp only [catL]
    refine e_atV hoq.shows (Uu 27) (Uz 39) rfl rfl (by omega) rfl ?_
    refine e_stOwnS (i := 1) hoq (Uz 39) rfl rfl (arrv_size _ _) (by first | exact (cells_one ⟨fun _ => rfl, fun _ => rfl, fun _ => rfl, fun _ => shows_oneC hlk.2.1, trivial⟩) | exact (cells_one ⟨fun _ => rfl, fun _ => rfl, fun _ => rfl, fun _ => shows_oneC hT.2.1, trivial⟩)) rfl (by omega) rfl (fun oz2_4 ho2_4 => ?_) (y_off 0 rfl (by decide) rfl (by decide))
    refine e_nilCheck rfl rfl ?_
    refine (Qf 1) ?_
    refine e_stVY (i := 0) 1 (Uz 27) rfl rfl (shows_oneC (OwnS.shows (own_fill h2.1 rfl ho2_4))) rfl rfl (by decide) (hid_var rfl rfl) ?_ (y_var rfl rfl)
    refine Qn ?_
    have hown9 := own_app (L := s.told) (lockedT s t) (own_fill h2.1 rfl ho2_4)
    exact ⟨rfl, _, _, _, ((([] ++ nw2_1) ++ nw2_2) ++ jkq), ⟨_, _, _, _, rfl, hown9, (by show TO _ (s.told ++ [lockedT s t]) _; first | (rw [e9]; exact (h2.mono (fun z hz => List.mem_append_right _ hz)).app (to_one (hlk.mono (fun z hz => by simp only [List.mem_append] at hz ⊢; rcases hz with h | h | h <;> (try simp only [List.not_mem_nil, false_or] at h) <;> simp [h])))) | (rw [e9]; exact (h2.app (to_one hT)).mono (fun z hz => List.mem_append_right _ hz))), h3, h4.mono (fun z hz => List.mem_append_right _ hz)⟩, rfl, rfl, rfl, (by repeat (first | exact bag_nil | exact bag_lab _ | apply bag_skip rfl)), (by first | exact ids_1 (ids_own hoq hown9 hjq) | exact ids_1 (ids_jk (ids_own hoq hown9 hjq)))⟩
  · intro hc0
    have e9 : lockedT s t = t := if_neg (by have := of_decide_eq_false hc0; omega)
    refine Qk<|(Qq ⟨[], 1, [], none, (some (34, b))⟩)<|(Qm) ?_
    refine e_nilCheck rfl rfl ?_
    refine (Qf 1)<|(QV 1 0)<|(QD 3)<|(QC h1.shows) ?_
    refine e_buildSl 4 #[iv 0, iv 0, iv 0, nilS] (Uu 27 rfl) (Uz 39 rfl) (Ub 39 rfl) (by decide) (by decide) rfl (by kernel_rfl) rfl fun r5 => ?_
    refine e_appendJ 1 [(0, _), (2, _), (3, _), (4, _)] h1 (shows_new _ _ (by rfl)) rfl (seen1 4 rfl ⟨[], trivial⟩) (by repeat (first | exact bag_nil | exact bag_lab _ | apply bag_skip rfl)) (fun _ => ⟨rfl, rfl, rfl, rfl, trivial⟩) rfl rfl (Uu 27) (Uz 39) (Uy 39) (Ub 39) (by rfl) rfl rfl (by decide) (by simp only [maxLen]; omega) (by omega) rfl fun vq ozq jkq hoq hjq => ?_
    simp only [catL]
    refine e_atV hoq.shows (Uu 27) (Uz 39) rfl rfl (by omega) rfl ?_
    refine e_stOwnS (i := 1) hoq (Uz 39) rfl rfl (arrv_size _ _) (by first | exact (cells_one ⟨fun _ => rfl, fun _ => rfl, fun _ => rfl, fun _ => shows_oneC hlk.2.1, trivial⟩) | exact (cells_one ⟨fun _ => rfl, fun _ => rfl, fun _ => rfl, fun _ => shows_oneC hT.2.1, trivial⟩)) rfl (by omega) rfl (fun oz2_2 ho2_2 => ?_) (y_off 0 rfl (by decide) rfl (by decide))
    refine e_nilCheck rfl rfl ?_
    refine (Qf 1) ?_
    refine e_stVY (i := 0) 1 (Uz 27) rfl rfl (shows_oneC (OwnS.shows (own_fill h2.1 rfl ho2_2))) rfl rfl (by decide) (hid_var rfl rfl) ?_ (y_var rfl rfl)
    refine Qn ?_
    have hown9 := own_app (L := s.told) (lockedT s t) (own_fill h2.1 rfl ho2_2)
    exact ⟨rfl, _, _, _, ([] ++ jkq), ⟨_, _, _, _, rfl, hown9, (by show TO _ (s.told ++ [lockedT s t]) _; first | (rw [e9]; exact (h2.mono (fun z hz => List.mem_append_right _ hz)).app (to_one (hlk.mono (fun z hz => by simp only [List.mem_append] at hz ⊢; rcases hz with h | h | h <;> (try simp only [List.not_mem_nil, false_or] at h) <;> simp [h])))) | (rw [e9]; exact (h2.app (to_one hT)).mono (fun z hz => List.mem_append_right _ hz))), h3, h4.mono (fun z hz => List.mem_append_right _ hz)⟩, rfl, rfl, rfl, (by repeat (first | exact bag_nil | exact bag_lab _ | apply bag_skip rfl)), (by first | exact ids_1 (ids_own hoq hown9 hjq) | exact ids_1 (ids_jk (ids_own hoq hown9 hjq)))⟩
end Go.Proofs.Ytfldnikepdbgkaa
namespace Go.Proofs.Ytfldnikepdbgkaa
open Go Go.RowKit
variable {G : Mem}
set_option maxHeartbeats 8000000 in
theorem wsay_fn (b : Nat) (sec : Bool) (s : WS) (n : Nat) (hs : s.Good n) (hn : n ≤ 800) (v1 v2 : Value) (xs1 xs2 : List Value) (oa ob : Option Blk) (h1 : OwnS 39 4 v1 s.told.length xs1 oa.toList) (h2 : TO G s.told xs1) (h3 : OwnS 39 4 v2 s.mixed.length xs2 ob.toList) (h4 : TO G s.mixed xs2) (hnd : (((⟨b, wC sec v1 v2 s.used, 50⟩ : Blk) :: (oa.toList ++ ob.toList) : Mem).map (·.b)).Nodup) (side : Nat) (hsd : side ≤ 1) (k : Int) : Fx Try.prog G ((⟨b, wC sec v1 v2 s.used, 50⟩ : Blk) :: (oa.toList ++ ob.toList)) 29 #[ptr b, ii side, iv k] (Three b 50 oa ob (fun c' o1 o2 fz => WireIs 39 (fz ++ G) sec (s.say sec side k) c' o1 o2)) := by
  have hl1 := hs.tlen
  have hl2 := hs.mlen
  have hl3 := hs.ulen
  refine fxW3 (n := 42) Try.func29 rfl rfl (by simp) (argE [ptr b, ii side, iv k] 0) (argE_ok _) hnd ?_
  refine Qs<|Qp<|(Qm)<|Qn<|Qb<|Qs<|Qp<|(Qc)<|(Qa)<|Qn ?_
  refine e_cond rfl ?_ ?_
  · intro hc0
    have k1 := of_decide_eq_true hc0
    rw [say_e k1]
    refine QR ⟨[], 5, [], none, none⟩<|(Qm)<|(Qm) ?_
    refine e_add_i (p := 3) rfl rfl rfl (by omega) ?_
    refine e_call rfl (Un 40) (tpub_fn ((3 + side : Nat) : Int)) rfl rfl ?_
    refine e_call3 0 1 2 [] (by repeat (first | exact bag_nil | exact bag_lab _ | apply bag_skip rfl)) trivial rfl ⟨⟨rfl, rfl⟩, rfl⟩ (by decide) rfl rfl (Un 52) rfl rfl rfl (fun z hz => .inl hz) (fun hnd => wshow_fn (G := G) b sec s n hs (by omega) v1 v2 xs1 xs2 oa ob h1 h2 h3 h4 hnd (pubT ((3 + side : Nat) : Int)) nilS [] tl_nil (form_pu (by omega))) (fun m' => wire_room 39 _ _ _ (hs.show sec (form_pu (by omega))) (by simp only [maxLen]; omega) m') rfl rfl fun cr oar obr nfr hSr hir => ?_
    simp only [catL]
    refine Qn ?_
    exact ⟨rfl, _, _, _, ([] ++ nfr), (by first | exact hSr.mono (fun z hz => by simpa using hz) | exact ⟨w1, w2, z1, z2, rfl, g1, g2.mono (fun z hz => by simpa using hz), g3, g4.mono (fun z hz => by simpa using hz)⟩), rfl, rfl, rfl, (by repeat (first | exact bag_nil | exact bag_lab _ | apply bag_skip rfl)), (by first | exact hir | simpa using hir)⟩
  · intro hc0
    have k1 := of_decide_eq_false hc0
    refine Qs<|Qp<|(Qc)<|(Qa)<|Qn ?_
    refine e_cond rfl ?_ ?_
    · intro hc1
      have k2 := of_decide_eq_true hc1
      rw [say_s k1 k2]
      refine QR ⟨[], 5, [], none, none⟩<|(Qm)<|(Qm) ?_
      refine e_add_i (p := 1) rfl rfl rfl (by omega) ?_
      refine e_call rfl (Un 40) (tpub_fn ((1 + side : Nat) : Int)) rfl rfl ?_
      refine e_call3 0 1 2 [] (by repeat (first | exact bag_nil | exact bag_lab _ | apply bag_skip rfl)) trivial rfl ⟨⟨rfl, rfl⟩, rfl⟩ (by decide) rfl rfl (Un 30) rfl rfl rfl (fun z hz => .inl hz) (fun hnd => wtell_fn (G := G) b sec s n hs (by omega) v1 v2 xs1 xs2 oa ob h1 h2 h3 h4 hnd (pubT ((1 + side : Nat) : Int)) nilS [] tl_nil (form_pu (by omega))) (fun m' => wire_room 39 _ _ _ (hs.tell (form_pu (by omega))) (by simp only [maxLen]; omega) m') rfl rfl fun cr oar obr nfr hSr hir => ?_
      simp only [catL]
      refine Qn ?_
      exact ⟨rfl, _, _, _, ([] ++ nfr), (by first | exact hSr.mono (fun z hz => by simpa using hz) | exact ⟨w1, w2, z1, z2, rfl, g1, g2.mono (fun z hz => by simpa using hz), g3, g4.mono (fun z hz => by simpa using hz)⟩), rfl, rfl, rfl, (by repeat (first | exact bag_nil | exact bag_lab _ | apply bag_skip rfl)), (by first | exact hir | simpa using hir)⟩
    · intro hc1
      have k2 := of_decide_eq_false hc1
      refine Qs<|Qp<|(Qc)<|(Qa)<|Qn ?_
      refine e_cond rfl ?_ ?_
      · intro hc2
        have k7 := of_decide_eq_true hc2
        rw [say_p k1 k2 k7]
        refine Qs<|QR ⟨[], 5, [], none, none⟩<|(Qm)<|(Qm) ?_
        refine e_nilCheck rfl rfl ?_
        refine (Qf 3)<|(QV 3 0) ?_
        refine e_add_i (p := 10) rfl rfl rfl (by omega) ?_
        refine e_call rfl (Un 24) (tatom_fn ((10 + s.used : Nat) : Int)) rfl rfl ?_
        refine e_call3 0 1 2 [] (by repeat (first | exact bag_nil | exact bag_lab _ | apply bag_skip rfl)) trivial rfl ⟨⟨rfl, rfl⟩, rfl⟩ (by decide) rfl rfl (Un 53) rfl rfl rfl (fun z hz => .inl hz) (fun hnd => wmix_fn (G := G) b sec s n hs (by omega) v1 v2 xs1 xs2 oa ob h1 h2 h3 h4 hnd (atomT ((10 + s.used : Nat) : Int)) nilS [] tl_nil) (fun m' => wire_room 39 _ _ _ (hs.mix (form_at (by omega))) (by simp only [maxLen]; omega) m') rfl rfl fun cr oar obr nfr hSr hir => ?_
        simp only [catL]
        obtain ⟨w1, w2, z1, z2, rfl, g1, g2, g3, g4⟩ := hSr
        refine Qn<|Qp<|(Qm) ?_
        refine e_nilCheck rfl rfl ?_
        refine (Qf 3)<|(QV 3 0) ?_
        refine e_as (show _ = ii s.used from rfl) ?_
        refine (Q2 1) ?_
        refine e_nilCheck rfl rfl ?_
        refine (Qf 3) ?_
        refine e_stV (i := 0) 3 (Uz 3) rfl rfl rfl rfl rfl (by decide) (.inl rfl) ?_
        refine Qn ?_
        exact ⟨rfl, _, _, _, ([] ++ nfr), (by first | exact hSr.mono (fun z hz => by simpa using hz) | exact ⟨w1, w2, z1, z2, rfl, g1, g2.mono (fun z hz => by simpa using hz), g3, g4.mono (fun z hz => by simpa using hz)⟩), rfl, rfl, rfl, (by repeat (first | exact bag_nil | exact bag_lab _ | apply bag_skip rfl)), (by first | exact hir | simpa using hir)⟩
      · intro hc2
        have k7 := of_decide_eq_false hc2
        rw [say_m k1 k2 k7]
        refine QR ⟨[], 5, [], none, none⟩<|(Qm)<|(Qm) ?_
        refine e_call rfl (Un 54) (agreed_fn k) rfl rfl ?_
        refine e_call3 0 1 2 [] (by repeat (first | exact bag_nil | exact bag_lab _ | apply bag_skip rfl)) trivial rfl ⟨⟨rfl, rfl⟩, rfl⟩ (by decide) rfl rfl (Un 53) rfl rfl rfl (fun z hz => .inl hz) (fun hnd => wmix_fn (G := G) b sec s n hs (by omega) v1 v2 xs1 xs2 oa ob h1 h2 h3 h4 hnd (agT k) nilS [] tl_nil) (fun m' => wire_room 39 _ _ _ (hs.mix (form_ag k)) (by simp only [maxLen]; omega) m') rfl rfl fun cr oar obr nfr hSr hir => ?_
        simp only [catL]
        refine Qn ?_
        exact ⟨rfl, _, _, _, ([] ++ nfr), (by first | exact hSr.mono (fun z hz => by simpa using hz) | exact ⟨w1, w2, z1, z2, rfl, g1, g2.mono (fun z hz => by simpa using hz), g3, g4.mono (fun z hz => by simpa using hz)⟩), rfl, rfl, rfl, (by repeat (first | exact bag_nil | exact bag_lab _ | apply bag_skip rfl)), (by first | exact hir | simpa using hir)⟩
end Go.Proofs.Ytfldnikepdbgkaa
namespace Go.Proofs.Ytfldnikepdbgkaa
open Go Go.RowKit
theorem say_w {G : Mem} {b : Nat} {sec : Bool} {s : WS} {n : Nat} {c : Array Value} {oa ob : Option Blk} (h : WireIs 39 G sec s c oa ob) (hs : s.Good n) (hn : n ≤ 800) (side : Nat) (hsd : side ≤ 1) (k : Int) (hnd : ((⟨b, c, 50⟩ :: (oa.toList ++ ob.toList) : Mem).map (·.b)).Nodup) : Fx Try.prog G (⟨b, c, 50⟩ :: (oa.toList ++ ob.toList)) 29 #[ptr b, ii side, iv k] (Three b 50 oa ob (fun c' o1 o2 fz => WireIs 39 (fz ++ G) sec (s.say sec side k) c' o1 o2)) := by
  obtain ⟨v1, v2, xs1, xs2, rfl, h1, h2, h3, h4⟩ := h
  exact wsay_fn b sec s n hs hn v1 v2 xs1 xs2 oa ob h1 h2 h3 h4 hnd side hsd k
theorem tell_w {G : Mem} {b : Nat} {sec : Bool} {s : WS} {n : Nat} {c : Array Value} {oa ob : Option Blk} (h : WireIs 39 G sec s c oa ob) (hs : s.Good n) (hn : n ≤ 900) (i : Int) (hi : 0 ≤ i) (hnd : ((⟨b, c, 50⟩ :: (oa.toList ++ ob.toList) : Mem).map (·.b)).Nodup) : Fx Try.prog G (⟨b, c, 50⟩ :: (oa.toList ++ ob.toList)) 30 #[ptr b, .agg (tC (atomT i) nilS)] (Three b 50 oa ob (fun c' o1 o2 fz => WireIs 39 (fz ++ G) sec (s.tell (atomT i)) c' o1 o2)) := by
  obtain ⟨v1, v2, xs1, xs2, rfl, h1, h2, h3, h4⟩ := h
  exact wtell_fn b sec s n hs hn v1 v2 xs1 xs2 oa ob h1 h2 h3 h4 hnd (atomT i) nilS [] tl_nil (form_at hi)
variable {G : Mem}
end Go.Proofs.Ytfldnikepdbgkaa
namespace Go.Proofs.Ytfldnikepdbgkaa
open Go Go.RowKit
variable {G : Mem}
set_option maxHeartbeats 400000 in
theorem ixi_fn (v : Value) (l : List Int) (hv : Shows G 1 v l.length (l.map iv)) (k : Int) (hn : l.length ≤ 1000000) : Fn Try.prog G 73 #[v, iv k] (iv (idxI (fun x => decide (k = x)) l)) := by
  refine Qf1 Try.func73 ?_
  refine Qs<|Qp<|(Qa)<|Qn<|Qs<|Qs<|Qp<|(Qm)<|(QC hv)<|(Qm)<|Qn<|Qb ?_
  refine QzK [(0, _), (1, _), (7, _)] [] (fun kk E m => ∃ (i : Nat), kk = l.length - i ∧ E = [(8, ii i)] ∧ m = [] ∧ (i ≤ l.length) ∧ (∀ j, j < i → (fun x => decide (k = x)) (l.getD j 0) = false)) ⟨0, rfl, rfl, rfl, by omega, fun _ h => absurd h (Nat.not_lt_zero _)⟩ ⟨rfl, rfl, rfl, rfl, trivial⟩ trivial ?_
  rintro kk E m ⟨i, rfl, rfl, rfl, hf0_0, hf0_1⟩
  simp only [catE, catL]
  refine Qs<|Qp<|(Ql)<|Qn<|Qs ?_
  refine e_cond rfl ?_ ?_
  · intro hc0
    have hc0 : i < l.length := by have := of_decide_eq_true hc0; omega
    refine Qk<|Qs<|Qb<|Qs<|Qp<|(Qm)<|(Qa)<|Qn<|Qs<|Qp<|(Qm)<|(Qm)<|(Qm) ?_
    refine e_atV hv (Uu 22) (Uz 3) rfl rfl (by omega) rfl ?_
    refine (QS) ?_
    refine e_loadV hv seenG (Uu 3) rfl rfl (iv_at (by omega)) rfl ?_
    refine (Qc)<|Qn ?_
    refine e_cond rfl ?_ ?_
    · intro hc1
      rw [idxI_at (i := i) (by assumption) hf0_1 (by exact hc1)]
      refine Qs<|Qp<|(Qm)<|(Qa)<|Qn<|Qr ?_
      first | rw [idxI_none (p := (fun x => decide (k = x))) (fun j h => hf0_1 j (by omega))] | skip
      exact ⟨_, rfl, .tmp rfl⟩
    · intro hc1
      have hz9 := hc1
      refine Qk<|Qp<|(Q2 1)<|(Qm)<|Qn ?_
      refine QzL ⟨i + 1, rfl, rfl, rfl, by omega, fun j hj => by by_cases e : j = i; (subst e; exact hz9); exact hf0_1 j (by omega)⟩ ⟨rfl, rfl, rfl, rfl, trivial⟩ trivial ?_
      omega
  · intro hc0
    have hc0 := of_decide_eq_false hc0
    have hz0 : i = l.length := by omega
    refine Qe<|Qs<|Qp<|(Qa)<|Qn<|Qr ?_
    first | rw [idxI_none (p := (fun x => decide (k = x))) (fun j h => hf0_1 j (by omega))] | skip
    exact ⟨_, rfl, .tmp rfl⟩
set_option maxHeartbeats 400000 in
theorem cti_fn (v : Value) (l : List Int) (hv : Shows G 1 v l.length (l.map iv)) (k : Int) (hn : l.length ≤ 1000000) : Fn Try.prog G 51 #[v, iv k] (.bool (decide (k ∈ l))) := by
  refine Qf1 Try.func51 ?_
  refine Qs<|Qp<|(Qa)<|Qn<|Qs<|Qp<|(Qm)<|(Qm) ?_
  refine e_call rfl (Un 73) (ixi_fn v l hv k hn) rfl rfl ?_
  refine (QE) ?_
  refine e_as (congrArg Value.bool ((idxI_has _ l).trans (any_mem l k))) ?_
  refine (Qa)<|Qn<|Qr ?_
  exact ⟨_, rfl, .tmp rfl⟩
end Go.Proofs.Ytfldnikepdbgkaa
namespace Go.Proofs.Ytfldnikepdbgkaa
open Go Go.RowKit
variable {G : Mem}
set_option maxHeartbeats 4000000 in
theorem early_fn (base : List Nat) (late : Bool) (vp v0 v1 vt : Value) (tvs : List Value) (ps p0 p1 : List Int) (ts : List (List Int)) (hvp : Shows G 1 vp ps.length (ps.map iv)) (hvt : Shows G 1 vt tvs.length tvs) (hLI : ShowsLI G (v0 :: v1 :: tvs) (p0 :: p1 :: ts)) (h60 : p0.length ≤ 6) (h61 : p1.length ≤ 6) : Fx Try.prog G [] 28 #[.agg (cells 6 [pV (sv base), pV (.bool late), pV vp, pV v0, pV v1, pV vt])] (fun v l1 nw => l1 = [] ∧ ∃ v', v = v' ∧ OwnS 39 4 v' (earlyT p0 p1).length (lfC (earlyT p0 p1)) nw) := by
  have hT := li_tail (li_tail hLI)
  have htl : tvs.length = ts.length := hT.1
  have o1 := shows_oneC hvp
  have o2 := shows_oneC (vq_show hLI 0 (by decide))
  have o3 := shows_oneC (vq_show hLI 1 (by decide))
  have o4 := shows_oneC hvt
  have hpq := vq_show hLI
  have hql : ∀ a, (pq p0 p1 a).length ≤ 6 := fun a => by unfold pq; split <;> assumption
  refine QfN Try.func28 ?_
  refine Qs<|Qp<|(Qh 0) fun r1=>(Qa)<|Qn<|Qs<|Qp<|(Qa)<|Qn<|Qs<|Qs<|Qp<|(Qf 3) ?_
  refine e_ldP (i := 0) (Uu 23) rfl (Uz 23) rfl rfl (by decide) rfl ⟨[], trivial⟩ ?_
  refine e_as (show _ = Value.agg (arrv 2 (fun t => vq v0 v1 t)) from congrArg Value.agg (arrv_congr fun j hj => by have h9 : j = 0 ∨ j = 1 := (by omega); rcases h9 with rfl | rfl <;> rfl)) ?_
  refine (Qm)<|Qn<|Qb ?_
  refine QzK [(2, _), (7, _)] [(0, _)] (fun kk E m => ∃ (i : Nat) (w : Value) (oz : Option Blk), kk = 2 - i ∧ E = [(3, w), (8, ii i)] ∧ m = [(50, oz)] ∧ (i ≤ 2) ∧ (OwnS 39 4 w (earlyU p0 p1 i).length (lfC (earlyU p0 p1 i)) (Option.toList oz))) ⟨0, nilS, none, rfl, rfl, rfl, by omega, (own_nil _ _)⟩ ⟨rfl, rfl, rfl, rfl, trivial⟩ ⟨rfl, rfl, trivial⟩ ?_
  rintro kk E m ⟨i, w, oz, rfl, rfl, rfl, hf0_0, hf0_1⟩
  simp only [catE, catL]
  have hel := early_len p0 p1 i
  refine Qs<|Qp<|(Ql)<|Qn<|Qs ?_
  refine e_cond rfl ?_ ?_
  · intro hc0
    have hc0 : i < 2 := by have := of_decide_eq_true hc0; omega
    refine Qk<|Qs<|Qb<|Qs<|Qp<|(Qm) ?_
    refine e_idxP (Uu 23) (Uu 22) rfl (Uz 22) rfl rfl (by omega) rfl ?_
    refine (Qa)<|(Qa)<|Qn<|Qs<|Qp<|(Qm) ?_
    refine e_callS rfl rfl (Un 51) seenG (cti_fn (vq v0 v1 i) (pq p0 p1 i) (hpq i (by omega)) 1 (by have := hql i; omega)) rfl rfl ?_
    refine Qn ?_
    refine e_cond rfl ?_ ?_
    · intro hc1
      have hc9 := hc1
      refine Qp<|(Qm)<|(Qm) ?_
      refine e_add_i (p := 3) rfl rfl rfl (by omega) ?_
      refine e_call rfl (Un 40) (tpub_fn ((3 + i : Nat) : Int)) rfl rfl ?_
      refine e_buildSl 1 (tC (pubT ((3 + i : Nat) : Int)) nilS) (Uu 27 rfl) (Uz 39 rfl) (Ub 39 rfl) (by decide) (by decide) rfl (fill_tC (by kernel_rfl)) rfl fun r2 => ?_
      refine e_append 50 hf0_1 (shows_new _ _ (by rfl)) rfl (seen1 1 rfl ⟨[], trivial⟩) (Uu 27) (Uz 39) (Uy 39) (Ub 39) (by rfl) rfl rfl (to_one (G := []) tl_nil).ones (by simp only [maxLen]; omega) (by omega) rfl fun v3_1 oz3_1 ho3_1 => ?_
      refine (Qa)<|Qn ?_
      have hown9 := ho3_1
      refine Qp<|(Q2 1)<|(Qm)<|Qn ?_
      refine QzL ⟨i + 1, _, _, rfl, rfl, rfl, by omega, (by first | exact own_fix hown9 (by rw [early_yes (by omega) hc9, List.length_append]; rfl) (by rw [early_yes (by omega) hc9, lfC_snoc]) | exact own_fix hf0_1 (by rw [early_no (by omega) hc9]) (by rw [early_no (by omega) hc9]))⟩ ⟨rfl, rfl, rfl, rfl, trivial⟩ ⟨rfl, rfl, trivial⟩ ?_
      omega
    · intro hc1
      have hc9 := hc1
      refine Qk<|Qp<|(Q2 1)<|(Qm)<|Qn ?_
      refine QzL ⟨i + 1, _, _, rfl, rfl, rfl, by omega, (by first | exact own_fix hown9 (by rw [early_yes (by omega) hc9, List.length_append]; rfl) (by rw [early_yes (by omega) hc9, lfC_snoc]) | exact own_fix hf0_1 (by rw [early_no (by omega) hc9]) (by rw [early_no (by omega) hc9]))⟩ ⟨rfl, rfl, rfl, rfl, trivial⟩ ⟨rfl, rfl, trivial⟩ ?_
      omega
  · intro hc0
    have hc0 := of_decide_eq_false hc0
    have hz0 : i = 2 := by omega
    refine Qe<|Qs<|Qp<|(Qm)<|(Qa)<|Qn<|Qr ?_
    exact ⟨_, _, _, 50, rfl, .tmp rfl, (own_fix hf0_1 (by rw [hz0, early_all]) (by rw [hz0, early_all])), rfl⟩
end Go.Proofs.Ytfldnikepdbgkaa
namespace Go.Proofs.Ytfldnikepdbgkaa
open Go Go.RowKit
variable {G : Mem}
set_option maxHeartbeats 16000000 in
theorem toldBy_plain (base : List Nat) (late : Bool) (vp v0 v1 vt : Value) (tvs : List Value) (ps p0 p1 : List Int) (ts : List (List Int)) (hvp : Shows G 1 vp ps.length (ps.map iv)) (hvt : Shows G 1 vt tvs.length tvs) (hLI : ShowsLI G (v0 :: v1 :: tvs) (p0 :: p1 :: ts)) (h5 : ts.length ≤ 5) (h6 : ∀ i, i < ts.length → (ts.getD i []).length ≤ 6) (h0 : ps.length = 0) : Fx Try.prog G [] 11 #[.agg (cells 6 [pV (sv base), pV (.bool late), pV vp, pV v0, pV v1, pV vt])] (fun v l1 nw => l1 = [] ∧ ∃ xs, TL nw (toldW late ps.length p0 p1 ts).told v xs) := by
  have hT := li_tail (li_tail hLI)
  have htl : tvs.length = ts.length := hT.1
  have o1 := shows_oneC hvp
  have o2 := shows_oneC (vq_show hLI 0 (by decide))
  have o3 := shows_oneC (vq_show hLI 1 (by decide))
  have o4 := shows_oneC hvt
  have hG : WS.Good ⟨[], if 0 < ps.length then earlyT p0 p1 else [], 0⟩ 0 := by rw [if_neg (by omega)]; exact good_zero 0
  refine fxD (n := 48) Try.func11 rfl rfl (by simp) (argE [.agg (cells 6 [pV (sv base), pV (.bool late), pV vp, pV v0, pV v1, pV vt])] 0) (argE_ok _) ?_
  refine Qs<|Qp<|(Qh 0) fun r1=>(Qa)<|Qn<|Qs<|Qp<|(Qf 2)<|(QV 2 0)<|(QC hvp)<|(QG) ?_
  refine e_as (congrArg Value.bool (dec_pos ps.length)) ?_
  refine e_buildS (wC (decide (0 < ps.length)) nilS nilS 0) (Ub 50 rfl) (Uu 50 rfl) pls50 rfl (by kernel_rfl) rfl ?_
  refine (QH 1) fun r2=>?_
  refine e_storeA (i := 1) (Uz 50) rfl rfl (arrv_size _ _) (cells_one ⟨fun _ => rfl, fun _ => rfl, fun _ => rfl, fun _ => rfl, trivial⟩) rfl cells_sz (.inl rfl) ?_
  refine Qn<|Qs<|Qs<|Qp<|(Qf 0)<|(QV 0 1)<|Qn ?_
  refine e_cond rfl ?_ ?_
  · intro hc0
    have := of_decide_eq_true hc0; omega
  · intro hc0
    refine Qk<|Qs<|Qp<|(Qa)<|Qn<|Qs<|Qs<|Qp<|(Qf 1)<|(QV 1 0)<|Qn ?_
    refine s_join [(0, _), (1, _), (2, _), (3, _), (9, _), (10, _), (11, _), (12, _), (13, _), (14, _), (15, _), (19, _), (20, _)] [(4, ii (whoT late 0))] [(0, some _), (1, some _)] ⟨rfl, rfl, rfl, rfl, rfl, rfl, rfl, rfl, rfl, rfl, rfl, rfl, rfl, trivial⟩ ⟨rfl, rfl, trivial⟩ ?_ ?_
    · skip
      refine e_cond rfl ?_ ?_
      · intro hc1
        have hcL := hc1
        refine Qp<|(Qa)<|Qn ?_
        exact ⟨⟨rfl, rfl, rfl, rfl, rfl, rfl, rfl, rfl, rfl, rfl, rfl, rfl, rfl, trivial⟩, ⟨(by rw [whoT, hcL] <;> rfl), trivial⟩, ⟨rfl, rfl, trivial⟩⟩
      · intro hc1
        have hcL := hc1
        refine Qk ?_
        exact ⟨⟨rfl, rfl, rfl, rfl, rfl, rfl, rfl, rfl, rfl, rfl, rfl, rfl, rfl, trivial⟩, ⟨(by rw [whoT, hcL] <;> rfl), trivial⟩, ⟨rfl, rfl, trivial⟩⟩
    · simp only [catE]
      refine Qs<|Qs<|Qp<|(Qf 5)<|(QV 5 0)<|(QC hvt)<|(Qm)<|Qn<|Qb ?_
      refine e_loopB [(2, _), (3, _), (22, _), (23, _)] [(0, _)] (fun kk E m fz => ∃ (i : Nat) (c : Array Value) (oa : Option Blk) (ob : Option Blk), kk = tvs.length - i ∧ E = [(4, ii (whoT late i)), (24, ii i)] ∧ m = [(1, (some ⟨r2, c, 50⟩)), (50, oa), (51, ob)] ∧ (i ≤ tvs.length) ∧ (WireIs 39 fz (decide (0 < ps.length)) (WS.upTo (decide (0 < ps.length)) late ⟨[], if 0 < ps.length then earlyT p0 p1 else [], 0⟩ ts i) c oa ob)) (k := tvs.length - 0) (E0 := [(4, ii (whoT late 0)), (24, ii 0)]) (M0 := [(1, (some ⟨r2, ((wC (decide (0 < ps.length)) nilS nilS 0)), 50⟩)), (50, none), (51, none)]) (fz := []) ⟨0, (wC (decide (0 < ps.length)) nilS nilS 0), none, none, rfl, rfl, rfl, by omega, (by show WireIs _ _ _ ⟨[], if 0 < ps.length then earlyT p0 p1 else [], 0⟩ _ _ _; rw [if_neg (by omega)]; exact wire_zero _)⟩ ⟨rfl, rfl, rfl, rfl, rfl, rfl, trivial⟩ ⟨rfl, rfl, rfl, rfl, trivial⟩ (by repeat (first | exact bag_nil | exact bag_lab _ | apply bag_skip rfl)) ?_
      rintro kk E m fz ⟨i, c, oa, ob, rfl, rfl, rfl, hf0_0, hf0_1⟩
      simp only [catE, catL]
      have hwl := whoT_lt late i
      have hgi := hG.upTo h6 (sec := (decide (0 < ps.length))) (late := late) (s := ⟨[], if 0 < ps.length then earlyT p0 p1 else [], 0⟩) i (by omega)
      refine Qs<|Qp<|(Ql)<|Qn<|Qs ?_
      refine e_cond rfl ?_ ?_
      · intro hc2
        have hc2 : i < tvs.length := by have := of_decide_eq_true hc2; omega
        refine Qk<|Qs<|Qb<|Qs<|Qp<|(Qm) ?_
        refine e_atV hvt (Uu 24) (Uz 22) rfl rfl (by omega) rfl ?_
        refine (QS) ?_
        refine e_loadV hvt seenG (Uu 22) rfl rfl (get_getD (by omega)) rfl ?_
        refine (Qa)<|(Qa)<|Qn<|Qs<|Qs<|Qp<|(Qm)<|(QC (hT.2 i (by omega)))<|(Qm)<|Qn<|Qb ?_
        refine e_loopB [(2, _), (3, _), (4, _), (5, _), (22, _), (23, _), (24, _), (29, _), (30, _)] [(0, _)] (fun kk E m fy => ∃ (j : Nat) (d : Array Value) (oc : Option Blk) (od : Option Blk), kk = (ts.getD i []).length - j ∧ E = [(31, ii j)] ∧ m = [(1, (some ⟨r2, d, 50⟩)), (50, oc), (51, od)] ∧ (j ≤ (ts.getD i []).length) ∧ (WireIs 39 fy (decide (0 < ps.length)) ((WS.upTo (decide (0 < ps.length)) late ⟨[], if 0 < ps.length then earlyT p0 p1 else [], 0⟩ ts i).turn (decide (0 < ps.length)) (whoT late i) ((ts.getD i []).take j)) d oc od)) (k := (ts.getD i []).length - 0) (E0 := [(31, ii 0)]) (M0 := [(1, (some ⟨r2, c, 50⟩)), (50, oa), (51, ob)]) (fz := fz) ⟨0, c, oa, ob, rfl, rfl, rfl, by omega, hf0_1⟩ ⟨rfl, rfl, rfl, rfl, rfl, rfl, rfl, rfl, rfl, rfl, trivial⟩ ⟨rfl, rfl, rfl, rfl, trivial⟩ (by repeat (first | exact bag_nil | exact bag_lab _ | apply bag_skip rfl)) ?_
        rintro kk E m fy ⟨j, d, oc, od, rfl, rfl, rfl, hf1_0, hf1_1⟩
        simp only [catE, catL]
        have hgj := hgi.turn (sec := (decide (0 < ps.length))) (side := whoT late i) ((ts.getD i []).take j)
        have htj : ((ts.getD i []).take j).length ≤ 6 := by rw [List.length_take]; have := h6 i (by omega); omega
        have h6j := h6 i (by omega)
        refine Qs<|Qp<|(Ql)<|Qn<|Qs ?_
        refine e_cond rfl ?_ ?_
        · intro hc3
          have hc3 : j < (ts.getD i []).length := by have := of_decide_eq_true hc3; omega
          refine Qk<|Qs<|Qb<|Qs<|Qp ?_
          refine e_atV (hT.2 i (by omega)) (Uu 22) (Uz 3) rfl rfl (by omega) rfl ?_
          refine (QS) ?_
          refine e_loadV (hT.2 i (by omega)) seenG (Uu 3) rfl rfl (iv_at (by omega)) rfl ?_
          refine (Qa)<|Qn<|QR ⟨[], 5, [], none, none⟩<|(Qm)<|(Qm) ?_
          refine e_call3 1 50 51 [(0, _)] (by repeat (first | exact bag_nil | exact bag_lab _ | apply bag_skip rfl)) ⟨rfl, trivial⟩ rfl ⟨⟨rfl, rfl⟩, rfl⟩ (by decide) rfl rfl (Un 29) rfl rfl rfl (fun z hz => bag_off3 (G := G) (by repeat (first | exact bag_nil | exact bag_lab _ | apply bag_skip rfl)) (by decide) (by decide) (by decide) z (List.mem_append_left _ hz)) (fun hnd => say_w (G := fy) hf1_1 hgj (by omega) (whoT late i) (by omega) ((ts.getD i []).getD j 0) hnd) (fun m' => wire_room 39 _ _ _ (hgj.say _ _ _) (by simp only [maxLen]; omega) m') rfl rfl fun cs oas obs nfs hSs his => ?_
          simp only [catL]
          refine Qn<|Qp<|(Q2 1)<|(Qm)<|Qn ?_
          refine e_round (E'' := [(31, ii (j + 1))]) (M'' := [(1, (some ⟨r2, _, 50⟩)), (50, _), (51, _)]) (fz' := (fy ++ nfs)) ⟨j + 1, _, _, _, rfl, rfl, rfl, by omega, (by rw [turn_next _ _ _ (by assumption)]; exact hSs.mono in2)⟩ ⟨rfl, rfl, rfl, rfl, rfl, rfl, rfl, rfl, rfl, rfl, trivial⟩ ⟨rfl, rfl, rfl, rfl, trivial⟩ (by repeat (first | exact bag_nil | exact bag_lab _ | apply bag_skip rfl)) (by omega)
        · intro hc3
          have hc3 := of_decide_eq_false hc3
          have hz1 : j = (ts.getD i []).length := by omega
          refine Qe<|Qs<|QR ⟨[], 5, [], none, none⟩<|(Qm) ?_
          refine e_add_i (p := 20) rfl rfl rfl (by omega) ?_
          refine e_call rfl (Un 24) (tatom_fn ((20 + i : Nat) : Int)) rfl rfl ?_
          refine e_call3 1 50 51 [(0, _)] (by repeat (first | exact bag_nil | exact bag_lab _ | apply bag_skip rfl)) ⟨rfl, trivial⟩ rfl ⟨⟨rfl, rfl⟩, rfl⟩ (by decide) rfl rfl (Un 30) rfl rfl rfl (fun z hz => bag_off3 (G := G) (by repeat (first | exact bag_nil | exact bag_lab _ | apply bag_skip rfl)) (by decide) (by decide) (by decide) z (List.mem_append_left _ hz)) (fun hnd => tell_w (G := fy) hf1_1 hgj (by omega) ((20 + i : Nat) : Int) (by omega) hnd) (fun m' => wire_room 39 _ _ _ (hgj.tell (form_at (by omega))) (by simp only [maxLen]; omega) m') rfl rfl fun ct oat obt nft hSt hit => ?_
          simp only [catL]
          refine Qn<|Qp<|(Qm) ?_
          refine e_sub_in (p := 1) rfl rfl rfl (by omega) (by omega) ?_
          refine (Qa)<|Qn<|Qp<|(Q2 1)<|(Qm)<|Qn ?_
          refine e_round (E'' := [(4, ii (whoT late (i + 1))), (24, ii (i + 1))]) (M'' := [(1, (some ⟨r2, _, 50⟩)), (50, _), (51, _)]) (fz' := (fy ++ nft)) ⟨i + 1, _, _, _, rfl, rfl, rfl, by omega, (upTo_step hz1 (hSt.mono in2))⟩ ⟨(by rw [← whoT_next] <;> rfl), rfl, rfl, rfl, rfl, rfl, trivial⟩ ⟨rfl, rfl, rfl, rfl, trivial⟩ (by repeat (first | exact bag_nil | exact bag_lab _ | apply bag_skip rfl)) (by omega)
      · intro hc2
        have hc2 := of_decide_eq_false hc2
        have hz0 : i = tvs.length := by omega
        obtain ⟨w1, w2, z1, z2, rfl, g1, g2, g3, g4⟩ := hf0_1
        refine Qe<|Qs<|Qp<|(Qf 1)<|(QV 1 1) ?_
        refine e_freeze 50 [(0, _), (1, _), (51, _)] rfl rfl (by repeat (first | exact bag_nil | exact bag_lab _ | apply bag_skip rfl)) ⟨rfl, rfl, rfl, trivial⟩ rfl rfl ?_
        simp only [catL]
        refine (Qa)<|Qn<|Qr ?_
        exact ⟨_, _, (fz ++ oa.toList), rfl, .tmp rfl, (tW_end (hz0.trans htl) g1 g2 (by have := (hG.upTo h6 (sec := (decide (0 < ps.length))) (late := late) (s := ⟨[], if 0 < ps.length then earlyT p0 p1 else [], 0⟩) i (by omega)).tlen; simp only [maxLen]; omega)), (by repeat (first | exact bag_nil | exact bag_lab _ | apply bag_skip rfl))⟩
end Go.Proofs.Ytfldnikepdbgkaa
namespace Go.Proofs.Ytfldnikepdbgkaa
open Go Go.RowKit
variable {G : Mem}
set_option maxHeartbeats 16000000 in
theorem toldBy_psk (base : List Nat) (late : Bool) (vp v0 v1 vt : Value) (tvs : List Value) (ps p0 p1 : List Int) (ts : List (List Int)) (hvp : Shows G 1 vp ps.length (ps.map iv)) (hvt : Shows G 1 vt tvs.length tvs) (hLI : ShowsLI G (v0 :: v1 :: tvs) (p0 :: p1 :: ts)) (h5 : ts.length ≤ 5) (h6 : ∀ i, i < ts.length → (ts.getD i []).length ≤ 6) (h60 : p0.length ≤ 6) (h61 : p1.length ≤ 6) (h0 : 0 < ps.length) : Fx Try.prog G [] 11 #[.agg (cells 6 [pV (sv base), pV (.bool late), pV vp, pV v0, pV v1, pV vt])] (fun v l1 nw => l1 = [] ∧ ∃ xs, TL nw (toldW late ps.length p0 p1 ts).told v xs) := by
  have hT := li_tail (li_tail hLI)
  have htl : tvs.length = ts.length := hT.1
  have o1 := shows_oneC hvp
  have o2 := shows_oneC (vq_show hLI 0 (by decide))
  have o3 := shows_oneC (vq_show hLI 1 (by decide))
  have o4 := shows_oneC hvt
  have hG : WS.Good ⟨[], if 0 < ps.length then earlyT p0 p1 else [], 0⟩ 2 := by rw [if_pos h0]; exact good_early p0 p1
  have hel := early_len p0 p1 2
  rw [early_all] at hel
  refine fxD (n := 48) Try.func11 rfl rfl (by simp) (argE [.agg (cells 6 [pV (sv base), pV (.bool late), pV vp, pV v0, pV v1, pV vt])] 0) (argE_ok _) ?_
  refine Qs<|Qp<|(Qh 0) fun r1=>(Qa)<|Qn<|Qs<|Qp<|(Qf 2)<|(QV 2 0)<|(QC hvp)<|(QG) ?_
  refine e_as (congrArg Value.bool (dec_pos ps.length)) ?_
  refine e_buildS (wC (decide (0 < ps.length)) nilS nilS 0) (Ub 50 rfl) (Uu 50 rfl) pls50 rfl (by kernel_rfl) rfl ?_
  refine (QH 1) fun r2=>?_
  refine e_storeA (i := 1) (Uz 50) rfl rfl (arrv_size _ _) (cells_one ⟨fun _ => rfl, fun _ => rfl, fun _ => rfl, fun _ => rfl, trivial⟩) rfl cells_sz (.inl rfl) ?_
  refine Qn<|Qs<|Qs<|Qp<|(Qf 0)<|(QV 0 1)<|Qn ?_
  refine e_cond rfl ?_ ?_
  · intro hc0
    refine QR ⟨[], 4, [], none, none⟩<|(QD 0) ?_
    refine e_callN 2 (fun v => v) rfl rfl (Un 28) seenG (early_fn base late vp v0 v1 vt tvs ps p0 p1 ts hvp hvt hLI h60 h61) (by simp only [maxLen]; omega) (lf_to (G := []) (earlyT p0 p1) (early_args p0 p1)).1 rfl rfl fun vE ozE hoE => ?_
    refine (Qf 2) ?_
    refine e_stV (i := 1) 2 (Uz 27) rfl rfl (shows_oneC (OwnS.shows hoE)) rfl rfl (by decide) (.inl rfl) ?_
    refine Qn<|Qs<|Qp<|(Qa)<|Qn<|Qs<|Qs<|Qp<|(Qf 1)<|(QV 1 0)<|Qn ?_
    refine s_join [(0, _), (1, _), (2, _), (3, _), (9, _), (10, _), (11, _), (12, _), (13, _), (14, _), (15, _), (16, _), (17, _), (18, _), (19, _), (20, _)] [(4, ii (whoT late 0))] [(0, some _), (1, some _), (2, ozE)] ⟨rfl, rfl, rfl, rfl, rfl, rfl, rfl, rfl, rfl, rfl, rfl, rfl, rfl, rfl, rfl, rfl, trivial⟩ ⟨rfl, rfl, rfl, trivial⟩ ?_ ?_
    · skip
      refine e_cond rfl ?_ ?_
      · intro hc1
        have hcL := hc1
        refine Qp<|(Qa)<|Qn ?_
        exact ⟨⟨rfl, rfl, rfl, rfl, rfl, rfl, rfl, rfl, rfl, rfl, rfl, rfl, rfl, rfl, rfl, rfl, trivial⟩, ⟨(by rw [whoT, hcL] <;> rfl), trivial⟩, ⟨rfl, rfl, rfl, trivial⟩⟩
      · intro hc1
        have hcL := hc1
        refine Qk ?_
        exact ⟨⟨rfl, rfl, rfl, rfl, rfl, rfl, rfl, rfl, rfl, rfl, rfl, rfl, rfl, rfl, rfl, rfl, trivial⟩, ⟨(by rw [whoT, hcL] <;> rfl), trivial⟩, ⟨rfl, rfl, rfl, trivial⟩⟩
    · simp only [catE]
      refine Qs<|Qs<|Qp<|(Qf 5)<|(QV 5 0)<|(QC hvt)<|(Qm)<|Qn<|Qb ?_
      refine e_loopB [(2, _), (3, _), (22, _), (23, _)] [(0, _)] (fun kk E m fz => ∃ (i : Nat) (c : Array Value) (oa : Option Blk) (ob : Option Blk), kk = tvs.length - i ∧ E = [(4, ii (whoT late i)), (24, ii i)] ∧ m = [(1, (some ⟨r2, c, 50⟩)), (2, ob), (50, oa)] ∧ (i ≤ tvs.length) ∧ (WireIs 39 fz (decide (0 < ps.length)) (WS.upTo (decide (0 < ps.length)) late ⟨[], if 0 < ps.length then earlyT p0 p1 else [], 0⟩ ts i) c oa ob)) (k := tvs.length - 0) (E0 := [(4, ii (whoT late 0)), (24, ii 0)]) (M0 := [(1, (some ⟨r2, ((wC (decide (0 < ps.length)) nilS vE 0)), 50⟩)), (2, ozE), (50, none)]) (fz := []) ⟨0, (wC (decide (0 < ps.length)) nilS vE 0), none, ozE, rfl, rfl, rfl, by omega, (by show WireIs _ _ _ ⟨[], if 0 < ps.length then earlyT p0 p1 else [], 0⟩ _ _ _; rw [if_pos h0]; exact ⟨nilS, vE, [], _, rfl, own_nil _ _, TO.nil, hoE, lf_to _ (early_args p0 p1)⟩)⟩ ⟨rfl, rfl, rfl, rfl, rfl, rfl, trivial⟩ ⟨rfl, rfl, rfl, rfl, trivial⟩ (by repeat (first | exact bag_nil | exact bag_lab _ | apply bag_skip rfl)) ?_
      rintro kk E m fz ⟨i, c, oa, ob, rfl, rfl, rfl, hf0_0, hf0_1⟩
      simp only [catE, catL]
      have hwl := whoT_lt late i
      have hgi := hG.upTo h6 (sec := (decide (0 < ps.length))) (late := late) (s := ⟨[], if 0 < ps.length then earlyT p0 p1 else [], 0⟩) i (by omega)
      refine Qs<|Qp<|(Ql)<|Qn<|Qs ?_
      refine e_cond rfl ?_ ?_
      · intro hc2
        have hc2 : i < tvs.length := by have := of_decide_eq_true hc2; omega
        refine Qk<|Qs<|Qb<|Qs<|Qp<|(Qm) ?_
        refine e_atV hvt (Uu 24) (Uz 22) rfl rfl (by omega) rfl ?_
        refine (QS) ?_
        refine e_loadV hvt seenG (Uu 22) rfl rfl (get_getD (by omega)) rfl ?_
        refine (Qa)<|(Qa)<|Qn<|Qs<|Qs<|Qp<|(Qm)<|(QC (hT.2 i (by omega)))<|(Qm)<|Qn<|Qb ?_
        refine e_loopB [(2, _), (3, _), (4, _), (5, _), (22, _), (23, _), (24, _), (29, _), (30, _)] [(0, _)] (fun kk E m fy => ∃ (j : Nat) (d : Array Value) (oc : Option Blk) (od : Option Blk), kk = (ts.getD i []).length - j ∧ E = [(31, ii j)] ∧ m = [(1, (some ⟨r2, d, 50⟩)), (2, od), (50, oc)] ∧ (j ≤ (ts.getD i []).length) ∧ (WireIs 39 fy (decide (0 < ps.length)) ((WS.upTo (decide (0 < ps.length)) late ⟨[], if 0 < ps.length then earlyT p0 p1 else [], 0⟩ ts i).turn (decide (0 < ps.length)) (whoT late i) ((ts.getD i []).take j)) d oc od)) (k := (ts.getD i []).length - 0) (E0 := [(31, ii 0)]) (M0 := [(1, (some ⟨r2, c, 50⟩)), (2, ob), (50, oa)]) (fz := fz) ⟨0, c, oa, ob, rfl, rfl, rfl, by omega, hf0_1⟩ ⟨rfl, rfl, rfl, rfl, rfl, rfl, rfl, rfl, rfl, rfl, trivial⟩ ⟨rfl, rfl, rfl, rfl, trivial⟩ (by repeat (first | exact bag_nil | exact bag_lab _ | apply bag_skip rfl)) ?_
        rintro kk E m fy ⟨j, d, oc, od, rfl, rfl, rfl, hf1_0, hf1_1⟩
        simp only [catE, catL]
        have hgj := hgi.turn (sec := (decide (0 < ps.length))) (side := whoT late i) ((ts.getD i []).take j)
        have htj : ((ts.getD i []).take j).length ≤ 6 := by rw [List.length_take]; have := h6 i (by omega); omega
        have h6j := h6 i (by omega)
        refine Qs<|Qp<|(Ql)<|Qn<|Qs ?_
        refine e_cond rfl ?_ ?_
        · intro hc3
          have hc3 : j < (ts.getD i []).length := by have := of_decide_eq_true hc3; omega
          refine Qk<|Qs<|Qb<|Qs<|Qp ?_
          refine e_atV (hT.2 i (by omega)) (Uu 22) (Uz 3) rfl rfl (by omega) rfl ?_
          refine (QS) ?_
          refine e_loadV (hT.2 i (by omega)) seenG (Uu 3) rfl rfl (iv_at (by omega)) rfl ?_
          refine (Qa)<|Qn<|QR ⟨[], 5, [], none, none⟩<|(Qm)<|(Qm) ?_
          refine e_call3 1 50 2 [(0, _)] (by repeat (first | exact bag_nil | exact bag_lab _ | apply bag_skip rfl)) ⟨rfl, trivial⟩ rfl ⟨⟨rfl, rfl⟩, rfl⟩ (by decide) rfl rfl (Un 29) rfl rfl rfl (fun z hz => bag_off3 (G := G) (by repeat (first | exact bag_nil | exact bag_lab _ | apply bag_skip rfl)) (by decide) (by decide) (by decide) z (List.mem_append_left _ hz)) (fun hnd => say_w (G := fy) hf1_1 hgj (by omega) (whoT late i) (by omega) ((ts.getD i []).getD j 0) hnd) (fun m' => wire_room 39 _ _ _ (hgj.say _ _ _) (by simp only [maxLen]; omega) m') rfl rfl fun cs oas obs nfs hSs his => ?_
          simp only [catL]
          refine Qn<|Qp<|(Q2 1)<|(Qm)<|Qn ?_
          refine e_round (E'' := [(31, ii (j + 1))]) (M'' := [(1, (some ⟨r2, _, 50⟩)), (2, _), (50, _)]) (fz' := (fy ++ nfs)) ⟨j + 1, _, _, _, rfl, rfl, rfl, by omega, (by rw [turn_next _ _ _ (by assumption)]; exact hSs.mono in2)⟩ ⟨rfl, rfl, rfl, rfl, rfl, rfl, rfl, rfl, rfl, rfl, trivial⟩ ⟨rfl, rfl, rfl, rfl, trivial⟩ (by repeat (first | exact bag_nil | exact bag_lab _ | apply bag_skip rfl)) (by omega)
        · intro hc3
          have hc3 := of_decide_eq_false hc3
          have hz1 : j = (ts.getD i []).length := by omega
          refine Qe<|Qs<|QR ⟨[], 5, [], none, none⟩<|(Qm) ?_
          refine e_add_i (p := 20) rfl rfl rfl (by omega) ?_
          refine e_call rfl (Un 24) (tatom_fn ((20 + i : Nat) : Int)) rfl rfl ?_
          refine e_call3 1 50 2 [(0, _)] (by repeat (first | exact bag_nil | exact bag_lab _ | apply bag_skip rfl)) ⟨rfl, trivial⟩ rfl ⟨⟨rfl, rfl⟩, rfl⟩ (by decide) rfl rfl (Un 30) rfl rfl rfl (fun z hz => bag_off3 (G := G) (by repeat (first | exact bag_nil | exact bag_lab _ | apply bag_skip rfl)) (by decide) (by decide) (by decide) z (List.mem_append_left _ hz)) (fun hnd => tell_w (G := fy) hf1_1 hgj (by omega) ((20 + i : Nat) : Int) (by omega) hnd) (fun m' => wire_room 39 _ _ _ (hgj.tell (form_at (by omega))) (by simp only [maxLen]; omega) m') rfl rfl fun ct oat obt nft hSt hit => ?_
          simp only [catL]
          refine Qn<|Qp<|(Qm) ?_
          refine e_sub_in (p := 1) rfl rfl rfl (by omega) (by omega) ?_
          refine (Qa)<|Qn<|Qp<|(Q2 1)<|(Qm)<|Qn ?_
          refine e_round (E'' := [(4, ii (whoT late (i + 1))), (24, ii (i + 1))]) (M'' := [(1, (some ⟨r2, _, 50⟩)), (2, _), (50, _)]) (fz' := (fy ++ nft)) ⟨i + 1, _, _, _, rfl, rfl, rfl, by omega, (upTo_step hz1 (hSt.mono in2))⟩ ⟨(by rw [← whoT_next] <;> rfl), rfl, rfl, rfl, rfl, rfl, trivial⟩ ⟨rfl, rfl, rfl, rfl, trivial⟩ (by repeat (first | exact bag_nil | exact bag_lab _ | apply bag_skip rfl)) (by omega)
      · intro hc2
        have hc2 := of_decide_eq_false hc2
        have hz0 : i = tvs.length := by omega
        obtain ⟨w1, w2, z1, z2, rfl, g1, g2, g3, g4⟩ := hf0_1
        refine Qe<|Qs<|Qp<|(Qf 1)<|(QV 1 1) ?_
        refine e_freeze 50 [(0, _), (1, _), (2, _)] rfl rfl (by repeat (first | exact bag_nil | exact bag_lab _ | apply bag_skip rfl)) ⟨rfl, rfl, rfl, trivial⟩ rfl rfl ?_
        simp only [catL]
        refine (Qa)<|Qn<|Qr ?_
        exact ⟨_, _, (fz ++ oa.toList), rfl, .tmp rfl, (tW_end (hz0.trans htl) g1 g2 (by have := (hG.upTo h6 (sec := (decide (0 < ps.length))) (late := late) (s := ⟨[], if 0 < ps.length then earlyT p0 p1 else [], 0⟩) i (by omega)).tlen; simp only [maxLen]; omega)), (by repeat (first | exact bag_nil | exact bag_lab _ | apply bag_skip rfl))⟩
  · intro hc0
    have := of_decide_eq_false hc0; omega
end Go.Proofs.Ytfldnikepdbgkaa
namespace Go.Proofs.Ytfldnikepdbgkaa
open Go Go.RowKit
variable {G : Mem}
set_option maxHeartbeats 400000 in
theorem tell_fn (r : Nat) (es : List Ev) (w k : Nat) (hw : w < 2) (hk : k = 1 ∨ k = 2) : Fx Try.prog G [(⟨r, kst (stE es), 73⟩ : Blk)] 70 #[ptr r, ii w, ii k] (fun v l1 nw => nw = [] ∧ ∃ c', l1 = [⟨r, c', 73⟩] ∧ (v = Value.bool (!(hap es w k)) ∧ ((!(hap es w k)) = true → c' = kst (stE (es ++ [(w, k)]))))) := by
  refine fxWS (n := 22) Try.func70 rfl rfl (by simp) (argE [ptr r, ii w, ii k] 0) (argE_ok _) ?_
  refine Qs<|Qp<|(Qa)<|Qn<|Qs<|Qs<|Qp<|(Qm)<|(Qm)<|(Qm) ?_
  refine e_nilCheck rfl rfl ?_
  refine (Qf 0)<|(QB (3 * w))<|(QB (3 * w + k)) ?_
  refine e_load1 (i := 0) (Uu 4) rfl rfl rfl (arrv_get (by omega)) rfl ⟨[], trivial⟩ ?_
  refine e_as (show _ = Value.bool (hap es w k) from congrArg Value.bool (stE_key hk hw)) ?_
  refine Qn ?_
  refine e_cond rfl ?_ ?_
  · intro hc0
    refine Qs<|Qp<|(Qa)<|Qn<|Qr ?_
    exact ⟨_, _, _, rfl, .tmp rfl, (by first | exact ⟨by rw [hc0]; rfl, fun _ => kst_key hk hw⟩ | exact ⟨by rw [hc0]; rfl, fun h => by rw [hc0] at h; cases h⟩), 0, rfl⟩
  · intro hc0
    refine Qk<|Qs<|Qp<|(Qm)<|(Qm)<|(Qm) ?_
    refine e_nilCheck rfl rfl ?_
    refine (Qf 0)<|(QB (3 * w))<|(QB (3 * w + k)) ?_
    refine e_st1 (i := 0) (Uz 4) rfl rfl rfl rfl (by omega) (.inl rfl) ?_
    refine Qn<|Qs<|Qp<|(Qa)<|Qn<|Qr ?_
    exact ⟨_, _, _, rfl, .tmp rfl, (by first | exact ⟨by rw [hc0]; rfl, fun _ => kst_key hk hw⟩ | exact ⟨by rw [hc0]; rfl, fun h => by rw [hc0] at h; cases h⟩), 0, rfl⟩
set_option maxHeartbeats 400000 in
theorem letters_fn (t : Nat) : Fn Try.prog G 81 #[ii t] (.agg (arr .i64 2 (ltr t))) := by
  refine Qf1 Try.func81 ?_
  refine Qs<|Qp<|(QH 0) fun r1=>Qn<|Qs<|Qs<|Qp<|(Qm)<|Qn<|Qb<|Qs<|Qp<|(Qc)<|(Qa)<|Qn ?_
  refine e_cond rfl ?_ ?_
  · intro hc0
    obtain rfl : t = 3 := by have := of_decide_eq_true hc0; omega
    refine Qs<|Qp ?_
    refine e_build (arr .i64 2 (ltr 3)) (Ub 93 rfl) (Uu 93 rfl) (Uz 3 rfl) rfl (by kernel_rfl) rfl ?_
    refine (Qt 0)<|Qn<|Qr ?_
    first | (rw [show ltr t = ltr 6 by funext j; unfold ltr; rw [if_neg hn0, if_neg hn1, if_neg hn2]; rfl]) | skip
    exact ⟨_, rfl, .cell (i := 0) rfl rfl (Uu 93) rfl (Uz 93) (arr_size _ _ _)⟩
  · intro hc0
    have hn0 : ¬ t = 3 := by have := of_decide_eq_false hc0; omega
    refine Qs<|Qp<|(Qc)<|(Qa)<|Qn ?_
    refine e_cond rfl ?_ ?_
    · intro hc1
      obtain rfl : t = 4 := by have := of_decide_eq_true hc1; omega
      refine Qs<|Qp ?_
      refine e_build (arr .i64 2 (ltr 4)) (Ub 93 rfl) (Uu 93 rfl) (Uz 3 rfl) rfl (by kernel_rfl) rfl ?_
      refine (Qt 0)<|Qn<|Qr ?_
      first | (rw [show ltr t = ltr 6 by funext j; unfold ltr; rw [if_neg hn0, if_neg hn1, if_neg hn2]; rfl]) | skip
      exact ⟨_, rfl, .cell (i := 0) rfl rfl (Uu 93) rfl (Uz 93) (arr_size _ _ _)⟩
    · intro hc1
      have hn1 : ¬ t = 4 := by have := of_decide_eq_false hc1; omega
      refine Qs<|Qp<|(Qc)<|(Qa)<|Qn ?_
      refine e_cond rfl ?_ ?_
      · intro hc2
        obtain rfl : t = 5 := by have := of_decide_eq_true hc2; omega
        refine Qs<|Qp ?_
        refine e_build (arr .i64 2 (ltr 5)) (Ub 93 rfl) (Uu 93 rfl) (Uz 3 rfl) rfl (by kernel_rfl) rfl ?_
        refine (Qt 0)<|Qn<|Qr ?_
        first | (rw [show ltr t = ltr 6 by funext j; unfold ltr; rw [if_neg hn0, if_neg hn1, if_neg hn2]; rfl]) | skip
        exact ⟨_, rfl, .cell (i := 0) rfl rfl (Uu 93) rfl (Uz 93) (arr_size _ _ _)⟩
      · intro hc2
        have hn2 : ¬ t = 5 := by have := of_decide_eq_false hc2; omega
        refine Qk<|Qs<|Qp ?_
        refine e_build (arr .i64 2 (ltr 6)) (Ub 93 rfl) (Uu 93 rfl) (Uz 3 rfl) rfl (by kernel_rfl) rfl ?_
        refine (Qt 0)<|Qn<|Qr ?_
        first | (rw [show ltr t = ltr 6 by funext j; unfold ltr; rw [if_neg hn0, if_neg hn1, if_neg hn2]; rfl]) | skip
        exact ⟨_, rfl, .cell (i := 0) rfl rfl (Uu 93) rfl (Uz 93) (arr_size _ _ _)⟩
set_option maxHeartbeats 2000000 in
theorem dlock_fn (r : Nat) (s : Nat → Bool) (w : Nat) (hw : w < 2) : Fn Try.prog ((⟨r, kst s, 73⟩ : Blk) :: G) 72 #[ptr r, ii w] (.bool (mlS s w)) := by
  have hmo : 4 ≤ mown (w : Int) ∧ mown (w : Int) ≤ 5 := by unfold mown; split <;> omega
  have hmf : 4 ≤ mfre (w : Int) ∧ mfre (w : Int) ≤ 5 := by unfold mfre; split <;> omega
  refine Qf1 Try.func72 ?_
  refine Qs<|Qp<|(Qa)<|Qn<|Qs<|Qp<|(Qa)<|(Qa)<|Qn<|Qs<|Qs<|Qp<|(Qm)<|(Qc)<|Qn ?_
  refine s_join [(0, _), (1, _), (4, _), (7, _), (8, _)] [(5, ii (mown w)), (6, ii (mfre w))] [] ⟨rfl, rfl, rfl, rfl, rfl, trivial⟩ trivial ?_ ?_
  · skip
    refine e_cond rfl ?_ ?_
    · intro hc0
      have hc0 := of_decide_eq_true hc0
      refine Qp<|(Qm)<|(Qm)<|(Qa)<|(Qa)<|Qn ?_
      exact ⟨⟨rfl, rfl, rfl, rfl, rfl, trivial⟩, ⟨(by first | rw [mown, if_pos (by assumption)]; rfl | rw [mown, if_neg (by assumption)]; rfl), (by first | rw [mfre, if_pos (by assumption)]; rfl | rw [mfre, if_neg (by assumption)]; rfl), trivial⟩, trivial⟩
    · intro hc0
      have hc0 := of_decide_eq_false hc0
      refine Qk ?_
      exact ⟨⟨rfl, rfl, rfl, rfl, rfl, trivial⟩, ⟨(by first | rw [mown, if_pos (by assumption)]; rfl | rw [mown, if_neg (by assumption)]; rfl), (by first | rw [mfre, if_pos (by assumption)]; rfl | rw [mfre, if_neg (by assumption)]; rfl), trivial⟩, trivial⟩
  · simp only [catE]
    refine Qs<|Qs<|Qp ?_
    refine e_join [(0, _), (1, _), (4, _), (5, _), (6, _), (7, _), (8, _)] [(25, .bool (s 13 && !(s (3 * w + 1))))] [] ⟨rfl, rfl, rfl, rfl, rfl, rfl, rfl, trivial⟩ trivial ?_ ?_
    · skip
      refine (Qm) ?_
      refine e_nilCheck rfl rfl ?_
      refine (Qf 6)<|(QA 13 7) ?_
      refine e_load1g (i := 0) (Uu 4) rfl rfl rfl (arrv_get (by decide)) rfl ?_
      refine e_as (show _ = Value.bool (s 13) from rfl) ?_
      refine (Qm) ?_
      refine e_case (fun hb0 => ?_) (fun hb0 => ?_)
      · skip
        refine (Qy)<|(Qm)<|(Qy)<|(Qm)<|(Qy) ?_
        refine e_nilCheck rfl rfl ?_
        refine (Qy)<|(Qf 0)<|(Qy)<|(QB (3 * w))<|(Qy)<|(QA (3 * w + 1) 1)<|(Qy) ?_
        refine e_load1g (i := 0) (Uu 4) rfl rfl rfl (arrv_get (by omega)) rfl ?_
        refine e_as (show _ = Value.bool (s (3 * w + 1)) from rfl) ?_
        refine (Qy)<|(Q0)<|(QT)<|Qn ?_
        exact ⟨⟨rfl, rfl, rfl, rfl, rfl, rfl, rfl, trivial⟩, ⟨bool_fin (by rw [hb0] <;> rfl), trivial⟩, trivial⟩
      · skip
        refine (Qo)<|(Qo)<|(Qo)<|(Qo)<|(Qo)<|(Qo)<|(Qo)<|(Qo)<|(QF)<|Qn ?_
        exact ⟨⟨rfl, rfl, rfl, rfl, rfl, rfl, rfl, trivial⟩, ⟨bool_fin (by rw [hb0] <;> rfl), trivial⟩, trivial⟩
    · simp only [catE]
      refine e_cond rfl ?_ ?_
      · intro hc1
        rw [show mlS s w = false by rw [mlS, hc1]; rfl]
        refine Qs<|Qp<|(Qa)<|Qn<|Qr ?_
        exact ⟨_, rfl, .tmp rfl⟩
      · intro hc1
        have hz1 := hc1
        refine Qk<|Qs<|Qs<|Qp ?_
        refine e_join [(0, _), (1, _), (4, _), (5, _), (6, _), (7, _), (8, _), (25, _)] [(39, .bool (s (6 + mown w) && !(s 9)))] [] ⟨rfl, rfl, rfl, rfl, rfl, rfl, rfl, rfl, trivial⟩ trivial ?_ ?_
        · skip
          refine (Qm)<|(Qm) ?_
          refine e_nilCheck rfl rfl ?_
          refine (Qf 6)<|(QB (6 + mown w)) ?_
          refine e_load1g (i := 0) (Uu 4) rfl rfl rfl (arrv_get (by omega)) rfl ?_
          refine e_as (show _ = Value.bool (s (6 + mown w)) from rfl) ?_
          refine (Qm) ?_
          refine e_case (fun hb1 => ?_) (fun hb1 => ?_)
          · skip
            refine (Qy)<|(Qm)<|(Qy) ?_
            refine e_nilCheck rfl rfl ?_
            refine (Qy)<|(Qf 6)<|(Qy)<|(QA 9 3)<|(Qy) ?_
            refine e_load1g (i := 0) (Uu 4) rfl rfl rfl (arrv_get (by decide)) rfl ?_
            refine e_as (show _ = Value.bool (s 9) from rfl) ?_
            refine (Qy)<|(Q0)<|(QT)<|Qn ?_
            exact ⟨⟨rfl, rfl, rfl, rfl, rfl, rfl, rfl, rfl, trivial⟩, ⟨bool_fin (by rw [hb1] <;> rfl), trivial⟩, trivial⟩
          · skip
            refine (Qo)<|(Qo)<|(Qo)<|(Qo)<|(Qo)<|(Qo)<|(QF)<|Qn ?_
            exact ⟨⟨rfl, rfl, rfl, rfl, rfl, rfl, rfl, rfl, trivial⟩, ⟨bool_fin (by rw [hb1] <;> rfl), trivial⟩, trivial⟩
        · simp only [catE]
          refine e_cond rfl ?_ ?_
          · intro hc2
            rw [show mlS s w = false by rw [mlS, hz1, hc2]; rfl]
            refine Qs<|Qp<|(Qa)<|Qn<|Qr ?_
            exact ⟨_, rfl, .tmp rfl⟩
          · intro hc2
            rw [show mlS s w = (!(s 12) || s (6 + mfre w)) by rw [mlS, hz1, hc2]; rfl]
            refine Qk<|Qs<|Qp ?_
            refine e_join [(0, _), (1, _), (5, _), (6, _), (7, _), (8, _), (25, _), (39, _)] [(4, .bool (!(s 12) || s (6 + mfre w)))] [] ⟨rfl, rfl, rfl, rfl, rfl, rfl, rfl, rfl, trivial⟩ trivial ?_ ?_
            · skip
              refine (Qm) ?_
              refine e_nilCheck rfl rfl ?_
              refine (Qf 6)<|(QA 12 6) ?_
              refine e_load1g (i := 0) (Uu 4) rfl rfl rfl (arrv_get (by decide)) rfl ?_
              refine e_as (show _ = Value.bool (s 12) from rfl) ?_
              refine (Q0)<|(Qm) ?_
              refine e_case (fun hb2 => ?_) (fun hb2 => ?_)
              · skip
                refine (Qo)<|(Qo)<|(Qo)<|(Qo)<|(Qo)<|(Qo)<|(QT)<|(Qa)<|Qn ?_
                exact ⟨⟨rfl, rfl, rfl, rfl, rfl, rfl, rfl, rfl, trivial⟩, ⟨bool_fin (by rw [hb2] <;> rfl), trivial⟩, trivial⟩
              · skip
                refine (Qy)<|(Qm)<|(Qy)<|(Qm)<|(Qy) ?_
                refine e_nilCheck rfl rfl ?_
                refine (Qy)<|(Qf 6)<|(Qy)<|(QB (6 + mfre w))<|(Qy) ?_
                refine e_load1g (i := 0) (Uu 4) rfl rfl rfl (arrv_get (by omega)) rfl ?_
                refine e_as (show _ = Value.bool (s (6 + mfre w)) from rfl) ?_
                refine (QF)<|(Qa)<|Qn ?_
                exact ⟨⟨rfl, rfl, rfl, rfl, rfl, rfl, rfl, rfl, trivial⟩, ⟨bool_fin (by rw [hb2] <;> rfl), trivial⟩, trivial⟩
            · simp only [catE]
              refine Qr ?_
              exact ⟨_, rfl, .tmp rfl⟩
set_option maxHeartbeats 2000000 in
theorem chkl_fn (v : Value) (vs : List Value) (ls : List (List Int)) (hv : Shows G 1 v vs.length vs) (hL : ShowsLI G vs ls) (hn : vs.length ≤ 1000000) : Fn Try.prog G 26 #[v] (ii (first1 ls)) := by
  have hvl := hL.1
  refine Qf1 Try.func26 ?_
  refine Qs<|Qp<|(Qa)<|Qn<|Qs<|Qs<|Qp<|(Qm)<|(QC hv)<|(Qm)<|Qn<|Qb ?_
  refine QzK [(7, _), (8, _)] [] (fun kk E m => ∃ (i : Nat), kk = vs.length - i ∧ E = [(9, ii i)] ∧ m = [] ∧ (i ≤ vs.length) ∧ (∀ q, q < i → (ls.getD q []).length ≤ 6 ∧ (ls.getD q []).any wrong = false)) ⟨0, rfl, rfl, rfl, by omega, fun _ h => absurd h (Nat.not_lt_zero _)⟩ ⟨rfl, rfl, rfl, trivial⟩ trivial ?_
  rintro kk E m ⟨i, rfl, rfl, rfl, hf0_0, hf0_1⟩
  simp only [catE, catL]
  refine Qs<|Qp<|(Ql)<|Qn<|Qs ?_
  refine e_cond rfl ?_ ?_
  · intro hc0
    have hc0 : i < vs.length := by have := of_decide_eq_true hc0; omega
    refine Qk<|Qs<|Qb<|Qs<|Qp ?_
    refine e_atV hv (Uu 24) (Uz 22) rfl rfl (by omega) rfl ?_
    refine (QS) ?_
    refine e_loadV hv seenG (Uu 22) rfl rfl (get_getD (by omega)) rfl ?_
    refine (Qa)<|Qn<|Qs<|Qs<|Qp<|(Qm)<|(QC (hL.2 i (by omega)))<|(QG)<|Qn ?_
    refine e_cond rfl ?_ ?_
    · intro hc1
      have hc1 := of_decide_eq_true hc1
      rw [first1_at (by omega) hf0_1, first1, if_pos (by omega)]
      refine Qs<|Qp<|(Qa)<|Qn<|Qr ?_
      first | rw [first1_none (fun q hq => hf0_1 q (by omega))] | skip
      exact ⟨_, rfl, .tmp rfl⟩
    · intro hc1
      have hc1 := of_decide_eq_false hc1
      refine Qk<|Qs<|Qp<|(Qm)<|(QC (hL.2 i (by omega)))<|(Qm)<|Qn<|Qb ?_
      refine QzK [(7, _), (8, _), (9, _), (16, _), (17, _)] [] (fun kk E m => ∃ (j : Nat), kk = (ls.getD i []).length - j ∧ E = [(18, ii j)] ∧ m = [] ∧ (j ≤ (ls.getD i []).length) ∧ (∀ p, p < j → wrong ((ls.getD i []).getD p 0) = false)) ⟨0, rfl, rfl, rfl, by omega, fun _ h => absurd h (Nat.not_lt_zero _)⟩ ⟨rfl, rfl, rfl, rfl, rfl, rfl, trivial⟩ trivial ?_
      rintro kk E m ⟨j, rfl, rfl, rfl, hf1_0, hf1_1⟩
      simp only [catE, catL]
      refine Qs<|Qp<|(Ql)<|Qn<|Qs ?_
      refine e_cond rfl ?_ ?_
      · intro hc2
        have hc2 : j < (ls.getD i []).length := by have := of_decide_eq_true hc2; omega
        refine Qk<|Qs<|Qb<|Qs<|Qp ?_
        refine e_atV (hL.2 i (by omega)) (Uu 22) (Uz 3) rfl rfl (by omega) rfl ?_
        refine (QS) ?_
        refine e_loadV (hL.2 i (by omega)) seenG (Uu 3) rfl rfl (iv_at (by omega)) rfl ?_
        refine (Qa)<|Qn<|Qs<|Qp ?_
        refine e_join [(6, _), (7, _), (8, _), (9, _), (16, _), (17, _), (18, _), (19, _), (20, _), (21, _)] [(27, .bool (wrong ((ls.getD i []).getD j 0)))] [] ⟨rfl, rfl, rfl, rfl, rfl, rfl, rfl, rfl, rfl, rfl, trivial⟩ trivial ?_ ?_
        · skip
          refine (Qm)<|(Ql)<|(Qm) ?_
          refine e_case (b := decide ((ls.getD i []).getD j 0 < 1)) (fun hb0 => ?_) (fun hb0 => ?_)
          · skip
            refine (Qo)<|(Qo)<|(QT)<|Qn ?_
            exact ⟨⟨rfl, rfl, rfl, rfl, rfl, rfl, rfl, rfl, rfl, rfl, trivial⟩, ⟨bool_fin (by rw [wrong, hb0] <;> rfl), trivial⟩, trivial⟩
          · skip
            refine (Qy)<|(Qm)<|(Qy)<|(QG)<|(QF)<|Qn ?_
            exact ⟨⟨rfl, rfl, rfl, rfl, rfl, rfl, rfl, rfl, rfl, rfl, trivial⟩, ⟨bool_fin (by rw [wrong, hb0] <;> rfl), trivial⟩, trivial⟩
        · simp only [catE]
          refine e_cond rfl ?_ ?_
          · intro hc3
            rw [first1_at (by omega) hf0_1, first1, if_neg (by omega), any_at (by omega) hc3, if_pos rfl]
            refine Qs<|Qp<|(Qa)<|Qn<|Qr ?_
            first | rw [first1_none (fun q hq => hf0_1 q (by omega))] | skip
            exact ⟨_, rfl, .tmp rfl⟩
          · intro hc3
            have hcf := hc3
            refine Qk<|Qp<|(Q2 1)<|(Qm)<|Qn ?_
            refine QzL ⟨j + 1, rfl, rfl, rfl, by omega, fun p h => by by_cases e : p = j; (subst e; exact hcf); exact hf1_1 p (by omega)⟩ ⟨rfl, rfl, rfl, rfl, rfl, rfl, trivial⟩ trivial ?_
            omega
      · intro hc2
        have hc2 := of_decide_eq_false hc2
        have hz1 : j = (ls.getD i []).length := by omega
        refine Qe<|Qp<|(Q2 1)<|(Qm)<|Qn ?_
        refine QzL ⟨i + 1, rfl, rfl, rfl, by omega, fun q h => by by_cases e : q = i; (subst e; exact ⟨by omega, any_none (fun p hp => hf1_1 p (by omega))⟩); exact hf0_1 q (by omega)⟩ ⟨rfl, rfl, rfl, trivial⟩ trivial ?_
        omega
  · intro hc0
    have hc0 := of_decide_eq_false hc0
    have hz0 : i = vs.length := by omega
    refine Qe<|Qs<|Qp<|(Qa)<|Qn<|Qr ?_
    first | rw [first1_none (fun q hq => hf0_1 q (by omega))] | skip
    exact ⟨_, rfl, .tmp rfl⟩
end Go.Proofs.Ytfldnikepdbgkaa
namespace Go.Proofs.Ytfldnikepdbgkaa
open Go Go.RowKit
variable {G : Mem}
set_option maxHeartbeats 4000000 in
theorem ahead_fn (r : Nat) (es : List Ev) (w : Nat) (hw : w < 2) (v : Value) (l : List Nat) (hv : Shows G 1 v l.length ((ci l).map iv)) (ht : ∀ x ∈ l, 1 ≤ x ∧ x ≤ 7) (hz : l.length ≤ 1000) : Fx Try.prog G [(⟨r, kst (stE es), 73⟩ : Blk)] 49 #[ptr r, ii w, v] (fun u l1 nw => nw = [] ∧ ∃ c', l1 = [⟨r, c', 73⟩] ∧ (u = Value.bool (okPR es w l) ∧ ((okPR es w l) = true → c' = kst (stE (es ++ rowE w l))))) := by
  refine fxWS (n := 29) Try.func49 rfl rfl (by simp) (argE [ptr r, ii w, v] 0) (argE_ok _) ?_
  refine Qs<|Qp<|(Qa)<|Qn<|Qs<|Qs<|Qp<|(Qm)<|(QC hv)<|(Qm)<|Qn<|Qb ?_
  refine QzK [(0, _), (1, _), (9, _), (10, _)] [] (fun kk E m => ∃ (j : Nat), kk = l.length - j ∧ E = [(11, ii j)] ∧ m = [(0, some ⟨r, kst (stE (es ++ (rowE w l).take j)), 73⟩)] ∧ (j ≤ l.length) ∧ (∀ t, t < j → okPre (es ++ (rowE w l).take t) (w, l.getD t 0) = true)) ⟨0, rfl, rfl, rfl, by omega, fun t ht => absurd ht (Nat.not_lt_zero t)⟩ ⟨rfl, rfl, rfl, rfl, rfl, trivial⟩ ⟨(by rw [rowE_zero] <;> rfl), trivial⟩ ?_
  rintro kk E m ⟨j, rfl, rfl, rfl, hf0_0, hf0_1⟩
  simp only [catE, catL]
  refine Qs<|Qp<|(Ql)<|Qn<|Qs ?_
  refine e_cond rfl ?_ ?_
  · intro hc0
    have hc0 : j < l.length := by have := of_decide_eq_true hc0; omega
    refine Qk<|Qs<|Qb<|Qs<|Qp ?_
    refine e_atV hv (Uu 22) (Uz 3) rfl rfl (by omega) rfl ?_
    refine (QS) ?_
    refine e_loadV hv seenG (Uu 3) rfl rfl (ci_at (by omega)) rfl ?_
    refine e_gen_i fun x hx => ?_
    refine (Qa)<|Qn ?_
    have hx9 := ht (l.getD j 0) (by rw [List.getD_eq_getElem?_getD, List.getElem?_eq_getElem (by omega)]; exact List.getElem_mem _)
    rw [← hx] at hx9
    refine Qs ?_
    rcases (by omega : x = 1 ∨ x = 2 ∨ 2 < x) with e1 | e2 | e3
    · skip
      refine QR ⟨[], 5, [], none, none⟩<|(Qm)<|(QN)<|(Qaf)<|(Qm)<|(Qo)<|(Qo)<|(QF)<|(Qm)<|(Qy)<|(Qm)<|(Qy)<|(Qm)<|(Qy)<|(Qm)<|(Qy) ?_
      refine e_callWS 0 rfl rfl (Un 70) rfl (fun _ h => by cases h) (tell_fn (G := []) r (es ++ (rowE w l).take j) w x hw (.inl e1)) ⟨_, _, rfl, fun _ => rfl⟩ rfl rfl fun v3_1 c3_1 hS3_1 => ?_
      obtain ⟨rfl, hq1⟩ := hS3_1
      refine (Qy)<|(Q0)<|(QF)<|Qn ?_
      refine e_cond rfl ?_ ?_
      · intro hc1
        have hap1 : hap (es ++ (rowE w l).take j) w x = true := by simpa using hc1
        have hbad : okPre (es ++ (rowE w l).take j) (w, l.getD j 0) = false := by rw [okPre_tok, ← hx, hap1]; simp
        have hrow := okPR_bad (show j < l.length by omega) hbad
        refine Qs<|Qp<|(Qa)<|Qn<|Qr ?_
        exact ⟨_, _, _, rfl, .tmp rfl, (by first | exact ⟨by rw [hrow], fun h => by rw [hrow] at h; cases h⟩ | (rw [hz0, rowE_all]; exact ⟨by rw [okPR_ok (fun t h => hf0_1 t (by omega))], fun _ => rfl⟩)), 0, rfl⟩
      · intro hc1
        have hap0 : hap (es ++ (rowE w l).take j) w x = false := by simpa using hc1
        have hok : okPre (es ++ (rowE w l).take j) (w, l.getD j 0) = true := by rw [okPre_tok, ← hx, hap0, decide_eq_true (by omega)]; rfl
        obtain rfl := hq1 (by rw [hap0]; rfl)
        refine Qk<|Qp<|(Q2 1)<|(Qm)<|Qn ?_
        refine QzL ⟨j + 1, rfl, rfl, rfl, by omega, fun t ht => by rcases (by omega : t < j ∨ t = j) with h | rfl; exact hf0_1 t h; exact hok⟩ ⟨rfl, rfl, rfl, rfl, rfl, trivial⟩ ⟨(by rw [rowE_next (by omega), ← hx] <;> rfl), trivial⟩ ?_
        omega
    · skip
      refine QR ⟨[], 5, [], none, none⟩<|(Qm)<|(QN)<|(Qat)<|(Qm)<|(Qy)<|(Qm)<|(Qy)<|(QN)<|(Qaf)<|(QT)<|(Qm)<|(Qy)<|(Qm)<|(Qy)<|(Qm)<|(Qy)<|(Qm)<|(Qy) ?_
      refine e_callWS 0 rfl rfl (Un 70) rfl (fun _ h => by cases h) (tell_fn (G := []) r (es ++ (rowE w l).take j) w x hw (.inr e2)) ⟨_, _, rfl, fun _ => rfl⟩ rfl rfl fun v3_1 c3_1 hS3_1 => ?_
      obtain ⟨rfl, hq1⟩ := hS3_1
      refine (Qy)<|(Q0)<|(QF)<|Qn ?_
      refine e_cond rfl ?_ ?_
      · intro hc1
        have hap1 : hap (es ++ (rowE w l).take j) w x = true := by simpa using hc1
        have hbad : okPre (es ++ (rowE w l).take j) (w, l.getD j 0) = false := by rw [okPre_tok, ← hx, hap1]; simp
        have hrow := okPR_bad (show j < l.length by omega) hbad
        refine Qs<|Qp<|(Qa)<|Qn<|Qr ?_
        exact ⟨_, _, _, rfl, .tmp rfl, (by first | exact ⟨by rw [hrow], fun h => by rw [hrow] at h; cases h⟩ | (rw [hz0, rowE_all]; exact ⟨by rw [okPR_ok (fun t h => hf0_1 t (by omega))], fun _ => rfl⟩)), 0, rfl⟩
      · intro hc1
        have hap0 : hap (es ++ (rowE w l).take j) w x = false := by simpa using hc1
        have hok : okPre (es ++ (rowE w l).take j) (w, l.getD j 0) = true := by rw [okPre_tok, ← hx, hap0, decide_eq_true (by omega)]; rfl
        obtain rfl := hq1 (by rw [hap0]; rfl)
        refine Qk<|Qp<|(Q2 1)<|(Qm)<|Qn ?_
        refine QzL ⟨j + 1, rfl, rfl, rfl, by omega, fun t ht => by rcases (by omega : t < j ∨ t = j) with h | rfl; exact hf0_1 t h; exact hok⟩ ⟨rfl, rfl, rfl, rfl, rfl, trivial⟩ ⟨(by rw [rowE_next (by omega), ← hx] <;> rfl), trivial⟩ ?_
        omega
    · skip
      refine Qp<|(Qm)<|(QN)<|(Qat)<|(Qm)<|(Qy)<|(Qm)<|(Qy)<|(QN)<|(Qat)<|(QT)<|(Qm)<|(Qo)<|(Qo)<|(Qo)<|(Qo)<|(Qo)<|(QT)<|Qn<|(Qct) ?_
      have hbad : okPre (es ++ (rowE w l).take j) (w, l.getD j 0) = false := by rw [okPre_tok, ← hx, decide_eq_false (by omega)]; rfl
      have hrow := okPR_bad (show j < l.length by omega) hbad
      refine Qs<|Qp<|(Qa)<|Qn<|Qr ?_
      exact ⟨_, _, _, rfl, .tmp rfl, (by first | exact ⟨by rw [hrow], fun h => by rw [hrow] at h; cases h⟩ | (rw [hz0, rowE_all]; exact ⟨by rw [okPR_ok (fun t h => hf0_1 t (by omega))], fun _ => rfl⟩)), 0, rfl⟩
  · intro hc0
    have hc0 := of_decide_eq_false hc0
    have hz0 : j = l.length := by omega
    refine Qe<|Qs<|Qp<|(Qa)<|Qn<|Qr ?_
    exact ⟨_, _, _, rfl, .tmp rfl, (by first | exact ⟨by rw [hrow], fun h => by rw [hrow] at h; cases h⟩ | (rw [hz0, rowE_all]; exact ⟨by rw [okPR_ok (fun t h => hf0_1 t (by omega))], fun _ => rfl⟩)), 0, rfl⟩
end Go.Proofs.Ytfldnikepdbgkaa
namespace Go.Proofs.Ytfldnikepdbgkaa
open Go Go.RowKit
variable {G : Mem}
set_option maxHeartbeats 2000000 in
theorem pmix_fn (r : Nat) (es : List Ev) (w t : Nat) (h3 : 3 ≤ t) (h6 : t ≤ 6) : Fx Try.prog G [(⟨r, kst (stE es), 73⟩ : Blk)] 80 #[ptr r, ii t] (fun v l1 nw => nw = [] ∧ ∃ c', l1 = [⟨r, c', 73⟩] ∧ (v = Value.bool (okT es w t) ∧ ((okT es w t) = true → c' = kst (stE (es ++ [(w, t)]))))) := by
  have hl0 := ltr_in t 0
  have hl1 := ltr_in t 1
  have hmb := mixB_stE (es := es) (w := w) h3 h6
  refine fxWS (n := 41) Try.func80 rfl rfl (by simp) (argE [ptr r, ii t] 0) (argE_ok _) ?_
  refine Qs<|Qp<|(Qa)<|Qn<|Qs<|Qp<|(Qm) ?_
  refine e_call rfl (Un 81) (letters_fn t) rfl rfl ?_
  refine (QH 1) fun r2=>(Qt 1)<|Qn<|Qs<|Qs<|(Qg) ?_
  refine e_join [(0, _), (1, _), (4, _), (5, _), (6, _), (7, _)] [(35, .bool (mixB (stE es) t))] [(0, some _), (1, some _)] ⟨rfl, rfl, rfl, rfl, rfl, rfl, trivial⟩ ⟨rfl, rfl, trivial⟩ ?_ ?_
  · skip
    refine (Qm)<|(Qm) ?_
    refine e_nilCheck rfl rfl ?_
    refine (Qf 6)<|(QB (6 + t)) ?_
    refine e_load1 (i := 0) (Uu 4) rfl rfl rfl (arrv_get (by omega)) rfl ⟨[], trivial⟩ ?_
    refine e_as (show _ = Value.bool (stE es (6 + t)) from rfl) ?_
    refine (Qm) ?_
    refine e_case (fun hb0 => ?_) (fun hb0 => ?_)
    · skip
      refine (Qo)<|(Qo)<|(Qo)<|(Qo)<|(Qo)<|(Qo)<|(Qo)<|(Qo)<|(Qo)<|(QT)<|(Qm)<|(Qo)<|(Qo)<|(Qo)<|(Qo)<|(Qo)<|(Qo)<|(Qo)<|(Qo)<|(Qo)<|(QT)<|Qn ?_
      exact ⟨⟨rfl, rfl, rfl, rfl, rfl, rfl, trivial⟩, ⟨bool_fin (by rw [mixB, hb0] <;> rfl), trivial⟩, ⟨rfl, rfl, trivial⟩⟩
    · skip
      refine (Qy)<|(Qm)<|(Qy)<|(Qj 0)<|(Qy)<|(Q1 1)<|(Qy) ?_
      refine e_nilCheck rfl rfl ?_
      refine (Qy)<|(Qf 0)<|(Qy)<|(QA 0 0)<|(Qy)<|(Qi)<|(Qy) ?_
      refine e_load1 (i := 0) (Uu 4) rfl rfl rfl (arrv_get (by omega)) rfl ⟨[], trivial⟩ ?_
      refine e_as (show _ = Value.bool (stE es (ltr t 0)) by first | rfl | (rw [Nat.zero_add])) ?_
      refine (Qy)<|(Q0)<|(QF)<|(Qm) ?_
      refine e_case (fun hb1 => ?_) (fun hb1 => ?_)
      · skip
        refine (Qo)<|(Qo)<|(Qo)<|(Qo)<|(Qo)<|(Qo)<|(Qo)<|(Qo)<|(Qo)<|(QT)<|Qn ?_
        exact ⟨⟨rfl, rfl, rfl, rfl, rfl, rfl, trivial⟩, ⟨bool_fin (by rw [mixB, hb0, hb1] <;> rfl), trivial⟩, ⟨rfl, rfl, trivial⟩⟩
      · skip
        refine (Qy)<|(Qm)<|(Qy)<|(Qj 1)<|(Qy)<|(Q1 1)<|(Qy) ?_
        refine e_nilCheck rfl rfl ?_
        refine (Qy)<|(Qf 0)<|(Qy)<|(QA 3 1)<|(Qy)<|(QB (3 + ltr t 1))<|(Qy) ?_
        refine e_load1 (i := 0) (Uu 4) rfl rfl rfl (arrv_get (by omega)) rfl ⟨[], trivial⟩ ?_
        refine e_as (show _ = Value.bool (stE es (3 + ltr t 1)) from rfl) ?_
        refine (Qy)<|(Q0)<|(QF)<|Qn ?_
        exact ⟨⟨rfl, rfl, rfl, rfl, rfl, rfl, trivial⟩, ⟨bool_fin (by rw [mixB, hb0, hb1] <;> rfl), trivial⟩, ⟨rfl, rfl, trivial⟩⟩
  · simp only [catE]
    refine e_cond rfl ?_ ?_
    · intro hc0
      have hno : okT es w t = false := by rw [hc0] at hmb; simpa using hmb
      refine Qs<|Qp<|(Qa)<|Qn<|Qr ?_
      exact ⟨_, _, _, rfl, .tmp rfl, (by first | exact ⟨by rw [hno], fun _ => kst_tok h3 (by omega)⟩ | exact ⟨by rw [hno], fun h => by rw [hno] at h; cases h⟩), 0, rfl⟩
    · intro hc0
      have hno : okT es w t = true := by rw [hc0] at hmb; simpa using hmb
      refine Qk<|Qs<|Qp<|(Qm)<|(Qm) ?_
      refine e_nilCheck rfl rfl ?_
      refine (Qf 6)<|(QB (6 + t)) ?_
      refine e_st1 (i := 0) (Uz 4) rfl rfl rfl rfl (by omega) (.inl rfl) ?_
      refine Qn<|Qs<|Qp<|(Qa)<|Qn<|Qr ?_
      exact ⟨_, _, _, rfl, .tmp rfl, (by first | exact ⟨by rw [hno], fun _ => kst_tok h3 (by omega)⟩ | exact ⟨by rw [hno], fun h => by rw [hno] at h; cases h⟩), 0, rfl⟩
end Go.Proofs.Ytfldnikepdbgkaa
namespace Go.Proofs.Ytfldnikepdbgkaa
open Go Go.RowKit
variable {G : Mem}
set_option maxHeartbeats 2000000 in
theorem say_fn (r : Nat) (es : List Ev) (w x : Nat) (hw : w < 2) (h1 : 1 ≤ x) (h7 : x ≤ 7) : Fx Try.prog G [(⟨r, kst (stE es), 73⟩ : Blk)] 71 #[ptr r, ii w, ii x] (fun v l1 nw => nw = [] ∧ ∃ c', l1 = [⟨r, c', 73⟩] ∧ (v = Value.bool (okT es w x) ∧ ((okT es w x) = true → c' = kst (stE (es ++ [(w, x)]))))) := by
  refine fxWS (n := 35) Try.func71 rfl rfl (by simp) (argE [ptr r, ii w, ii x] 0) (argE_ok _) ?_
  refine Qs<|Qp<|(Qa)<|Qn<|Qs<|Qs<|Qp<|(Qm)<|Qn<|Qb<|Qs<|Qp<|(Qc)<|(Qa)<|Qn ?_
  refine e_cond rfl ?_ ?_
  · intro hc0
    obtain rfl : x = 1 := by have := of_decide_eq_true hc0; omega
    refine Qs<|QR ⟨[], 5, [], none, none⟩<|(Qm)<|(Qm)<|(Qm) ?_
    refine e_callWS 0 rfl rfl (Un 70) rfl (fun _ h => by cases h) (tell_fn (G := []) r es w 1 hw (.inl rfl)) ⟨_, _, rfl, fun _ => rfl⟩ rfl rfl fun v2_1 c2_1 hS2_1 => ?_
    obtain ⟨rfl, hq1⟩ := hS2_1
    refine (Qa)<|Qn<|Qr ?_
    exact ⟨_, _, _, rfl, .tmp rfl, (by first | exact ⟨by rw [okT_one]; rfl, fun h => hq1 (by rw [okT_one] at h; exact h)⟩ | exact ⟨by rw [okT_two hw, hml]; rfl, fun h => hq2 (by rw [okT_two hw, hml] at h; exact h)⟩ | exact ⟨by rw [okT_two hw, hml]; rfl, fun h => by rw [okT_two hw, hml] at h; cases h⟩ | exact ⟨rfl, fun _ => kst_tok (by decide) (by decide)⟩ | exact ⟨rfl, hq4⟩), 0, rfl⟩
  · intro hc0
    have hx1 : ¬ x = 1 := by have := of_decide_eq_false hc0; omega
    refine Qs<|Qp<|(Qc)<|(Qa)<|Qn ?_
    refine e_cond rfl ?_ ?_
    · intro hc1
      obtain rfl : x = 2 := by have := of_decide_eq_true hc1; omega
      refine Qs ?_
      cases hml : mlS (stE es) w
      · skip
        refine Qp<|(Qm)<|(Qm) ?_
        refine e_callV [_] rfl rfl (Un 72) ⟨⟨0, rfl⟩, trivial⟩ (dlock_fn (G := []) r (stE es) w hw) rfl rfl rfl ?_
        refine e_as (congrArg Value.bool hml) ?_
        refine (Qm)<|(Qo)<|(Qo)<|(Qo)<|(Qo)<|(QF)<|(Qa)<|Qn<|Qr ?_
        exact ⟨_, _, _, rfl, .tmp rfl, (by first | exact ⟨by rw [okT_one]; rfl, fun h => hq1 (by rw [okT_one] at h; exact h)⟩ | exact ⟨by rw [okT_two hw, hml]; rfl, fun h => hq2 (by rw [okT_two hw, hml] at h; exact h)⟩ | exact ⟨by rw [okT_two hw, hml]; rfl, fun h => by rw [okT_two hw, hml] at h; cases h⟩ | exact ⟨rfl, fun _ => kst_tok (by decide) (by decide)⟩ | exact ⟨rfl, hq4⟩), 0, rfl⟩
      · skip
        refine QR ⟨[], 5, [], none, none⟩<|(Qm)<|(Qm) ?_
        refine e_callV [_] rfl rfl (Un 72) ⟨⟨0, rfl⟩, trivial⟩ (dlock_fn (G := []) r (stE es) w hw) rfl rfl rfl ?_
        refine e_as (congrArg Value.bool hml) ?_
        refine (Qm)<|(Qy)<|(Qm)<|(Qy)<|(Qm)<|(Qy)<|(Qm)<|(Qy) ?_
        refine e_callWS 0 rfl rfl (Un 70) rfl (fun _ h => by cases h) (tell_fn (G := []) r es w 2 hw (.inr rfl)) ⟨_, _, rfl, fun _ => rfl⟩ rfl rfl fun v4_1 c4_1 hS4_1 => ?_
        obtain ⟨rfl, hq2⟩ := hS4_1
        refine (QT)<|(Qa)<|Qn<|Qr ?_
        exact ⟨_, _, _, rfl, .tmp rfl, (by first | exact ⟨by rw [okT_one]; rfl, fun h => hq1 (by rw [okT_one] at h; exact h)⟩ | exact ⟨by rw [okT_two hw, hml]; rfl, fun h => hq2 (by rw [okT_two hw, hml] at h; exact h)⟩ | exact ⟨by rw [okT_two hw, hml]; rfl, fun h => by rw [okT_two hw, hml] at h; cases h⟩ | exact ⟨rfl, fun _ => kst_tok (by decide) (by decide)⟩ | exact ⟨rfl, hq4⟩), 0, rfl⟩
    · intro hc1
      have hx2 : ¬ x = 2 := by have := of_decide_eq_false hc1; omega
      refine Qs<|Qp<|(Qc)<|(Qa)<|Qn ?_
      refine e_cond rfl ?_ ?_
      · intro hc2
        obtain rfl : x = 7 := by have := of_decide_eq_true hc2; omega
        refine Qs<|Qp<|(Qm)<|(Qm) ?_
        refine e_nilCheck rfl rfl ?_
        refine (Qf 6) ?_
        refine e_at (6 + 7) (Uu 71) (Uz 4) rfl rfl (by decide) (by omega) rfl ?_
        refine e_st1 (i := 0) (Uz 4) rfl rfl rfl rfl (by omega) (.inl rfl) ?_
        refine Qn<|Qs<|Qp<|(Qa)<|Qn<|Qr ?_
        exact ⟨_, _, _, rfl, .tmp rfl, (by first | exact ⟨by rw [okT_one]; rfl, fun h => hq1 (by rw [okT_one] at h; exact h)⟩ | exact ⟨by rw [okT_two hw, hml]; rfl, fun h => hq2 (by rw [okT_two hw, hml] at h; exact h)⟩ | exact ⟨by rw [okT_two hw, hml]; rfl, fun h => by rw [okT_two hw, hml] at h; cases h⟩ | exact ⟨rfl, fun _ => kst_tok (by decide) (by decide)⟩ | exact ⟨rfl, hq4⟩), 0, rfl⟩
      · intro hc2
        have hx7 : ¬ x = 7 := by have := of_decide_eq_false hc2; omega
        refine Qk<|Qs<|QR ⟨[], 5, [], none, none⟩<|(Qm)<|(Qm) ?_
        refine e_callWS 0 rfl rfl (Un 80) rfl (fun _ h => by cases h) (pmix_fn (G := []) r es w x (by omega) (by omega)) ⟨_, _, rfl, fun _ => rfl⟩ rfl rfl fun v4_1 c4_1 hS4_1 => ?_
        obtain ⟨rfl, hq4⟩ := hS4_1
        refine (Qa)<|Qn<|Qr ?_
        exact ⟨_, _, _, rfl, .tmp rfl, (by first | exact ⟨by rw [okT_one]; rfl, fun h => hq1 (by rw [okT_one] at h; exact h)⟩ | exact ⟨by rw [okT_two hw, hml]; rfl, fun h => hq2 (by rw [okT_two hw, hml] at h; exact h)⟩ | exact ⟨by rw [okT_two hw, hml]; rfl, fun h => by rw [okT_two hw, hml] at h; cases h⟩ | exact ⟨rfl, fun _ => kst_tok (by decide) (by decide)⟩ | exact ⟨rfl, hq4⟩), 0, rfl⟩
end Go.Proofs.Ytfldnikepdbgkaa
namespace Go.Proofs.Ytfldnikepdbgkaa
open Go Go.RowKit
variable {G : Mem}
set_option maxHeartbeats 4000000 in
theorem turn_fn (r : Nat) (es : List Ev) (w : Nat) (hw : w < 2) (v : Value) (l : List Nat) (hv : Shows G 1 v l.length ((ci l).map iv)) (ht : ∀ x ∈ l, 1 ≤ x ∧ x ≤ 7) (hz : l.length ≤ 1000) : Fx Try.prog G [(⟨r, kst (stE es), 73⟩ : Blk)] 50 #[ptr r, ii w, v] (fun u l1 nw => nw = [] ∧ ∃ c', l1 = [⟨r, c', 73⟩] ∧ (u = Value.bool (okTR es w l) ∧ ((okTR es w l) = true → c' = kst (stE (es ++ rowE w (l ++ [0])))))) := by
  refine fxWS (n := 24) Try.func50 rfl rfl (by simp) (argE [ptr r, ii w, v] 0) (argE_ok _) ?_
  refine Qs<|Qp<|(Qa)<|Qn<|Qs<|Qs<|Qp<|(Qm)<|(QC hv)<|(Qm)<|Qn<|Qb ?_
  refine QzK [(0, _), (1, _), (9, _), (10, _)] [] (fun kk E m => ∃ (j : Nat), kk = l.length - j ∧ E = [(11, ii j)] ∧ m = [(0, some ⟨r, kst (stE (es ++ (rowE w l).take j)), 73⟩)] ∧ (j ≤ l.length) ∧ (∀ t, t < j → okT (es ++ (rowE w l).take t) w (l.getD t 0) = true)) ⟨0, rfl, rfl, rfl, by omega, fun t ht => absurd ht (Nat.not_lt_zero t)⟩ ⟨rfl, rfl, rfl, rfl, rfl, trivial⟩ ⟨(by rw [rowE_zero] <;> rfl), trivial⟩ ?_
  rintro kk E m ⟨j, rfl, rfl, rfl, hf0_0, hf0_1⟩
  simp only [catE, catL]
  refine Qs<|Qp<|(Ql)<|Qn<|Qs ?_
  refine e_cond rfl ?_ ?_
  · intro hc0
    have hc0 : j < l.length := by have := of_decide_eq_true hc0; omega
    refine Qk<|Qs<|Qb<|Qs<|Qp ?_
    refine e_atV hv (Uu 22) (Uz 3) rfl rfl (by omega) rfl ?_
    refine (QS) ?_
    refine e_loadV hv seenG (Uu 3) rfl rfl (ci_at (by omega)) rfl ?_
    refine e_gen_i fun x hx => ?_
    refine (Qa)<|Qn ?_
    have hx9 := ht (l.getD j 0) (by rw [List.getD_eq_getElem?_getD, List.getElem?_eq_getElem (by omega)]; exact List.getElem_mem _)
    rw [← hx] at hx9
    refine Qs<|QR ⟨[], 5, [], none, none⟩<|(Qm)<|(Qm)<|(Qm) ?_
    refine e_callWS 0 rfl rfl (Un 71) rfl (fun _ h => by cases h) (say_fn (G := []) r (es ++ (rowE w l).take j) w x hw hx9.1 hx9.2) ⟨_, _, rfl, fun _ => rfl⟩ rfl rfl fun v2_1 c2_1 hS2_1 => ?_
    obtain ⟨rfl, hq1⟩ := hS2_1
    refine (Q0)<|Qn ?_
    refine e_cond rfl ?_ ?_
    · intro hc1
      have hrow : okTR es w l = false := okTR_bad (show j < l.length by omega) (by rw [← hx]; simpa using hc1)
      refine Qs<|Qp<|(Qa)<|Qn<|Qr ?_
      exact ⟨_, _, _, rfl, .tmp rfl, (by first | exact ⟨by rw [hrow], fun h => by rw [hrow] at h; cases h⟩ | (rw [hz0, rowE_all, okTR_fin (fun t h => hf0_1 t (by omega)), okT_zero hw]; exact ⟨rfl, fun _ => kst_rowZ⟩)), 0, rfl⟩
    · intro hc1
      have hok0 : okT (es ++ (rowE w l).take j) w x = true := by simpa using hc1
      have hok : okT (es ++ (rowE w l).take j) w (l.getD j 0) = true := by rw [← hx]; exact hok0
      obtain rfl := hq1 hok0
      refine Qk<|Qp<|(Q2 1)<|(Qm)<|Qn ?_
      refine QzL ⟨j + 1, rfl, rfl, rfl, by omega, fun t ht => by rcases (by omega : t < j ∨ t = j) with h | rfl; exact hf0_1 t h; exact hok⟩ ⟨rfl, rfl, rfl, rfl, rfl, trivial⟩ ⟨(by rw [rowE_next (by omega), ← hx] <;> rfl), trivial⟩ ?_
      omega
  · intro hc0
    have hc0 := of_decide_eq_false hc0
    have hz0 : j = l.length := by omega
    refine Qe<|Qs<|Qp<|(Qm)<|(Qm) ?_
    refine e_callV [_] rfl rfl (Un 72) ⟨⟨0, rfl⟩, trivial⟩ (dlock_fn (G := []) r _ w hw) rfl rfl rfl ?_
    refine (Qa)<|Qn<|Qr ?_
    exact ⟨_, _, _, rfl, .tmp rfl, (by first | exact ⟨by rw [hrow], fun h => by rw [hrow] at h; cases h⟩ | (rw [hz0, rowE_all, okTR_fin (fun t h => hf0_1 t (by omega)), okT_zero hw]; exact ⟨rfl, fun _ => kst_rowZ⟩)), 0, rfl⟩
end Go.Proofs.Ytfldnikepdbgkaa
namespace Go.Proofs.Ytfldnikepdbgkaa
open Go Go.RowKit
variable {G : Mem}
set_option maxHeartbeats 8000000 in
theorem inform_fn (base : List Nat) (late : Bool) (vp v0 v1 vt : Value) (tvs : List Value) (q0 q1 : List Nat) (us : List (List Nat)) (hvt : Shows G 1 vt tvs.length tvs) (hLI : ShowsLI G (v0 :: v1 :: tvs) (ci q0 :: ci q1 :: us.map ci)) (htk : ∀ q ∈ q0 :: q1 :: us, q.length ≤ 6 ∧ ∀ x ∈ q, 1 ≤ x ∧ x ≤ 7) (hn5 : us.length ≤ 5) : Fn Try.prog G 27 #[.agg (cells 6 [pV (sv base), pV (.bool late), pV vp, pV v0, pV v1, pV vt])] (.bool (decide (fin3 (evL late q0 q1 us) = 0))) := by
  have hT := li_tail (li_tail hLI)
  have hv0 := li_head hLI
  have hv1 := li_head (li_tail hLI)
  have hvq := pre_shows hv0 hv1
  have htl : tvs.length = us.length := by have := hT.1; rwa [List.length_map] at this
  obtain ⟨L, hL⟩ : ∃ L, L = evL late q0 q1 us := ⟨_, rfl⟩
  have hLl : L.length = 2 + us.length := by rw [hL]; exact evL_len
  have hLa : ∀ a, a < 2 → L.getD a [] = rowE a (qq q0 q1 a) := fun a ha => by rw [hL]; exact evL_pre ha
  have hLt : ∀ i, i < us.length → L.getD (2 + i) [] = rowE (whoT late i) (us.getD i [] ++ [0]) := fun i hi => by rw [hL]; exact evL_turn hi
  rw [← hL]
  have hqt : ∀ a, (qq q0 q1 a).length ≤ 6 ∧ ∀ x ∈ qq q0 q1 a, 1 ≤ x ∧ x ≤ 7 := fun a => by unfold qq; split; exact htk q0 (by simp); exact htk q1 (by simp)
  have hut : ∀ i, i < us.length → (us.getD i []).length ≤ 6 ∧ ∀ x ∈ us.getD i [], 1 ≤ x ∧ x ≤ 7 := fun i hi => htk _ (by rw [List.getD_eq_getElem?_getD, List.getElem?_eq_getElem hi]; simp)
  refine Qf1 Try.func27 ?_
  refine Qs<|Qp<|(Qh 0) fun r1=>(Qa)<|Qn<|Qs<|Qp<|(QH 1) fun r2=>Qn<|Qs<|Qs<|Qp<|(Qf 3) ?_
  refine e_ldP (i := 0) (Uu 23) rfl (Uz 23) rfl rfl (by decide) rfl ⟨[], trivial⟩ ?_
  refine e_as (show _ = Value.agg (arrv 2 (fun t => vq v0 v1 t)) from congrArg Value.agg (arrv_congr fun j hj => by have h9 : j = 0 ∨ j = 1 := (by omega); rcases h9 with rfl | rfl <;> rfl)) ?_
  refine (Qm)<|Qn<|Qb ?_
  refine QzK [(1, _), (3, _), (10, _)] [(0, _)] (fun kk E m => ∃ (a : Nat), kk = 2 - a ∧ E = [(11, ii a)] ∧ m = [(1, some ⟨r2, kst (stE (uptoE L a 0)), 73⟩)] ∧ (a ≤ 2) ∧ (∀ s t, s < a → t < (L.getD s []).length → okAt L s t = true)) ⟨0, rfl, rfl, rfl, by omega, fun _ _ h => absurd h (Nat.not_lt_zero _)⟩ ⟨rfl, rfl, rfl, rfl, trivial⟩ ⟨(by rw [uptoE_zero, show (kst (stE []) : Array Value) = _ from arrv_congr fun j _ => by rw [stE_nil]] <;> rfl), rfl, trivial⟩ ?_
  rintro kk E m ⟨a, rfl, rfl, rfl, hf0_0, hf0_1⟩
  simp only [catE, catL]
  refine Qs<|Qp<|(Ql)<|Qn<|Qs ?_
  refine e_cond rfl ?_ ?_
  · intro hc0
    have hc0 : a < 2 := by have := of_decide_eq_true hc0; omega
    refine Qk<|Qs<|Qb<|Qs<|Qp<|(Qm) ?_
    refine e_idxP (Uu 23) (Uu 22) rfl (Uz 22) rfl rfl (by omega) rfl ?_
    refine (Qa)<|(Qa)<|Qn<|Qs<|QR ⟨[], 5, [], none, none⟩<|(Qm)<|(Qm) ?_
    refine e_callWS 1 rfl rfl (Un 49) rfl (fun z hz => .inl hz) (ahead_fn (G := G) r2 (uptoE L a 0) a (by omega) (vq v0 v1 a) (qq q0 q1 a) (hvq a (by omega)) (hqt a).2 (by have := (hqt a).1; omega)) ⟨_, _, rfl, fun _ => rfl⟩ rfl rfl fun v2_1 c2_1 hS2_1 => ?_
    obtain ⟨rfl, hq1⟩ := hS2_1
    refine (Q0)<|Qn ?_
    refine e_cond rfl ?_ ?_
    · intro hc1
      have hbad : okPR (uptoE L a 0) a (qq q0 q1 a) = false := by simpa using hc1
      rw [pre_bad (by omega) (by omega) (hLa a (by omega)) hbad]
      refine Qs<|Qp<|(Qa)<|Qn<|Qr ?_
      first | rw [fin3_ok (fun s t hs ht => by by_cases h2 : s < 2; exact hf0_1 s t (by omega) ht; (obtain ⟨s, rfl⟩ : ∃ r, s = 2 + r := ⟨s - 2, by omega⟩); exact hf1_1 s t (by omega) ht)] | skip
      exact ⟨_, rfl, .tmp rfl⟩
    · intro hc1
      have hok : okPR (uptoE L a 0) a (qq q0 q1 a) = true := by simpa using hc1
      obtain rfl := hq1 hok
      refine Qk<|Qp<|(Q2 1)<|(Qm)<|Qn ?_
      refine QzL ⟨a + 1, rfl, rfl, rfl, by omega, fun s t hs ht => by by_cases e : s = a; (subst e; exact pre_ok (by omega) (hLa s (by omega)) hok t ht); exact hf0_1 s t (by omega) ht⟩ ⟨rfl, rfl, rfl, rfl, trivial⟩ ⟨(by rw [← row_next (by omega), hLa a (by omega)] <;> rfl), rfl, trivial⟩ ?_
      omega
  · intro hc0
    have hc0 := of_decide_eq_false hc0
    have hz0 : a = 2 := by omega
    refine Qe<|Qs<|Qp<|(Qa)<|Qn<|Qs<|Qs<|Qp<|(Qf 1)<|(QV 1 0)<|Qn ?_
    refine s_join [(1, _), (3, _), (10, _), (11, _), (12, _), (20, _), (21, _)] [(6, ii (whoT late 0))] [(0, some _), (1, some ⟨r2, kst (stE (uptoE L a 0)), 73⟩)] ⟨rfl, rfl, rfl, rfl, rfl, rfl, rfl, trivial⟩ ⟨rfl, rfl, trivial⟩ ?_ ?_
    · skip
      refine e_cond rfl ?_ ?_
      · intro hc2
        have hcL := hc2
        refine Qp<|(Qa)<|Qn ?_
        exact ⟨⟨rfl, rfl, rfl, rfl, rfl, rfl, rfl, trivial⟩, ⟨(by rw [whoT, hcL] <;> rfl), trivial⟩, ⟨rfl, rfl, trivial⟩⟩
      · intro hc2
        have hcL := hc2
        refine Qk ?_
        exact ⟨⟨rfl, rfl, rfl, rfl, rfl, rfl, rfl, trivial⟩, ⟨(by rw [whoT, hcL] <;> rfl), trivial⟩, ⟨rfl, rfl, trivial⟩⟩
    · simp only [catE]
      refine Qs<|Qs<|Qp<|(Qf 5)<|(QV 5 0)<|(QC hvt)<|(Qm)<|Qn<|Qb ?_
      refine QzK [(1, _), (3, _), (10, _), (11, _), (23, _), (24, _)] [(0, _)] (fun kk E m => ∃ (i : Nat), kk = tvs.length - i ∧ E = [(6, ii (whoT late i)), (25, ii i)] ∧ m = [(1, some ⟨r2, kst (stE (uptoE L (2 + i) 0)), 73⟩)] ∧ (i ≤ tvs.length) ∧ (∀ s t, s < i → t < (L.getD (2 + s) []).length → okAt L (2 + s) t = true)) ⟨0, rfl, rfl, rfl, by omega, fun _ _ h => absurd h (Nat.not_lt_zero _)⟩ ⟨rfl, rfl, rfl, rfl, rfl, rfl, rfl, rfl, trivial⟩ ⟨(by rw [hz0] <;> rfl), rfl, trivial⟩ ?_
      rintro kk E m ⟨i, rfl, rfl, rfl, hf1_0, hf1_1⟩
      simp only [catE, catL]
      have hwl := whoT_lt late i
      refine Qs<|Qp<|(Ql)<|Qn<|Qs ?_
      refine e_cond rfl ?_ ?_
      · intro hc3
        have hc3 : i < tvs.length := by have := of_decide_eq_true hc3; omega
        refine Qk<|Qs<|Qb<|Qs<|Qp ?_
        refine e_atV hvt (Uu 24) (Uz 22) rfl rfl (by omega) rfl ?_
        refine (QS) ?_
        refine e_loadV hvt seenG (Uu 22) rfl rfl (get_getD (by omega)) rfl ?_
        refine (Qa)<|Qn<|Qs<|Qs<|QR ⟨[], 5, [], none, none⟩<|(Qm)<|(Qm) ?_
        refine e_callWS 1 rfl rfl (Un 50) rfl (fun z hz => .inl hz) (turn_fn (G := G) r2 (uptoE L (2 + i) 0) (whoT late i) hwl (tvs.getD i undef) (us.getD i []) (li_at hT (by omega)) (hut i (by omega)).2 (by have := (hut i (by omega)).1; omega)) ⟨_, _, rfl, fun _ => rfl⟩ rfl rfl fun v4_1 c4_1 hS4_1 => ?_
        obtain ⟨rfl, hq2⟩ := hS4_1
        refine (Q0)<|Qn ?_
        refine e_cond rfl ?_ ?_
        · intro hc4
          have hbad : okTR (uptoE L (2 + i) 0) (whoT late i) (us.getD i []) = false := by simpa using hc4
          rw [turn_bad (by omega) (hLt i (by omega)) hbad]
          refine Qs<|Qp<|(Qa)<|Qn<|Qr ?_
          first | rw [fin3_ok (fun s t hs ht => by by_cases h2 : s < 2; exact hf0_1 s t (by omega) ht; (obtain ⟨s, rfl⟩ : ∃ r, s = 2 + r := ⟨s - 2, by omega⟩); exact hf1_1 s t (by omega) ht)] | skip
          exact ⟨_, rfl, .tmp rfl⟩
        · intro hc4
          have hok : okTR (uptoE L (2 + i) 0) (whoT late i) (us.getD i []) = true := by simpa using hc4
          obtain rfl := hq2 hok
          refine Qk<|Qp<|(Qm) ?_
          refine e_sub_in (p := 1) rfl rfl rfl (by omega) (by omega) ?_
          refine (Qa)<|Qn<|Qp<|(Q2 1)<|(Qm)<|Qn ?_
          refine QzL ⟨i + 1, rfl, rfl, rfl, by omega, fun s t hs ht => by by_cases e : s = i; (subst e; exact turn_ok (hLt s (by omega)) hok t ht); exact hf1_1 s t (by omega) ht⟩ ⟨(by rw [← whoT_next] <;> rfl), rfl, rfl, rfl, rfl, rfl, rfl, rfl, trivial⟩ ⟨(by rw [show 2 + (i + 1) = 2 + i + 1 by omega, ← row_next (by omega), hLt i (by omega)] <;> rfl), rfl, trivial⟩ ?_
          omega
      · intro hc3
        have hc3 := of_decide_eq_false hc3
        have hz1 : i = tvs.length := by omega
        refine Qe<|Qs<|Qp<|(Qa)<|Qn<|Qr ?_
        first | rw [fin3_ok (fun s t hs ht => by by_cases h2 : s < 2; exact hf0_1 s t (by omega) ht; (obtain ⟨s, rfl⟩ : ∃ r, s = 2 + r := ⟨s - 2, by omega⟩); exact hf1_1 s t (by omega) ht)] | skip
        exact ⟨_, rfl, .tmp rfl⟩
end Go.Proofs.Ytfldnikepdbgkaa
namespace Go.Proofs.Ytfldnikepdbgkaa
open Go Go.RowKit
variable {G : Mem}
set_option maxHeartbeats 400000 in
theorem chk_size (base : List Nat) (late : Bool) (vp v0 v1 vt : Value) (tvs : List Value) (p0 p1 : List Int) (ts : List (List Int)) (hvt : Shows G 1 vt tvs.length tvs) (hLI : ShowsLI G (v0 :: v1 :: tvs) (p0 :: p1 :: ts)) (h : ts.length = 0 ∨ 5 < ts.length) : Fn Try.prog G 10 #[.agg (cells 6 [pV (sv base), pV (.bool late), pV vp, pV v0, pV v1, pV vt])] (ii 1) := by
  have hT := li_tail (li_tail hLI)
  have htl : tvs.length = ts.length := hT.1
  refine Qf1 Try.func10 ?_
  refine Qs<|Qp<|(Qh 0) fun r1=>(Qa)<|Qn<|Qs<|Qs<|Qp ?_
  refine e_join [(0, _), (1, _), (2, _)] [(14, .bool (decide ((tvs.length : Int) < 1) || decide ((5 : Int) < (tvs.length : Int))))] [(0, some _)] ⟨rfl, rfl, rfl, trivial⟩ ⟨rfl, trivial⟩ ?_ ?_
  · skip
    refine (Qf 5)<|(QV 5 0)<|(QC hvt)<|(Ql)<|(Qm) ?_
    refine e_case (fun hb0 => ?_) (fun hb0 => ?_)
    · skip
      refine (Qo)<|(Qo)<|(Qo)<|(Qo)<|(QT)<|Qn ?_
      exact ⟨⟨rfl, rfl, rfl, trivial⟩, ⟨bool_fin (by rw [hb0] <;> rfl), trivial⟩, ⟨rfl, trivial⟩⟩
    · skip
      refine (Qy)<|(Qf 5)<|(Qy)<|(QV 5 0)<|(Qy)<|(QC hvt)<|(Qy)<|(QG)<|(QF)<|Qn ?_
      exact ⟨⟨rfl, rfl, rfl, trivial⟩, ⟨bool_fin (by rw [hb0] <;> rfl), trivial⟩, ⟨rfl, trivial⟩⟩
  · simp only [catE]
    refine e_cond rfl ?_ ?_
    · intro hc0
      refine Qs<|Qp<|(Qa)<|Qn<|Qr ?_
      exact ⟨_, rfl, .tmp rfl⟩
    · intro hc0
      exact absurd hc0 (by rcases h with h | h; (rw [decide_eq_true (by omega)]; simp); (rw [decide_eq_true (p := (5 : Int) < _) (by omega)]; simp))
set_option maxHeartbeats 2000000 in
theorem chk_pre (base : List Nat) (late : Bool) (vp v0 v1 vt : Value) (tvs : List Value) (p0 p1 : List Int) (ts : List (List Int)) (hvt : Shows G 1 vt tvs.length tvs) (hLI : ShowsLI G (v0 :: v1 :: tvs) (p0 :: p1 :: ts)) (h1 : 1 ≤ ts.length) (h5 : ts.length ≤ 5) (f : Nat) (hf : first1 [p0, p1] = f) (hf0 : f ≠ 0) : Fn Try.prog G 10 #[.agg (cells 6 [pV (sv base), pV (.bool late), pV vp, pV v0, pV v1, pV vt])] (ii f) := by
  have hT := li_tail (li_tail hLI)
  have htl : tvs.length = ts.length := hT.1
  refine Qf1 Try.func10 ?_
  refine Qs<|Qp<|(Qh 0) fun r1=>(Qa)<|Qn<|Qs<|Qs<|Qp ?_
  refine e_join [(0, _), (1, _), (2, _)] [(14, .bool (decide ((tvs.length : Int) < 1) || decide ((5 : Int) < (tvs.length : Int))))] [(0, some _)] ⟨rfl, rfl, rfl, trivial⟩ ⟨rfl, trivial⟩ ?_ ?_
  · skip
    refine (Qf 5)<|(QV 5 0)<|(QC hvt)<|(Ql)<|(Qm) ?_
    refine e_case (fun hb0 => ?_) (fun hb0 => ?_)
    · skip
      refine (Qo)<|(Qo)<|(Qo)<|(Qo)<|(QT)<|Qn ?_
      exact ⟨⟨rfl, rfl, rfl, trivial⟩, ⟨bool_fin (by rw [hb0] <;> rfl), trivial⟩, ⟨rfl, trivial⟩⟩
    · skip
      refine (Qy)<|(Qf 5)<|(Qy)<|(QV 5 0)<|(Qy)<|(QC hvt)<|(Qy)<|(QG)<|(QF)<|Qn ?_
      exact ⟨⟨rfl, rfl, rfl, trivial⟩, ⟨bool_fin (by rw [hb0] <;> rfl), trivial⟩, ⟨rfl, trivial⟩⟩
  · simp only [catE]
    refine e_cond rfl ?_ ?_
    · intro hc0
      exact absurd hc0 (by rw [decide_eq_false (by omega), decide_eq_false (by omega)]; decide)
    · intro hc0
      refine Qk<|Qs<|Qs<|Qp<|(Qf 3) ?_
      refine e_sliceA 0 2 (Uu 23) (Uz 22) rfl rfl rfl rfl rfl (by omega) (by omega) (by omega) rfl ?_
      refine e_callS rfl rfl (Un 26) (seen_app (seen1 0 rfl ⟨[], trivial⟩) seenG) (chkl_fn (G := [(⟨r1, (cells 6 [pV (sv base), pV (.bool late), pV vp, pV v0, pV v1, pV vt]), 26⟩ : Blk)] ++ G) _ [v0, v1] [p0, p1] ((pre_two (r := r1) (t := 26)).mono (fun x hx => List.mem_append_left _ hx)) (li_mono (li_two hLI) (fun x hx => List.mem_append_right _ hx)) (by simp)) rfl rfl ?_
      refine e_as (congrArg ii hf) ?_
      refine (Qa)<|Qn<|Qs<|Qp<|(Qm)<|(QN)<|(Qat)<|Qn<|(Qct)<|Qs<|Qp<|(Qm)<|(Qa)<|Qn<|Qr ?_
      exact ⟨_, rfl, .tmp rfl⟩
set_option maxHeartbeats 2000000 in
theorem chk_turns (base : List Nat) (late : Bool) (vp v0 v1 vt : Value) (tvs : List Value) (p0 p1 : List Int) (ts : List (List Int)) (hvt : Shows G 1 vt tvs.length tvs) (hLI : ShowsLI G (v0 :: v1 :: tvs) (p0 :: p1 :: ts)) (h1 : 1 ≤ ts.length) (h5 : ts.length ≤ 5) (hp : first1 [p0, p1] = 0) (f : Nat) (hf : first1 ts = f) (hf0 : f ≠ 0) : Fn Try.prog G 10 #[.agg (cells 6 [pV (sv base), pV (.bool late), pV vp, pV v0, pV v1, pV vt])] (ii f) := by
  have hT := li_tail (li_tail hLI)
  have htl : tvs.length = ts.length := hT.1
  refine Qf1 Try.func10 ?_
  refine Qs<|Qp<|(Qh 0) fun r1=>(Qa)<|Qn<|Qs<|Qs<|Qp ?_
  refine e_join [(0, _), (1, _), (2, _)] [(14, .bool (decide ((tvs.length : Int) < 1) || decide ((5 : Int) < (tvs.length : Int))))] [(0, some _)] ⟨rfl, rfl, rfl, trivial⟩ ⟨rfl, trivial⟩ ?_ ?_
  · skip
    refine (Qf 5)<|(QV 5 0)<|(QC hvt)<|(Ql)<|(Qm) ?_
    refine e_case (fun hb0 => ?_) (fun hb0 => ?_)
    · skip
      refine (Qo)<|(Qo)<|(Qo)<|(Qo)<|(QT)<|Qn ?_
      exact ⟨⟨rfl, rfl, rfl, trivial⟩, ⟨bool_fin (by rw [hb0] <;> rfl), trivial⟩, ⟨rfl, trivial⟩⟩
    · skip
      refine (Qy)<|(Qf 5)<|(Qy)<|(QV 5 0)<|(Qy)<|(QC hvt)<|(Qy)<|(QG)<|(QF)<|Qn ?_
      exact ⟨⟨rfl, rfl, rfl, trivial⟩, ⟨bool_fin (by rw [hb0] <;> rfl), trivial⟩, ⟨rfl, trivial⟩⟩
  · simp only [catE]
    refine e_cond rfl ?_ ?_
    · intro hc0
      exact absurd hc0 (by rw [decide_eq_false (by omega), decide_eq_false (by omega)]; decide)
    · intro hc0
      refine Qk<|Qs<|Qs<|Qp<|(Qf 3) ?_
      refine e_sliceA 0 2 (Uu 23) (Uz 22) rfl rfl rfl rfl rfl (by omega) (by omega) (by omega) rfl ?_
      refine e_callS rfl rfl (Un 26) (seen_app (seen1 0 rfl ⟨[], trivial⟩) seenG) (chkl_fn (G := [(⟨r1, (cells 6 [pV (sv base), pV (.bool late), pV vp, pV v0, pV v1, pV vt]), 26⟩ : Blk)] ++ G) _ [v0, v1] [p0, p1] ((pre_two (r := r1) (t := 26)).mono (fun x hx => List.mem_append_left _ hx)) (li_mono (li_two hLI) (fun x hx => List.mem_append_right _ hx)) (by simp)) rfl rfl ?_
      refine e_as (congrArg ii hp) ?_
      refine (Qa)<|Qn<|Qs<|Qp<|(Qm)<|(QN) ?_
      refine e_as (congrArg Value.bool (decide_eq_false (by decide))) ?_
      refine Qn<|(Qcf)<|Qk<|Qs<|Qs<|Qp<|(Qf 5)<|(QV 5 0) ?_
      refine e_call rfl (Un 26) (chkl_fn vt tvs ts hvt hT (by omega)) rfl rfl ?_
      refine e_as (congrArg ii hf) ?_
      refine (Qa)<|Qn<|Qs<|Qp<|(Qm)<|(QN)<|(Qat)<|Qn<|(Qct)<|Qs<|Qp<|(Qm)<|(Qa)<|Qn<|Qr ?_
      exact ⟨_, rfl, .tmp rfl⟩
set_option maxHeartbeats 2000000 in
theorem chk_form (base : List Nat) (late : Bool) (vp v0 v1 vt : Value) (tvs : List Value) (p0 p1 : List Int) (ts : List (List Int)) (hvt : Shows G 1 vt tvs.length tvs) (hLI : ShowsLI G (v0 :: v1 :: tvs) (p0 :: p1 :: ts)) (h1 : 1 ≤ ts.length) (h5 : ts.length ≤ 5) (hp : first1 [p0, p1] = 0) (hf : first1 ts = 0) (f : Nat) (hf3 : f = 0 ∨ f = 3) (hF : Fn Try.prog G 27 #[.agg (cells 6 [pV (sv base), pV (.bool late), pV vp, pV v0, pV v1, pV vt])] (.bool (decide (f = 0)))) : Fn Try.prog G 10 #[.agg (cells 6 [pV (sv base), pV (.bool late), pV vp, pV v0, pV v1, pV vt])] (ii f) := by
  have hT := li_tail (li_tail hLI)
  have htl : tvs.length = ts.length := hT.1
  refine Qf1 Try.func10 ?_
  refine Qs<|Qp<|(Qh 0) fun r1=>(Qa)<|Qn<|Qs<|Qs<|Qp ?_
  refine e_join [(0, _), (1, _), (2, _)] [(14, .bool (decide ((tvs.length : Int) < 1) || decide ((5 : Int) < (tvs.length : Int))))] [(0, some _)] ⟨rfl, rfl, rfl, trivial⟩ ⟨rfl, trivial⟩ ?_ ?_
  · skip
    refine (Qf 5)<|(QV 5 0)<|(QC hvt)<|(Ql)<|(Qm) ?_
    refine e_case (fun hb0 => ?_) (fun hb0 => ?_)
    · skip
      refine (Qo)<|(Qo)<|(Qo)<|(Qo)<|(QT)<|Qn ?_
      exact ⟨⟨rfl, rfl, rfl, trivial⟩, ⟨bool_fin (by rw [hb0] <;> rfl), trivial⟩, ⟨rfl, trivial⟩⟩
    · skip
      refine (Qy)<|(Qf 5)<|(Qy)<|(QV 5 0)<|(Qy)<|(QC hvt)<|(Qy)<|(QG)<|(QF)<|Qn ?_
      exact ⟨⟨rfl, rfl, rfl, trivial⟩, ⟨bool_fin (by rw [hb0] <;> rfl), trivial⟩, ⟨rfl, trivial⟩⟩
  · simp only [catE]
    refine e_cond rfl ?_ ?_
    · intro hc0
      exact absurd hc0 (by rw [decide_eq_false (by omega), decide_eq_false (by omega)]; decide)
    · intro hc0
      refine Qk<|Qs<|Qs<|Qp<|(Qf 3) ?_
      refine e_sliceA 0 2 (Uu 23) (Uz 22) rfl rfl rfl rfl rfl (by omega) (by omega) (by omega) rfl ?_
      refine e_callS rfl rfl (Un 26) (seen_app (seen1 0 rfl ⟨[], trivial⟩) seenG) (chkl_fn (G := [(⟨r1, (cells 6 [pV (sv base), pV (.bool late), pV vp, pV v0, pV v1, pV vt]), 26⟩ : Blk)] ++ G) _ [v0, v1] [p0, p1] ((pre_two (r := r1) (t := 26)).mono (fun x hx => List.mem_append_left _ hx)) (li_mono (li_two hLI) (fun x hx => List.mem_append_right _ hx)) (by simp)) rfl rfl ?_
      refine e_as (congrArg ii hp) ?_
      refine (Qa)<|Qn<|Qs<|Qp<|(Qm)<|(QN) ?_
      refine e_as (congrArg Value.bool (decide_eq_false (by decide))) ?_
      refine Qn<|(Qcf)<|Qk<|Qs<|Qs<|Qp<|(Qf 5)<|(QV 5 0) ?_
      refine e_call rfl (Un 26) (chkl_fn vt tvs ts hvt hT (by omega)) rfl rfl ?_
      refine e_as (congrArg ii hf) ?_
      refine (Qa)<|Qn<|Qs<|Qp<|(Qm)<|(QN) ?_
      refine e_as (congrArg Value.bool (decide_eq_false (by decide))) ?_
      refine Qn<|(Qcf)<|Qk<|Qs<|Qs<|Qp<|(QD 0) ?_
      refine e_call rfl (Un 27) hF rfl rfl ?_
      refine (Q0)<|Qn ?_
      refine e_cond rfl ?_ ?_
      · intro hc3
        obtain rfl : f = 3 := by have : ¬ f = 0 := (by simpa using hc3); omega
        refine Qs<|Qp<|(Qa)<|Qn<|Qr ?_
        exact ⟨_, rfl, .tmp rfl⟩
      · intro hc3
        obtain rfl : f = 0 := by simpa using hc3
        refine Qk<|Qs<|Qp<|(Qa)<|Qn<|Qr ?_
        exact ⟨_, rfl, .tmp rfl⟩
end Go.Proofs.Ytfldnikepdbgkaa
