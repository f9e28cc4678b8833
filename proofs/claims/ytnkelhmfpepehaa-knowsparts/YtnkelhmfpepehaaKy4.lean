import Derived.Test.YtnkelhmfpepehaaKy3
namespace Go.Proofs.Ytnkelhmfpepehaa
open Go Go.RowKit
variable {G : Mem}
set_option maxHeartbeats 400000 in
theorem eqfun_rec (l q : List TT) (c c2 : Value) (xs xs2 : List Value) (hT : TL G l c xs) (hU : TL G q c2 xs2) (hrec : ∀ (t u : TT) (c c2 : Value) (ys ys2 : List Value), t ∈ l → TL G t.args c ys → TL G u.args c2 ys2 → Fn Try.prog G 10 #[.agg (tC t c), .agg (tC u c2)] (.bool (t.eqb u))) : Fn Try.prog G 23 #[c, c2, .func (.func 10) #[] #[]] (.bool (eqbL l q)) := by
  have hml := hT.1
  simp only [maxLen] at hml
  have hmm := hU.1
  simp only [maxLen] at hmm
  refine Qf1 Try.func23 ?_
  refine Qs<|Qp<|(Qa)<|Qn<|Qs<|Qs<|Qp<|(Qm)<|(QC hT.2.1)<|(Qm)<|(QC hU.2.1)<|(QN)<|Qn ?_
  refine e_cond rfl ?_ ?_
  · intro hc0
    rw [eqbL_len (by have := of_decide_eq_true hc0; omega)]
    refine Qs<|Qp<|(Qa)<|Qn<|Qr ?_
    first | rw [eqbL_all hlen (fun j h h2 => hf0_1 j h h2 (by omega))] | skip
    exact ⟨_, rfl, .tmp rfl⟩
  · intro hc0
    have hlen : l.length = q.length := by have := of_decide_eq_false hc0; omega
    refine Qk<|Qs<|Qs<|Qp<|(Qm)<|(QC hT.2.1)<|(Qm)<|Qn<|Qb ?_
    refine QzK [(1, _), (2, _), (15, _), (16, _)] [] (fun kk E m => ∃ (i : Nat), kk = l.length - i ∧ E = [(17, ii i)] ∧ m = [] ∧ (i ≤ l.length) ∧ (∀ j (h : j < l.length) (h2 : j < q.length), j < i → l[j].eqb q[j] = true)) ⟨0, rfl, rfl, rfl, by omega, fun _ _ _ h => absurd h (Nat.not_lt_zero _)⟩ ⟨rfl, rfl, rfl, rfl, rfl, trivial⟩ trivial ?_
    rintro kk E m ⟨i, rfl, rfl, rfl, hf0_0, hf0_1⟩
    simp only [catE, catL]
    refine Qs<|Qp<|(Ql)<|Qn<|Qs ?_
    refine e_cond rfl ?_ ?_
    · intro hc1
      have hc1 : i < l.length := by have := of_decide_eq_true hc1; omega
      obtain ⟨c1, ys1, hcs1, hl1⟩ := hT.at (show i < l.length by omega)
      have hin1 := List.getElem_mem (show i < l.length by omega)
      obtain ⟨c2, ys2, hcs2, hl2⟩ := hU.at (show i < q.length by omega)
      have hin2 := List.getElem_mem (show i < q.length by omega)
      refine Qk<|Qs<|Qb<|Qs<|Qp<|(Qm) ?_
      refine e_atV hT.2.1 (Uu 22) (Uz 24) rfl rfl (by omega) rfl ?_
      refine e_loadVS hT.2.1 seenG (Uu 24) rfl (Uz 24) rfl (by decide) (by have := hT.2.1.len; omega) hcs1 rfl ?_
      refine e_as (show _ = Value.agg (tC l[i] c1) from rfl) ?_
      refine (QH 0) fun r1=>(Qa) ?_
      refine e_storeA (i := 0) (Uz 24) rfl rfl (arrv_size _ _) (cells_one ⟨fun _ => rfl, fun _ => rfl, fun _ => rfl, fun _ => shows_oneC hl1.2.1, trivial⟩) rfl cells_sz (.inl rfl) ?_
      refine Qn<|Qs<|Qp<|(Qm)<|(Qm) ?_
      refine e_atV hU.2.1 (Uu 22) (Uz 24) rfl rfl (by omega) rfl ?_
      refine e_loadVS hU.2.1 seenG (Uu 24) rfl (Uz 24) rfl (by decide) (by have := hU.2.1.len; omega) hcs2 rfl ?_
      refine e_as (show _ = Value.agg (tC q[i] c2) from rfl) ?_
      refine (QH 1) fun r2=>?_
      refine e_storeA (i := 1) (Uz 24) rfl rfl (arrv_size _ _) (cells_one ⟨fun _ => rfl, fun _ => rfl, fun _ => rfl, fun _ => shows_oneC hl2.2.1, trivial⟩) rfl cells_sz (.inl rfl) ?_
      refine Qn<|Qs<|Qp<|(Qm)<|(QD 0)<|(QD 1) ?_
      refine e_callS rfl rfl (Un 10) seenG (hrec l[i] q[i] c1 c2 ys1 ys2 hin1 hl1 hl2) rfl rfl ?_
      refine (Q0)<|Qn ?_
      refine e_cond rfl ?_ ?_
      · intro hc2
        rw [eqbL_at (j := i) (by assumption) (by omega) (by simpa using hc2)]
        refine Qs<|Qp<|(Qa)<|Qn<|Qr ?_
        first | rw [eqbL_all hlen (fun j h h2 => hf0_1 j h h2 (by omega))] | skip
        exact ⟨_, rfl, .tmp rfl⟩
      · intro hc2
        have hz9 : l[i].eqb q[i] = true := by simpa using hc2
        refine Qk<|Qp<|(Q2 1)<|(Qm)<|Qn ?_
        refine QzL ⟨i + 1, rfl, rfl, rfl, by omega, fun j h h2 hj => by by_cases e : j = i; (subst e; exact hz9); exact hf0_1 j h h2 (by omega)⟩ ⟨rfl, rfl, rfl, rfl, rfl, trivial⟩ trivial ?_
        omega
    · intro hc1
      have hc1 := of_decide_eq_false hc1
      have hz0 : i = l.length := by omega
      refine Qe<|Qs<|Qp<|(Qa)<|Qn<|Qr ?_
      first | rw [eqbL_all hlen (fun j h h2 => hf0_1 j h h2 (by omega))] | skip
      exact ⟨_, rfl, .tmp rfl⟩
set_option maxHeartbeats 400000 in
theorem same_rec (t u : TT) (c c2 : Value) (xs xs2 : List Value) (hT : TL G t.args c xs) (hU : TL G u.args c2 xs2) (hrec : Fn Try.prog G 23 #[c, c2, .func (.func 10) #[] #[]] (.bool (eqbL t.args u.args))) : Fn Try.prog G 10 #[.agg (tC t c), .agg (tC u c2)] (.bool (t.eqb u)) := by
  have hco := shows_oneC hT.2.1
  have hco2 := shows_oneC hU.2.1
  rw [eqb_parts]
  refine Qf1 Try.func10 ?_
  refine Qs<|Qp<|(Qh 0) fun r1=>(Qh 1) fun r2=>(Qa)<|Qn<|Qs<|Qp ?_
  refine e_join [(0, _), (1, _), (2, _), (3, _)] [(4, .bool (decide (t.kind = u.kind) && decide (t.id = u.id) && decide (t.other = u.other) && eqbL t.args u.args))] [(0, some _), (1, some _)] ⟨rfl, rfl, rfl, rfl, trivial⟩ ⟨rfl, rfl, trivial⟩ ?_ ?_
  · skip
    refine (Qf 0)<|(QV 0 0)<|(Qf 0)<|(QV 0 1)<|(Qc)<|(Qm) ?_
    refine e_case (fun hb0 => ?_) (fun hb0 => ?_)
    · skip
      refine (Qy)<|(Qf 1)<|(Qy)<|(QV 1 0)<|(Qy)<|(Qf 1)<|(Qy)<|(QV 1 1)<|(Qy)<|(Qc)<|(QT)<|(Qm) ?_
      refine e_case (fun hb1 => ?_) (fun hb1 => ?_)
      · skip
        refine (Qy)<|(Qf 2)<|(Qy)<|(QV 2 0)<|(Qy)<|(Qf 2)<|(Qy)<|(QV 2 1)<|(Qy)<|(Qc)<|(QT)<|(Qm) ?_
        refine e_case (fun hb2 => ?_) (fun hb2 => ?_)
        · skip
          refine (Qy)<|(Qf 3)<|(Qy)<|(QV 3 0)<|(Qy)<|(Qf 3)<|(Qy)<|(QV 3 1)<|(Qy) ?_
          refine e_call rfl (Un 23) hrec rfl rfl ?_
          refine (QT)<|(Qa)<|Qn ?_
          exact ⟨⟨rfl, rfl, rfl, rfl, trivial⟩, ⟨bool_fin (by rw [hb0, hb1, hb2] <;> rfl), trivial⟩, ⟨rfl, rfl, trivial⟩⟩
        · skip
          refine (Qo)<|(Qo)<|(Qo)<|(Qo)<|(Qo)<|(QF)<|(Qa)<|Qn ?_
          exact ⟨⟨rfl, rfl, rfl, rfl, trivial⟩, ⟨bool_fin (by rw [hb0, hb1, hb2] <;> rfl), trivial⟩, ⟨rfl, rfl, trivial⟩⟩
      · skip
        refine (Qo)<|(Qo)<|(Qo)<|(Qo)<|(Qo)<|(QF)<|(Qm)<|(Qo)<|(Qo)<|(Qo)<|(Qo)<|(Qo)<|(QF)<|(Qa)<|Qn ?_
        exact ⟨⟨rfl, rfl, rfl, rfl, trivial⟩, ⟨bool_fin (by rw [hb0, hb1] <;> rfl), trivial⟩, ⟨rfl, rfl, trivial⟩⟩
    · skip
      refine (Qo)<|(Qo)<|(Qo)<|(Qo)<|(Qo)<|(QF)<|(Qm)<|(Qo)<|(Qo)<|(Qo)<|(Qo)<|(Qo)<|(QF)<|(Qm)<|(Qo)<|(Qo)<|(Qo)<|(Qo)<|(Qo)<|(QF)<|(Qa)<|Qn ?_
      exact ⟨⟨rfl, rfl, rfl, rfl, trivial⟩, ⟨bool_fin (by rw [hb0] <;> rfl), trivial⟩, ⟨rfl, rfl, trivial⟩⟩
  · simp only [catE]
    refine Qr ?_
    exact ⟨_, rfl, .tmp rfl⟩
end Go.Proofs.Ytnkelhmfpepehaa
namespace Go.Proofs.Ytnkelhmfpepehaa
open Go Go.RowKit
theorem same_fn {G : Mem} (t : TT) : ∀ (u : TT) (c c2 : Value) (ys ys2 : List Value), TL G t.args c ys → TL G u.args c2 ys2 → Fn Try.prog G 10 #[.agg (tC t c), .agg (tC u c2)] (.bool (t.eqb u)) := by
  refine TT.ind (p := fun t => ∀ (u : TT) (c c2 : Value) (ys ys2 : List Value), TL G t.args c ys → TL G u.args c2 ys2 → Fn Try.prog G 10 #[.agg (tC t c), .agg (tC u c2)] (.bool (t.eqb u))) (fun t ih u c c2 ys ys2 hT hU => ?_) t
  exact same_rec t u c c2 ys ys2 hT hU (eqfun_rec t.args u.args c c2 ys ys2 hT hU fun a b c c2 ys ys2 ha hA hB => ih a ha b c c2 ys ys2 hA hB)
variable {G : Mem}
end Go.Proofs.Ytnkelhmfpepehaa
namespace Go.Proofs.Ytnkelhmfpepehaa
open Go Go.RowKit
variable {G : Mem}
set_option maxHeartbeats 400000 in
theorem samek_fn (r : Nat) (x : TT) (c : Value) (xs : List Value) (hX : TL ((⟨r, tC x c, 24⟩ : Blk) :: G) x.args c xs) (y : TT) (c2 : Value) (ys : List Value) (hY : TL ((⟨r, tC x c, 24⟩ : Blk) :: G) y.args c2 ys) : Fn Try.prog ((⟨r, tC x c, 24⟩ : Blk) :: G) 40 #[.agg (tC y c2), ptr r] (.bool (x.eqb y)) := by
  have hco := shows_oneC hY.2.1
  refine Qf1 Try.func40 ?_
  refine Qs<|Qp<|(Qh 0) fun r1=>(Qa)<|Qn<|Qs<|Qp ?_
  refine e_loadAg (i := 0) (Uu 24) rfl (Uz 24) rfl rfl (arrv_size _ _) rfl ?_
  refine (QD 0) ?_
  refine e_call rfl (Un 10) (same_fn x y c c2 xs ys hX hY) rfl rfl ?_
  refine (Qa)<|Qn<|Qr ?_
  exact ⟨_, rfl, .tmp rfl⟩
set_option maxHeartbeats 400000 in
theorem indexk_fn (r : Nat) (x : TT) (c : Value) (xs : List Value) (hX : TL ((⟨r, tC x c, 24⟩ : Blk) :: G) x.args c xs) (L : List TT) (w : Value) (ws : List Value) (hL : TL ((⟨r, tC x c, 24⟩ : Blk) :: G) L w ws) : Fn Try.prog ((⟨r, tC x c, 24⟩ : Blk) :: G) 46 #[w, (Value.func (.func 40) #[] #[ptr r])] (iv (idxT x L)) := by
  have hml := hL.1
  simp only [maxLen] at hml
  refine Qf1 Try.func46 ?_
  refine Qs<|Qp<|(Qa)<|Qn<|Qs<|Qs<|Qp<|(Qm)<|(QC hL.2.1)<|(Qm)<|Qn<|Qb ?_
  refine QzK [(0, _), (1, _), (7, _)] [] (fun kk E m => ∃ (i : Nat), kk = L.length - i ∧ E = [(8, ii i)] ∧ m = [] ∧ (i ≤ L.length) ∧ (∀ j (h : j < L.length), j < i → x.eqb L[j] = false)) ⟨0, rfl, rfl, rfl, by omega, fun _ _ h => absurd h (Nat.not_lt_zero _)⟩ ⟨rfl, rfl, rfl, rfl, trivial⟩ trivial ?_
  rintro kk E m ⟨i, rfl, rfl, rfl, hf0_0, hf0_1⟩
  simp only [catE, catL]
  refine Qs<|Qp<|(Ql)<|Qn<|Qs ?_
  refine e_cond rfl ?_ ?_
  · intro hc0
    have hc0 : i < L.length := by have := of_decide_eq_true hc0; omega
    obtain ⟨c1, ys1, hcs1, hl1⟩ := hL.at (show i < L.length by omega)
    have hin1 := List.getElem_mem (show i < L.length by omega)
    refine Qk<|Qs<|Qb<|Qs<|Qp<|(Qm)<|(Qa)<|Qn<|Qs<|Qp<|(Qm)<|(Qm)<|(Qm) ?_
    refine e_atV hL.2.1 (Uu 22) (Uz 24) rfl rfl (by omega) rfl ?_
    refine e_loadVS hL.2.1 seenG (Uu 24) rfl (Uz 24) rfl (by decide) (by have := hL.2.1.len; omega) hcs1 rfl ?_
    refine e_as (show _ = Value.agg (tC L[i] c1) from rfl) ?_
    refine e_callS rfl rfl (Un 40) seenG (samek_fn (G := G) r x c xs hX L[i] c1 ys1 hl1) rfl rfl ?_
    refine Qn ?_
    refine e_cond rfl ?_ ?_
    · intro hc1
      rw [idxT_at (i := i) (by assumption) hf0_1 hc1]
      refine Qs<|Qp<|(Qm)<|(Qa)<|Qn<|Qr ?_
      first | rw [idxT_none (fun j h => hf0_1 j h (by omega))] | skip
      exact ⟨_, rfl, .tmp rfl⟩
    · intro hc1
      have hz9 := hc1
      refine Qk<|Qp<|(Q2 1)<|(Qm)<|Qn ?_
      refine QzL ⟨i + 1, rfl, rfl, rfl, by omega, fun j h hj => by by_cases e : j = i; (subst e; exact hz9); exact hf0_1 j h (by omega)⟩ ⟨rfl, rfl, rfl, rfl, trivial⟩ trivial ?_
      omega
  · intro hc0
    have hc0 := of_decide_eq_false hc0
    have hz0 : i = L.length := by omega
    refine Qe<|Qs<|Qp<|(Qa)<|Qn<|Qr ?_
    first | rw [idxT_none (fun j h => hf0_1 j h (by omega))] | skip
    exact ⟨_, rfl, .tmp rfl⟩
set_option maxHeartbeats 400000 in
theorem containsk_fn (r : Nat) (x : TT) (c : Value) (xs : List Value) (hX : TL ((⟨r, tC x c, 24⟩ : Blk) :: G) x.args c xs) (L : List TT) (w : Value) (ws : List Value) (hL : TL ((⟨r, tC x c, 24⟩ : Blk) :: G) L w ws) : Fn Try.prog ((⟨r, tC x c, 24⟩ : Blk) :: G) 39 #[w, (Value.func (.func 40) #[] #[ptr r])] (.bool (hsL L x)) := by
  refine Qf1 Try.func39 ?_
  refine Qs<|Qp<|(Qa)<|Qn<|Qs<|Qp<|(Qm)<|(Qm) ?_
  refine e_callS rfl rfl (Un 46) seenG (indexk_fn (G := G) r x c xs hX L w ws hL) rfl rfl ?_
  refine (QE) ?_
  refine e_as (congrArg Value.bool (idxT_has x L)) ?_
  refine (Qa)<|Qn<|Qr ?_
  exact ⟨_, rfl, .tmp rfl⟩
set_option maxHeartbeats 400000 in
theorem hask_fn (r : Nat) (L : List TT) (w : Value) (ws : List Value) (hL : TL ((⟨r, #[w], 22⟩ : Blk) :: G) L w ws) (x : TT) (c : Value) (xs : List Value) (hX : TL ((⟨r, #[w], 22⟩ : Blk) :: G) x.args c xs) : Fn Try.prog ((⟨r, #[w], 22⟩ : Blk) :: G) 38 #[.agg (tC x c), ptr r] (.bool (hsL L x)) := by
  have hco := shows_oneC hX.2.1
  refine Qf1 Try.func38 ?_
  refine Qs<|Qp<|(Qh 0) fun r1=>(Qa)<|Qn<|Qs<|Qp ?_
  refine e_load1g (i := 0) (Uu 22) rfl rfl rfl (show _ = some _ from rfl) rfl ?_
  refine (QY) ?_
  refine e_callS rfl rfl (Un 39) (seen_cons 0 rfl) (containsk_fn (G := (⟨r, #[w], 22⟩ : Blk) :: G) r1 x c xs (hX.mono (fun _ h => List.mem_cons_of_mem _ h)) L w ws (hL.mono (fun _ h => List.mem_cons_of_mem _ h))) rfl rfl ?_
  refine (Qa)<|Qn<|Qr ?_
  exact ⟨_, rfl, .tmp rfl⟩
end Go.Proofs.Ytnkelhmfpepehaa
namespace Go.Proofs.Ytnkelhmfpepehaa
open Go Go.RowKit
variable {G : Mem}
set_option maxHeartbeats 2000000 in
theorem make_rec (r : Nat) (hs : TT → Bool) (hHas : ∀ (x : TT) (c : Value) (ys : List Value), TL G x.args c ys → Fn Try.prog G 38 #[.agg (tC x c), ptr r] (.bool (hs x))) (t : TT) (c : Value) (xs : List Value) (hT : TL G t.args c xs) (hAgr : t.kind = 3 → ∀ a b : Int, Fn Try.prog G 47 #[iv a, iv b, (Value.func (.func 38) #[] #[ptr r])] (.bool (agB hs a b))) (hrec : ∀ (a : TT) (c : Value) (ys : List Value), a ∈ t.args → TL G a.args c ys → Fn Try.prog G 42 #[.agg (tC a c), (Value.func (.func 38) #[] #[ptr r])] (.bool (TT.canB hs a))) : Fn Try.prog G 42 #[.agg (tC t c), (Value.func (.func 38) #[] #[ptr r])] (.bool (TT.canB hs t)) := by
  have hco := shows_oneC hT.2.1
  have hml := hT.1
  simp only [maxLen] at hml
  rw [canB_eq]
  obtain ⟨l, hl⟩ : ∃ l, l = t.args := ⟨_, rfl⟩
  have hT0 := hT
  rw [← hl] at hT hml hrec
  rw [← hl]
  refine Qf1 Try.func42 ?_
  refine Qs<|Qp<|(Qh 0) fun r1=>(Qa)<|Qn<|Qs<|Qs<|Qp<|(Qm)<|(QD 0) ?_
  refine e_callS rfl rfl (Un 38) seenG (hHas t c _ hT0) rfl rfl ?_
  refine Qn ?_
  refine e_cond rfl ?_ ?_
  · intro hc0
    rw [hc0, Bool.true_or]
    refine Qs<|Qp<|(Qa)<|Qn<|Qr ?_
    first | rw [all_yes (fun j h => hf0_1 j h (by omega))] | skip
    exact ⟨_, rfl, .tmp rfl⟩
  · intro hc0
    rw [hc0, Bool.false_or]
    refine Qk<|Qs<|Qs<|Qp<|(Qf 0)<|(QV 0 0)<|Qn<|Qb<|Qs<|Qp<|(Qc)<|(Qa)<|Qn ?_
    refine e_cond rfl ?_ ?_
    · intro hc1
      rw [if_pos (of_decide_eq_true hc1)]
      refine Qs<|Qp<|(Qa)<|Qn<|Qr ?_
      first | rw [all_yes (fun j h => hf0_1 j h (by omega))] | skip
      exact ⟨_, rfl, .tmp rfl⟩
    · intro hc1
      rw [if_neg (of_decide_eq_false hc1)]
      refine Qs<|Qp<|(Qc)<|(Qa)<|Qn ?_
      refine e_cond rfl ?_ ?_
      · intro hc2
        rw [if_pos (of_decide_eq_true hc2)]
        refine Qs<|Qp<|(Qm)<|(Qf 1)<|(QV 1 0) ?_
        refine e_buildS (tC (atomT t.id) nilS) (Ub 24 rfl) (Uu 24 rfl) pls24 rfl (by kernel_rfl) rfl ?_
        refine e_callS rfl rfl (Un 38) seenG (hHas (atomT t.id) nilS _ tl_nil) rfl rfl ?_
        refine (Qa)<|Qn<|Qr ?_
        first | rw [all_yes (fun j h => hf0_1 j h (by omega))] | skip
        exact ⟨_, rfl, .tmp rfl⟩
      · intro hc2
        rw [if_neg (of_decide_eq_false hc2)]
        refine Qs<|Qp<|(Qc)<|(Qa)<|Qn ?_
        refine e_cond rfl ?_ ?_
        · intro hc3
          have h58 := of_decide_eq_true hc3
          rw [if_pos h58]
          refine Qs<|Qp ?_
          refine e_join [(0, _), (1, _), (2, _), (7, _), (8, _), (9, _), (10, _), (11, _), (12, _), (13, _), (14, _), (15, _), (21, _), (22, _)] [(4, .bool (agB hs t.id t.other || agB hs t.other t.id))] [(0, some _)] ⟨rfl, rfl, rfl, rfl, rfl, rfl, rfl, rfl, rfl, rfl, rfl, rfl, rfl, rfl, trivial⟩ ⟨rfl, trivial⟩ ?_ ?_
          · skip
            refine (Qf 1)<|(QV 1 0)<|(Qf 2)<|(QV 2 0)<|(Qm) ?_
            refine e_call rfl (Un 47) (hAgr h58 t.id t.other) rfl rfl ?_
            refine (Qm) ?_
            refine e_case (fun hb0 => ?_) (fun hb0 => ?_)
            · skip
              refine (Qo)<|(Qo)<|(Qo)<|(Qo)<|(Qo)<|(Qo)<|(QT)<|(Qa)<|Qn ?_
              exact ⟨⟨rfl, rfl, rfl, rfl, rfl, rfl, rfl, rfl, rfl, rfl, rfl, rfl, rfl, rfl, trivial⟩, ⟨bool_fin (by rw [hb0] <;> rfl), trivial⟩, ⟨rfl, trivial⟩⟩
            · skip
              refine (Qy)<|(Qf 2)<|(Qy)<|(QV 2 0)<|(Qy)<|(Qf 1)<|(Qy)<|(QV 1 0)<|(Qy)<|(Qm)<|(Qy) ?_
              refine e_call rfl (Un 47) (hAgr h58 t.other t.id) rfl rfl ?_
              refine (QF)<|(Qa)<|Qn ?_
              exact ⟨⟨rfl, rfl, rfl, rfl, rfl, rfl, rfl, rfl, rfl, rfl, rfl, rfl, rfl, rfl, trivial⟩, ⟨bool_fin (by rw [hb0] <;> rfl), trivial⟩, ⟨rfl, trivial⟩⟩
          · simp only [catE]
            refine Qr ?_
            first | rw [all_yes (fun j h => hf0_1 j h (by omega))] | skip
            exact ⟨_, rfl, .tmp rfl⟩
        · intro hc3
          rw [if_neg (of_decide_eq_false hc3)]
          refine Qk<|Qs<|Qs<|Qp<|(Qf 3)<|(QV 3 0)<|(QC hT.2.1)<|(Qm)<|Qn<|Qb ?_
          refine QzK [(1, _), (38, _), (39, _)] [(0, _)] (fun kk E m => ∃ (i : Nat), kk = l.length - i ∧ E = [(40, ii i)] ∧ m = [] ∧ (i ≤ l.length) ∧ (∀ j (h : j < l.length), j < i → (l[j]).canB hs = true)) ⟨0, rfl, rfl, rfl, by omega, fun _ _ h => absurd h (Nat.not_lt_zero _)⟩ ⟨rfl, rfl, rfl, rfl, trivial⟩ ⟨rfl, trivial⟩ ?_
          rintro kk E m ⟨i, rfl, rfl, rfl, hf0_0, hf0_1⟩
          simp only [catE, catL]
          refine Qs<|Qp<|(Ql)<|Qn<|Qs ?_
          refine e_cond rfl ?_ ?_
          · intro hc4
            have hc4 : i < l.length := by have := of_decide_eq_true hc4; omega
            obtain ⟨c1, ys1, hcs1, hl1⟩ := hT.at (show i < l.length by omega)
            have hin1 := List.getElem_mem (show i < l.length by omega)
            refine Qk<|Qs<|Qb<|Qs<|Qp ?_
            refine e_atV hT.2.1 (Uu 22) (Uz 24) rfl rfl (by omega) rfl ?_
            refine e_loadVS hT.2.1 seenG (Uu 24) rfl (Uz 24) rfl (by decide) (by have := hT.2.1.len; omega) hcs1 rfl ?_
            refine e_as (show _ = Value.agg (tC l[i] c1) from rfl) ?_
            refine (QH 1) fun r2=>?_
            refine e_storeA (i := 1) (Uz 24) rfl rfl (arrv_size _ _) (cells_one ⟨fun _ => rfl, fun _ => rfl, fun _ => rfl, fun _ => shows_oneC hl1.2.1, trivial⟩) rfl cells_sz (.inl rfl) ?_
            refine Qn<|Qs<|Qp<|(QD 1)<|(Qm) ?_
            refine e_call rfl (Un 42) (hrec l[i] c1 ys1 hin1 hl1) rfl rfl ?_
            refine (Q0)<|Qn ?_
            refine e_cond rfl ?_ ?_
            · intro hc5
              rw [all_no (i := i) (by assumption) (by simpa using hc5)]
              refine Qs<|Qp<|(Qa)<|Qn<|Qr ?_
              first | rw [all_yes (fun j h => hf0_1 j h (by omega))] | skip
              exact ⟨_, rfl, .tmp rfl⟩
            · intro hc5
              have hz9 : (l[i]).canB hs = true := by simpa using hc5
              refine Qk<|Qp<|(Q2 1)<|(Qm)<|Qn ?_
              refine QzL ⟨i + 1, rfl, rfl, rfl, by omega, fun j h hj => by by_cases e : j = i; (subst e; exact hz9); exact hf0_1 j h (by omega)⟩ ⟨rfl, rfl, rfl, rfl, trivial⟩ ⟨rfl, trivial⟩ ?_
              omega
          · intro hc4
            have hc4 := of_decide_eq_false hc4
            have hz0 : i = l.length := by omega
            refine Qe<|Qs<|Qp<|(Qa)<|Qn<|Qr ?_
            first | rw [all_yes (fun j h => hf0_1 j h (by omega))] | skip
            exact ⟨_, rfl, .tmp rfl⟩
set_option maxHeartbeats 400000 in
theorem agree_rec (r : Nat) (hs : TT → Bool) (hHas : ∀ (x : TT) (c : Value) (ys : List Value), TL G x.args c ys → Fn Try.prog G 38 #[.agg (tC x c), ptr r] (.bool (hs x))) (a b : Int) (hMk : Fn Try.prog G 42 #[.agg (tC (pubT b) nilS), (Value.func (.func 38) #[] #[ptr r])] (.bool (TT.canB hs (pubT b)))) : Fn Try.prog G 47 #[iv a, iv b, (Value.func (.func 38) #[] #[ptr r])] (.bool (agB hs a b)) := by
  refine Qf1 Try.func47 ?_
  refine Qs<|Qp<|(Qa)<|Qn<|Qs<|Qp ?_
  refine e_join [(0, _), (1, _), (2, _)] [(6, .bool (agB hs a b))] [] ⟨rfl, rfl, rfl, trivial⟩ trivial ?_ ?_
  · skip
    refine (Qm)<|(Qm) ?_
    refine e_buildS (tC (atomT a) nilS) (Ub 24 rfl) (Uu 24 rfl) pls24 rfl (by kernel_rfl) rfl ?_
    refine e_callS rfl rfl (Un 38) seenG (hHas (atomT a) nilS _ tl_nil) rfl rfl ?_
    refine (Qm) ?_
    refine e_case (fun hb0 => ?_) (fun hb0 => ?_)
    · skip
      refine (Qy)<|(Qm)<|(Qy) ?_
      refine e_buildS (tC (pubT b) nilS) (Ub 24 rfl) (Uu 24 rfl) pls24 rfl (by kernel_rfl) rfl ?_
      refine (Qy)<|(Qm)<|(Qy) ?_
      refine e_call rfl (Un 42) hMk rfl rfl ?_
      refine e_as (congrArg Value.bool (canB_pub hs b)) ?_
      refine (QT)<|(Qa)<|Qn ?_
      exact ⟨⟨rfl, rfl, rfl, trivial⟩, ⟨bool_fin (by rw [agB, hb0] <;> rfl), trivial⟩, trivial⟩
    · skip
      refine (Qo)<|(Qo)<|(Qo)<|(Qo)<|(QF)<|(Qa)<|Qn ?_
      exact ⟨⟨rfl, rfl, rfl, trivial⟩, ⟨bool_fin (by rw [agB, hb0] <;> rfl), trivial⟩, trivial⟩
  · simp only [catE]
    refine Qr ?_
    exact ⟨_, rfl, .tmp rfl⟩
end Go.Proofs.Ytnkelhmfpepehaa
namespace Go.Proofs.Ytnkelhmfpepehaa
open Go Go.RowKit
theorem agree_fn {G : Mem} (r : Nat) (hs : TT → Bool) (hHas : ∀ (x : TT) (c : Value) (ys : List Value), TL G x.args c ys → Fn Try.prog G 38 #[.agg (tC x c), ptr r] (.bool (hs x))) (a b : Int) : Fn Try.prog G 47 #[iv a, iv b, (Value.func (.func 38) #[] #[ptr r])] (.bool (agB hs a b)) :=
  agree_rec r hs hHas a b (make_rec r hs hHas (pubT b) nilS [] tl_nil (fun h => absurd h (show ¬ (2 : Int) = 3 by decide)) fun a _ _ h => by cases h)
theorem make_fn {G : Mem} (r : Nat) (hs : TT → Bool) (hHas : ∀ (x : TT) (c : Value) (ys : List Value), TL G x.args c ys → Fn Try.prog G 38 #[.agg (tC x c), ptr r] (.bool (hs x))) (t : TT) : ∀ (c : Value) (ys : List Value), TL G t.args c ys → Fn Try.prog G 42 #[.agg (tC t c), (Value.func (.func 38) #[] #[ptr r])] (.bool (TT.canB hs t)) := by
  refine TT.ind (p := fun t => ∀ (c : Value) (ys : List Value), TL G t.args c ys → Fn Try.prog G 42 #[.agg (tC t c), (Value.func (.func 38) #[] #[ptr r])] (.bool (TT.canB hs t))) (fun t ih c ys hT => ?_) t
  exact make_rec r hs hHas t c ys hT (fun _ a b => agree_fn r hs hHas a b) fun a c ys ha hA => ih a ha c ys hA
variable {G : Mem}
set_option maxHeartbeats 400000 in
theorem cank_fn (r r2 : Nat) (hs : TT → Bool) (hHas : ∀ (x : TT) (c : Value) (ys : List Value), TL ((⟨r2, #[(Value.func (.func 38) #[] #[ptr r])], 49⟩ : Blk) :: G) x.args c ys → Fn Try.prog ((⟨r2, #[(Value.func (.func 38) #[] #[ptr r])], 49⟩ : Blk) :: G) 38 #[.agg (tC x c), ptr r] (.bool (hs x))) (x : TT) (c : Value) (xs : List Value) (hX : TL ((⟨r2, #[(Value.func (.func 38) #[] #[ptr r])], 49⟩ : Blk) :: G) x.args c xs) : Fn Try.prog ((⟨r2, #[(Value.func (.func 38) #[] #[ptr r])], 49⟩ : Blk) :: G) 41 #[.agg (tC x c), ptr r2] (.bool (x.canB hs)) := by
  have hco := shows_oneC hX.2.1
  refine Qf1 Try.func41 ?_
  refine Qs<|Qp<|(Qh 0) fun r1=>(Qa)<|Qn<|Qs<|Qp<|(QD 0) ?_
  refine e_load1g (i := 0) (Uu 49) rfl rfl rfl (show _ = some _ from rfl) rfl ?_
  refine e_callS rfl rfl (Un 42) seenG (make_fn (G := ((⟨r2, #[(Value.func (.func 38) #[] #[ptr r])], 49⟩ : Blk) :: G)) r hs hHas x c xs hX) rfl rfl ?_
  refine (Qa)<|Qn<|Qr ?_
  exact ⟨_, rfl, .tmp rfl⟩
end Go.Proofs.Ytnkelhmfpepehaa
namespace Go.Proofs.Ytnkelhmfpepehaa
open Go Go.RowKit
variable {G : Mem}
set_option maxHeartbeats 400000 in
theorem opens_fn (r2 : Nat) (hs : TT → Bool) (hCan : ∀ (x : TT) (c : Value) (ys : List Value), TL G x.args c ys → Fn Try.prog G 41 #[.agg (tC x c), ptr r2] (.bool (x.canB hs))) (t : TT) (c : Value) (xs : List Value) (hT : TL G t.args c xs) (h7 : t.kind = 7 → t.args.length = 3) : Fn Try.prog G 44 #[.agg (tC t c), (Value.func (.func 41) #[] #[ptr r2])] (.bool (opB hs t)) := by
  have hco := shows_oneC hT.2.1
  have hml := hT.1
  simp only [maxLen] at hml
  refine Qf1 Try.func44 ?_
  refine Qs<|Qp<|(Qh 0) fun r1=>(Qa)<|Qn<|Qs ?_
  rcases first_ways hT h7 with ⟨k7, k3, c1, ys1, hcs1, hl1⟩ | k7
  · skip
    refine Qp<|(Qf 0)<|(QV 0 0)<|(QN) ?_
    refine e_as (congrArg Value.bool (decide_eq_false (fun h => h k7))) ?_
    refine (Qm)<|(Qy)<|(Qm)<|(Qy)<|(Qf 3)<|(Qy)<|(QV 3 0)<|(Qy) ?_
    refine e_atV (j := 0) hT.2.1 (Uu 22) (Uz 24) rfl rfl (by omega) rfl ?_
    refine (Qy) ?_
    refine e_loadVS hT.2.1 seenG (Uu 24) rfl (Uz 24) rfl (by decide) (by have := hT.2.1.len; omega) hcs1 rfl ?_
    refine e_as (show _ = Value.agg (tC (keyT t) c1) from rfl) ?_
    refine (Qy) ?_
    refine e_callS rfl rfl (Un 41) seenG (hCan (keyT t) c1 ys1 hl1) rfl rfl ?_
    refine (QF)<|(Qa)<|Qn<|Qr ?_
    first | rw [show opB hs t = true by unfold opB; rw [decide_eq_true k7]; rfl] | rw [show opB hs t = (keyT t).canB hs by unfold opB; rw [decide_eq_false (fun h => h k7)]; rfl]
    exact ⟨_, rfl, .tmp rfl⟩
  · skip
    refine Qp<|(Qf 0)<|(QV 0 0)<|(QN) ?_
    refine e_as (congrArg Value.bool (decide_eq_true k7)) ?_
    refine (Qm)<|(Qo)<|(Qo)<|(Qo)<|(Qo)<|(Qo)<|(Qo)<|(QT)<|(Qa)<|Qn<|Qr ?_
    first | rw [show opB hs t = true by unfold opB; rw [decide_eq_true k7]; rfl] | rw [show opB hs t = (keyT t).canB hs by unfold opB; rw [decide_eq_false (fun h => h k7)]; rfl]
    exact ⟨_, rfl, .tmp rfl⟩
set_option maxHeartbeats 400000 in
theorem parts_fn (t : TT) (c : Value) (xs : List Value) (hT : TL G t.args c xs) (h7 : t.kind = 7 → t.args.length = 3) : Fn Try.prog G 43 #[.agg (tC t c)] (prV t c) := by
  have hco := shows_oneC hT.2.1
  have hml := hT.1
  simp only [maxLen] at hml
  refine Qf1 Try.func43 ?_
  refine Qs<|Qp<|(Qh 0) fun r1=>(Qa)<|Qn<|Qs<|Qs<|Qp<|(Qf 0)<|(QV 0 0)<|Qn<|Qb<|Qs<|Qp<|(Qc)<|(Qa)<|Qn ?_
  refine e_cond rfl ?_ ?_
  · intro hc0
    rw [show prV t c = c from if_pos (of_decide_eq_true hc0)]
    refine Qs<|Qp<|(Qf 3)<|(QV 3 0)<|(Qa)<|Qn<|Qr ?_
    exact ⟨_, rfl, .tmp rfl⟩
  · intro hc0
    have h35 := of_decide_eq_false hc0
    refine Qs<|Qp<|(Qc)<|(Qa)<|Qn ?_
    refine e_cond rfl ?_ ?_
    · intro hc1
      have h37 := of_decide_eq_true hc1
      rw [show prV t c = slPart 4 c 2 t.args.length from (if_neg h35).trans (if_pos h37)]
      refine Qs<|Qp<|(Qf 3)<|(QV 3 0) ?_
      refine e_sliceV 2 t.args.length hT.2.1 (Uu 22) (Uz 24) rfl rfl rfl ⟨_, rfl⟩ rfl (by have := h7 h37; omega) (by omega) rfl ?_
      refine (Qa)<|Qn<|Qr ?_
      exact ⟨_, rfl, .tmp rfl⟩
    · intro hc1
      rw [show prV t c = nilS from (if_neg h35).trans (if_neg (of_decide_eq_false hc1))]
      refine Qk<|Qs<|Qp<|(Qa)<|Qn<|Qr ?_
      exact ⟨_, rfl, .tmp rfl⟩
set_option maxHeartbeats 2000000 in
theorem clone_term (v : Value) (n : Nat) (xs : List Value) (hv : Shows G 4 v n xs) (h1 : ∀ u ∈ xs, u.oneCell' = true) (hm : n * 48 ≤ 140737488355328) : Fx Try.prog G [] 37 #[v] (fun u l1 nw => l1 = [] ∧ ∃ v', u = v' ∧ OwnS 24 4 v' n xs nw) := by
  refine QfN Try.func37 ?_
  refine Qs<|Qp<|(Qa)<|Qn<|Qs<|Qs<|Qp<|(Qm) ?_
  refine e_eqNil hv (Uu 22) rfl rfl rfl fun bq1_1 hbq1_1 => ?_
  refine Qn ?_
  refine e_cond rfl ?_ ?_
  · intro hc0
    obtain rfl : n = 0 := hbq1_1 hc0
    obtain rfl : xs = [] := List.length_eq_zero_iff.1 (by have := hv.len; simpa using this)
    refine Qs<|Qp<|(Qa)<|Qn<|Qr ?_
    exact ⟨_, _, _, 99, rfl, .tmp rfl, (own_fix (own_nil _ _) (by simp) (by simp)), rfl⟩
  · intro hc0
    refine Qk<|Qs<|Qp ?_
    refine e_buildSl0 0 (Uu 22 rfl) (Uz 24 rfl) rfl fun r1 => ?_
    refine (Qm) ?_
    refine e_append 0 own_none hv rfl seenG (Uu 22) (Uz 24) (Uy 24) (Ub 24) (by rfl) rfl rfl h1 (by simp only [maxLen]; omega) (by omega) rfl fun v2_2 oz2_2 ho2_2 => ?_
    refine (Qa)<|Qn<|Qr ?_
    exact ⟨_, _, _, 0, rfl, .tmp rfl, (own_fix ho2_2 (by simp) (by simp)), rfl⟩
end Go.Proofs.Ytnkelhmfpepehaa
namespace Go.Proofs.Ytnkelhmfpepehaa
open Go Go.RowKit
variable {G : Mem}
set_option maxHeartbeats 8000000 in
theorem knows_fn (l : List TT) (v : Value) (vs : List Value) (hL : TL G l v vs) (t : TT) (c : Value) (xs : List Value) (hT : TL G t.args c xs) (hn3 : nodesL l ≤ 300) (hg : ∀ x ∈ l, x.form = 0) (b : Bool) (hb : b = true ↔ KN l t) : Fn Try.prog G 27 #[v, .agg (tC t c)] (.bool b) := by
  have hco := shows_oneC hT.2.1
  have hll := len_nodes l
  refine Qf1 Try.func27 ?_
  refine Qs<|Qp<|(Qh 0) fun r1=>(Qa)<|Qn ?_
  refine e_scope (l := 0) rfl ?_
  refine Qs<|QR ⟨[], 4, [], none, none⟩<|(Qm) ?_
  refine e_callN 1 (fun v => v) rfl rfl (Un 37) seenG (clone_term v l.length vs hL.2.1 hL.to.ones (by omega)) (by simp only [maxLen]; omega) hL.to.1 rfl rfl fun v1_1 oz1_1 ho1_1 => ?_
  refine (QH 2) fun r3=>?_
  refine e_store1 (i := 2) (Uz 22) rfl rfl (shows_oneC (OwnS.shows ho1_1)) rfl rfl (hid_none rfl (.inl rfl)) ?_
  refine Qn<|Qs<|Qp<|(QY)<|(QH 3) fun r4=>?_
  refine e_store1 (i := 3) (Uz 49) rfl rfl rfl rfl rfl (hid_none rfl (.inl rfl)) ?_
  refine Qn<|Qs<|Qp<|(QY)<|(Qa)<|Qn ?_
  refine e_markK (l := 0) rfl [(3, _), (5, _), (6, _), (7, _)] [(0, _), (3, _)] (fun kk E m => ∃ (L0 : List TT) (w0 : Value) (oz0 : Option Blk) (ws0 : List Value), kk = 600 - L0.length ∧ E = [] ∧ m = [(1, oz0), (2, (some ⟨r3, #[w0], 22⟩))] ∧ (OwnS 24 4 w0 L0.length ws0 (Option.toList oz0)) ∧ (TO G L0 ws0) ∧ (GrowT l L0)) [] [(1, oz1_1), (2, (some ⟨r3, #[v1_1], 22⟩))] (600 - l.length) ⟨rfl, rfl, rfl, rfl, trivial⟩ ⟨rfl, rfl, rfl, rfl, trivial⟩ ⟨l, v1_1, oz1_1, vs, rfl, rfl, rfl, ho1_1, hL.to, (grow_zero hg)⟩ ?_
  rintro kk E m ⟨L0, w0, oz0, ws0, rfl, rfl, rfl, hf0_0, hf0_1, hf0_2⟩
  simp only [catE, catL]
  refine Qs<|Qp ?_
  refine e_load1 (i := 2) (Uu 22) rfl rfl rfl (show _ = some _ from rfl) rfl ⟨[], trivial⟩ ?_
  refine (QC hf0_0.shows)<|(Qa)<|Qn<|Qs<|Qs<|Qp<|(Qa)<|Qn<|Qb ?_
  refine QzK [(3, _), (5, _), (6, _), (7, _), (8, _)] [(0, _), (3, _)] (fun kk E m => ∃ (i : Nat) (L1 : List TT) (w1 : Value) (oz1 : Option Blk) (ws1 : List Value), kk = 601 - i ∧ E = [(9, ii i)] ∧ m = [(1, oz1), (2, (some ⟨r3, #[w1], 22⟩))] ∧ (i ≤ L1.length) ∧ (OwnS 24 4 w1 L1.length ws1 (Option.toList oz1)) ∧ (TO G L1 ws1) ∧ (GrowT l L1) ∧ (Pre L0 L1) ∧ (Shut L0 L1 i)) ⟨0, L0, w0, oz0, ws0, rfl, rfl, rfl, (Nat.zero_le _), hf0_0, hf0_1, hf0_2, (Pre.refl _), shut_zero⟩ ⟨rfl, rfl, rfl, rfl, rfl, rfl, trivial⟩ ⟨rfl, rfl, rfl, rfl, trivial⟩ ?_
  rintro kk E m ⟨i, L1, w1, oz1, ws1, rfl, rfl, rfl, hf1_0, hf1_1, hf1_2, hf1_3, hf1_4, hf1_5⟩
  simp only [catE, catL]
  refine Qs<|Qs<|Qp<|(Qm) ?_
  refine e_load1 (i := 2) (Uu 22) rfl rfl rfl (show _ = some _ from rfl) rfl ⟨[], trivial⟩ ?_
  refine (QC hf1_1.shows)<|(Ql)<|Qn ?_
  refine e_cond rfl ?_ ?_
  · intro hc0
    have hi1 : i < L1.length := by have := of_decide_eq_true hc0; omega
    obtain ⟨c1, ys1, hcs1, hl1⟩ := hf1_2.at hi1
    obtain ⟨y, hy⟩ : ∃ y, y = L1[i] := ⟨_, rfl⟩
    have hyL : y ∈ L1 := hy ▸ List.getElem_mem hi1
    have h7 := wdt_seven (hf1_3.good _ (List.getElem_mem hi1))
    have hL16 := hf1_3.len hn3
    have hpt : TL G (prT y) (prV y c1) (prX y ys1) := hy ▸ prT_tl hl1 (fun e => by have := h7 e; omega)
    have hptm := hpt.1
    simp only [maxLen] at hptm
    refine Qk<|Qs<|Qb<|Qs<|Qp ?_
    refine e_load1 (i := 2) (Uu 22) rfl rfl rfl (show _ = some _ from rfl) rfl ⟨[], trivial⟩ ?_
    refine (Qm) ?_
    refine e_atV hf1_1.shows (Uu 22) (Uz 24) rfl rfl (by omega) rfl ?_
    refine e_loadVS hf1_1.shows (seenM 1 rfl ⟨[], trivial⟩) (Uu 24) rfl (Uz 24) rfl (by decide) (by have := hf1_2.1; omega) hcs1 rfl ?_
    refine e_as (show _ = Value.agg (tC L1[i] c1) from rfl) ?_
    refine e_call rfl (Un 43) (parts_fn L1[i] c1 ys1 hl1 h7) rfl rfl ?_
    refine e_as (congrArg (fun z => prV z c1) hy.symm) ?_
    refine (QC (hpt.2.1))<|(Qm)<|Qn<|Qb ?_
    refine QzK [(3, _), (5, _), (6, _), (7, _), (8, _), (9, _), (28, _), (29, _)] [(0, _), (3, _)] (fun kk E m => ∃ (j : Nat) (L2 : List TT) (w2 : Value) (oz2 : Option Blk) (ws2 : List Value), kk = (prT y).length - j ∧ E = [(30, ii j)] ∧ m = [(1, oz2), (2, (some ⟨r3, #[w2], 22⟩))] ∧ (j ≤ (prT y).length) ∧ (OwnS 24 4 w2 L2.length ws2 (Option.toList oz2)) ∧ (TO G L2 ws2) ∧ (GrowT l L2) ∧ (Pre L1 L2) ∧ (ShutP L0 L2 y j)) ⟨0, L1, w1, oz1, ws1, rfl, rfl, rfl, by omega, hf1_1, hf1_2, hf1_3, (Pre.refl _), shutP_zero⟩ ⟨rfl, rfl, rfl, rfl, rfl, rfl, rfl, rfl, rfl, trivial⟩ ⟨rfl, rfl, rfl, rfl, trivial⟩ ?_
    rintro kk E m ⟨j, L2, w2, oz2, ws2, rfl, rfl, rfl, hf2_0, hf2_1, hf2_2, hf2_3, hf2_4, hf2_5⟩
    simp only [catE, catL]
    refine Qs<|Qp<|(Ql)<|Qn<|Qs ?_
    refine e_cond rfl ?_ ?_
    · intro hc1
      have hc1 : j < (prT y).length := by have := of_decide_eq_true hc1; omega
      obtain ⟨c2, ys2, hcs2, hl2⟩ := hpt.at (show j < (prT y).length by omega)
      have hj2 : j < (prT y).length := by omega
      obtain ⟨x, hx9⟩ : ∃ x, x = (prT y)[j] := ⟨_, rfl⟩
      have hL26 := hf2_3.len hn3
      obtain ⟨hi3, hy3⟩ := hf2_4.at hi1
      have hy3 := hy3.trans hy.symm
      obtain ⟨c3, ys3, hcs3, hl3⟩ := hf2_2.at hi3
      have h73 := wdt_seven (hf2_3.good _ (List.getElem_mem hi3))
      have htl2 := hf2_2.tl hf2_1 (by simp only [maxLen]; omega)
      have hy2 : y ∈ L2 := hy3 ▸ List.getElem_mem hi3
      refine Qk<|Qs<|Qb<|Qs<|Qp ?_
      refine e_atV (hpt.2.1) (Uu 22) (Uz 24) rfl rfl (by omega) rfl ?_
      refine e_loadVS (hpt.2.1) seenG (Uu 24) rfl (Uz 24) rfl (by decide) (by have := hpt.2.1.len; omega) hcs2 rfl ?_
      refine e_as (show _ = Value.agg (tC (prT y)[j] c2) from rfl) ?_
      refine (QH 4) fun r5=>?_
      refine e_storeA (i := 4) (Uz 24) rfl rfl (arrv_size _ _) (cells_one ⟨fun _ => rfl, fun _ => rfl, fun _ => rfl, fun _ => shows_oneC hl2.2.1, trivial⟩) rfl cells_sz (.inl rfl) ?_
      refine Qn<|Qs<|Qp ?_
      refine e_join [(3, _), (5, _), (6, _), (7, _), (8, _), (9, _), (11, _), (28, _), (29, _), (30, _), (31, _), (32, _), (33, _)] [(45, .bool (!(hsL L2 x) && opB (hsL L2) y))] [(0, some _), (1, oz2), (2, (some ⟨r3, #[w2], 22⟩)), (3, some _), (4, some _)] ⟨rfl, rfl, rfl, rfl, rfl, rfl, rfl, rfl, rfl, rfl, rfl, rfl, rfl, trivial⟩ ⟨rfl, rfl, rfl, rfl, rfl, trivial⟩ ?_ ?_
      · skip
        refine e_load1 (i := 3) (Uu 49) rfl rfl rfl (show _ = some _ from rfl) rfl ⟨[], trivial⟩ ?_
        refine (QD 4) ?_
        refine e_callS rfl rfl (Un 38) (seen_app (A := [_]) (seen1 3 rfl ⟨[], trivial⟩) (seen_app (A := [_]) (seen1 2 rfl ⟨[], trivial⟩) (seen_app (seenM 1 rfl ⟨[], trivial⟩) seenG))) (Fn.more (hask_fn (G := (⟨r4, #[(Value.func (.func 38) #[] #[ptr r3])], 49⟩ : Blk) :: (Option.toList oz2 ++ G)) r3 L2 w2 ws2 (htl2.mono (fun z hz => List.mem_cons_of_mem _ (List.mem_cons_of_mem _ hz))) (prT y)[j] c2 ys2 (hl2.mono (fun z hz => List.mem_cons_of_mem _ (List.mem_cons_of_mem _ (List.mem_append_right _ hz))))) swap_mem) rfl rfl ?_
        refine e_as (congrArg Value.bool (congrArg (hsL L2) hx9.symm)) ?_
        refine (Q0)<|(Qm) ?_
        refine e_case (fun hb0 => ?_) (fun hb0 => ?_)
        · skip
          refine (Qy) ?_
          refine e_load1 (i := 2) (Uu 22) rfl rfl rfl (show _ = some _ from rfl) rfl ⟨[], trivial⟩ ?_
          refine (Qy)<|(Qm)<|(Qy) ?_
          refine e_atV hf2_1.shows (Uu 22) (Uz 24) rfl rfl (by omega) rfl ?_
          refine (Qy) ?_
          refine e_loadVS hf2_1.shows (seenM 1 rfl ⟨[], trivial⟩) (Uu 24) rfl (Uz 24) rfl (by decide) (by have := hf2_2.1; omega) hcs3 rfl ?_
          refine e_as (show _ = Value.agg (tC L2[i] c3) from rfl) ?_
          refine (Qy)<|(Qm)<|(Qy) ?_
          refine e_callS rfl rfl (Un 44) (seen_app (A := [_]) (seen1 3 rfl ⟨[], trivial⟩) (seen_app (A := [_]) (seen1 2 rfl ⟨[], trivial⟩) (seen_app (seenM 1 rfl ⟨[], trivial⟩) seenG))) (opens_fn (G := ((⟨r4, #[(Value.func (.func 38) #[] #[ptr r3])], 49⟩ : Blk) :: (⟨r3, #[w2], 22⟩ : Blk) :: (Option.toList oz2 ++ G))) r4 (hsL L2) (fun x c ys hX => cank_fn (G := (⟨r3, #[w2], 22⟩ : Blk) :: (Option.toList oz2 ++ G)) r3 r4 (hsL L2) (fun x c ys hX => Fn.more (hask_fn (G := (⟨r4, #[(Value.func (.func 38) #[] #[ptr r3])], 49⟩ : Blk) :: (Option.toList oz2 ++ G)) r3 L2 w2 ws2 (htl2.mono (fun z hz => List.mem_cons_of_mem _ (List.mem_cons_of_mem _ hz))) x c ys (hX.mono swap_mem)) swap_mem) x c ys hX) L2[i] c3 ys3 (hl3.mono (fun z hz => List.mem_cons_of_mem _ (List.mem_cons_of_mem _ (List.mem_append_right _ hz)))) h73) rfl rfl ?_
          refine e_as (congrArg (fun z => Value.bool (opB (hsL L2) z)) hy3) ?_
          refine (QT)<|Qn ?_
          exact ⟨⟨rfl, rfl, rfl, rfl, rfl, rfl, rfl, rfl, rfl, rfl, rfl, rfl, rfl, trivial⟩, ⟨bool_fin (by rw [hb0] <;> rfl), trivial⟩, ⟨rfl, rfl, rfl, rfl, rfl, trivial⟩⟩
        · skip
          refine (Qo)<|(Qo)<|(Qo)<|(Qo)<|(Qo)<|(Qo)<|(QF)<|Qn ?_
          exact ⟨⟨rfl, rfl, rfl, rfl, rfl, rfl, rfl, rfl, rfl, rfl, rfl, rfl, rfl, trivial⟩, ⟨bool_fin (by rw [hb0] <;> rfl), trivial⟩, ⟨rfl, rfl, rfl, rfl, rfl, trivial⟩⟩
      · simp only [catE]
        refine e_cond rfl ?_ ?_
        · intro hc2
          have hno := hc2
          have hnw : hsL L2 x = false ∧ opB (hsL L2) y = true := by simpa using hc2
          have hgr9 := hf2_3.next hy2 (hx9 ▸ List.getElem_mem hj2) hnw.1 hnw.2
          have hto9 : TO G (L2 ++ [x]) (ws2 ++ (tC (prT y)[j] c2).toList) := by rw [hx9]; exact hf2_2.app (to_one hl2)
          refine (Qq ⟨[], 1, [], none, (some (5, r3))⟩) ?_
          refine e_load1 (i := 2) (Uu 22) rfl rfl rfl (show _ = some _ from rfl) rfl ⟨[], trivial⟩ ?_
          refine (QD 4)<|(QC hf2_1.shows) ?_
          refine e_buildSl 5 #[iv 0, iv 0, iv 0, nilS] (Uu 22 rfl) (Uz 24 rfl) (Ub 24 rfl) (by decide) (by decide) rfl (by kernel_rfl) rfl fun r6 => ?_
          refine e_append 1 hf2_1 (shows_new _ _ (by rfl)) rfl (seen1 5 rfl ⟨[], trivial⟩) (Uu 22) (Uz 24) (Uy 24) (Ub 24) (by rfl) rfl rfl (by decide) (by simp only [maxLen]; omega) (by omega) rfl fun v5_2 oz5_2 ho5_2 => ?_
          refine e_atV ho5_2.shows (Uu 22) (Uz 24) rfl rfl (by omega) rfl ?_
          refine e_stOwnS (i := 1) ho5_2 (Uz 24) rfl rfl (arrv_size _ _) (cells_one ⟨fun _ => rfl, fun _ => rfl, fun _ => rfl, fun _ => shows_oneC hl2.2.1, trivial⟩) rfl (by omega) rfl (fun oz5_3 ho5_3 => ?_) (y_off 2 rfl (by decide) rfl (by decide))
          refine e_store1 (i := 2) (Uz 22) rfl rfl (shows_oneC (OwnS.shows (own_fill hf2_2.1 rfl ho5_3))) rfl rfl (hid_var rfl rfl) ?_ (y_var rfl rfl)
          refine Qn ?_
          have hown9 := own_app (L := L2) x (own_fill hf2_2.1 rfl ho5_3)
          refine Qp<|(Q2 1)<|(Qm)<|Qn ?_
          refine QzL ⟨j + 1, _, _, _, _, rfl, rfl, rfl, by omega, (by first | exact hown9 | exact hf2_1), (by first | exact hto9 | exact hf2_2), (by first | exact hgr9 | exact hf2_3), (by first | exact hf2_4.app _ | exact hf2_4), (by first | exact shutP_more (hf1_4.trans hf2_4) | exact shutP_next hj2 hx9 hno hf2_5)⟩ ⟨rfl, rfl, rfl, rfl, rfl, rfl, rfl, rfl, rfl, trivial⟩ ⟨rfl, rfl, rfl, rfl, trivial⟩ ?_
          omega
        · intro hc2
          have hno := hc2
          refine Qk<|Qp<|(Q2 1)<|(Qm)<|Qn ?_
          refine QzL ⟨j + 1, _, _, _, _, rfl, rfl, rfl, by omega, (by first | exact hown9 | exact hf2_1), (by first | exact hto9 | exact hf2_2), (by first | exact hgr9 | exact hf2_3), (by first | exact hf2_4.app _ | exact hf2_4), (by first | exact shutP_more (hf1_4.trans hf2_4) | exact shutP_next hj2 hx9 hno hf2_5)⟩ ⟨rfl, rfl, rfl, rfl, rfl, rfl, rfl, rfl, rfl, trivial⟩ ⟨rfl, rfl, rfl, rfl, trivial⟩ ?_
          omega
    · intro hc1
      have hc1 := of_decide_eq_false hc1
      have hz2 : j = (prT y).length := by omega
      refine Qe<|Qp<|(Qm)<|(Q2 1)<|(Qa)<|Qn ?_
      refine QzL ⟨i + 1, _, _, _, _, rfl, rfl, rfl, (by have := hf2_4.len; omega), hf2_1, hf2_2, hf2_3, (hf1_4.trans hf2_4), (shut_next hi1 hy hf1_4 hf2_4 hf1_5 hf2_5 hz2)⟩ ⟨rfl, rfl, rfl, rfl, rfl, rfl, trivial⟩ ⟨rfl, rfl, rfl, rfl, trivial⟩ ?_
      omega
  · intro hc0
    have hi1 : i = L1.length := by have := of_decide_eq_false hc0; omega
    have hL16 := hf1_3.len hn3
    refine Qe<|Qs<|Qs<|Qp ?_
    refine e_load1 (i := 2) (Uu 22) rfl rfl rfl (show _ = some _ from rfl) rfl ⟨[], trivial⟩ ?_
    refine (QC hf1_1.shows)<|(Qm)<|(QG)<|Qn ?_
    refine e_cond rfl ?_ ?_
    · intro hc3
      have hg9 := hc3
      refine e_goto ?_
      have hl1 := hf1_3.len hn3
      have hc9 := of_decide_eq_true hg9
      refine ⟨rfl, _, [], [(1, _), (2, (some ⟨r3, #[_], 22⟩))], ?_, ⟨rfl, rfl, rfl, rfl, trivial⟩, ⟨rfl, rfl, rfl, rfl, trivial⟩, _, _, _, _, rfl, rfl, rfl, hf1_1, hf1_2, hf1_3⟩
      omega
    · intro hc3
      have hg9 := of_decide_eq_false hc3
      rw [← hf1_3.fin hf1_4 (by omega) (hi1 ▸ hf1_5) hb]
      refine Qk<|Qs<|Qp<|(Qm)<|(QD 0) ?_
      refine e_callS rfl rfl (Un 41) (seen_app (A := [_]) (seen1 3 rfl ⟨[], trivial⟩) (seen_app (A := [_]) (seen1 2 rfl ⟨[], trivial⟩) (seen_app (seenM 1 rfl ⟨[], trivial⟩) seenG))) ((fun x c ys hX => cank_fn (G := (⟨r3, #[w1], 22⟩ : Blk) :: (Option.toList oz1 ++ G)) r3 r4 (hsL L1) (fun x c ys hX => Fn.more (hask_fn (G := (⟨r4, #[(Value.func (.func 38) #[] #[ptr r3])], 49⟩ : Blk) :: (Option.toList oz1 ++ G)) r3 L1 w1 ws1 ((hf1_2.tl hf1_1 (by simp only [maxLen]; omega)).mono (fun z hz => List.mem_cons_of_mem _ (List.mem_cons_of_mem _ hz))) x c ys (hX.mono swap_mem)) swap_mem) x c ys hX) t c xs (hT.mono (fun z hz => List.mem_cons_of_mem _ (List.mem_cons_of_mem _ (List.mem_append_right _ hz))))) rfl rfl ?_
      refine (Qa)<|Qn<|Qr ?_
      exact ⟨_, rfl, .tmp rfl⟩
end Go.Proofs.Ytnkelhmfpepehaa
namespace Go.Proofs.Ytnkelhmfpepehaa
open Go Go.RowKit
variable {G : Mem}
set_option maxHeartbeats 400000 in
theorem room_rec (l : List TT) (c : Value) (xs : List Value) (r d : Nat) (hT : TL G l c xs) (hr : r ≤ 300) (hd : d ≤ 40) (hrec : ∀ (u : List TT) (c : Value) (xs : List Value) (r d : Nat), deepL u < deepL l → TL G u c xs → r ≤ 300 → d ≤ 40 → Fn Try.prog G 34 #[c, ii r, ii d] (iv (roomL u r d))) : Fn Try.prog G 34 #[c, ii r, ii d] (iv (roomL l r d)) := by
  have hml := hT.1
  simp only [maxLen] at hml
  refine Qf1 Try.func34 ?_
  refine Qs<|Qp<|(Qa)<|Qn<|Qs<|Qs<|Qp<|(Qm)<|(QC hT.2.1)<|(Qm)<|Qn<|Qb ?_
  refine QzK [(2, _), (9, _), (10, _)] [] (fun kk E m => ∃ (i : Nat), kk = l.length - i ∧ E = [(1, ii (r - nodesL (l.take i))), (11, ii i)] ∧ m = [] ∧ (i ≤ l.length) ∧ (nodesL (l.take i) ≤ r) ∧ (∀ j (h : j < l.length), j < i → l[j].deep ≤ d)) ⟨0, rfl, rfl, rfl, by omega, by simp [nodesL], fun _ _ h => absurd h (Nat.not_lt_zero _)⟩ ⟨rfl, rfl, rfl, rfl, rfl, trivial⟩ trivial ?_
  rintro kk E m ⟨i, rfl, rfl, rfl, hf0_0, hf0_1, hf0_2⟩
  simp only [catE, catL]
  refine Qs<|Qp<|(Ql)<|Qn<|Qs ?_
  refine e_cond rfl ?_ ?_
  · intro hc0
    have hc0 : i < l.length := by have := of_decide_eq_true hc0; omega
    obtain ⟨c1, ys1, hcs1, hl1⟩ := hT.at (show i < l.length by omega)
    have hin1 := List.getElem_mem (show i < l.length by omega)
    have hdp : deepL l[i].args < deepL l := by have h1 := deepL_le.1 (Nat.le_refl (deepL l)) _ hin1; have h2 := l[i].deep_eq; omega
    refine Qk<|Qs<|Qb<|Qs<|Qp ?_
    refine e_atV hT.2.1 (Uu 22) (Uz 24) rfl rfl (by omega) rfl ?_
    refine e_loadVS hT.2.1 seenG (Uu 24) rfl (Uz 24) rfl (by decide) (by have := hT.2.1.len; omega) hcs1 rfl ?_
    refine e_as (show _ = Value.agg (tC l[i] c1) from rfl) ?_
    refine (QH 0) fun r1=>?_
    refine e_storeA (i := 0) (Uz 24) rfl rfl (arrv_size _ _) (cells_one ⟨fun _ => rfl, fun _ => rfl, fun _ => rfl, fun _ => shows_oneC hl1.2.1, trivial⟩) rfl cells_sz (.inl rfl) ?_
    refine Qn<|Qs<|Qs<|Qp ?_
    refine e_join [(1, _), (2, _), (8, _), (9, _), (10, _), (11, _), (12, _), (13, _), (14, _)] [(20, .bool (decide (((r - nodesL (l.take i) : Nat) : Int) = 0) || decide ((d : Int) = 0)))] [(0, some _)] ⟨rfl, rfl, rfl, rfl, rfl, rfl, rfl, rfl, rfl, trivial⟩ ⟨rfl, trivial⟩ ?_ ?_
    · skip
      refine (Qm)<|(Qc)<|(Qm) ?_
      refine e_case (fun hb0 => ?_) (fun hb0 => ?_)
      · skip
        refine (Qo)<|(Qo)<|(QT)<|Qn ?_
        exact ⟨⟨rfl, rfl, rfl, rfl, rfl, rfl, rfl, rfl, rfl, trivial⟩, ⟨bool_fin (by rw [hb0] <;> rfl), trivial⟩, ⟨rfl, trivial⟩⟩
      · skip
        refine (Qy)<|(Qm)<|(Qy)<|(Qc)<|(QF)<|Qn ?_
        exact ⟨⟨rfl, rfl, rfl, rfl, rfl, rfl, rfl, rfl, rfl, trivial⟩, ⟨bool_fin (by rw [hb0] <;> rfl), trivial⟩, ⟨rfl, trivial⟩⟩
    · simp only [catE]
      refine e_cond rfl ?_ ?_
      · intro hc1
        rw [room_full (by assumption) (by have := or_true2 hc1; omega)]
        refine Qs<|Qp<|(Qa)<|Qn<|Qr ?_
        first | rw [room_end (by rw [← hz0]; exact hf0_1) (fun j h => hf0_2 j h (by omega)), ← hz0] | skip
        exact ⟨_, rfl, .tmp rfl⟩
      · intro hc1
        have hz := or_false2 hc1
        refine Qk<|Qs<|Qp<|(Qf 3)<|(QV 3 0)<|(Qm) ?_
        refine e_sub_in (q := 1) rfl rfl rfl (by omega) (by omega) ?_
        refine (Qm) ?_
        refine e_sub_in (q := 1) rfl rfl rfl (by omega) (by omega) ?_
        refine e_call rfl (Un 34) (hrec l[i].args c1 ys1 (r - nodesL (l.take i) - 1) (d - 1) hdp hl1 (by omega) (by omega)) rfl rfl ?_
        refine (Qa)<|Qn<|Qs<|Qp<|(Qm)<|(Ql)<|Qn ?_
        refine e_cond rfl ?_ ?_
        · intro hc2
          rw [room_bad (l := l) (r := r) (d := d) (i := i) (by assumption) (by omega) (by omega) (by have := of_decide_eq_true hc2; exact this)]
          refine Qs<|Qp<|(Qa)<|Qn<|Qr ?_
          first | rw [room_end (by rw [← hz0]; exact hf0_1) (fun j h => hf0_2 j h (by omega)), ← hz0] | skip
          exact ⟨_, rfl, .tmp rfl⟩
        · intro hc2
          have hnx := room_next (l := l) (r := r) (d := d) (i := i) (by assumption) (by omega) (by omega) (by have := of_decide_eq_false hc2; exact this)
          refine Qk<|Qp<|(Q2 1)<|(Qm)<|Qn ?_
          refine QzL ⟨i + 1, rfl, rfl, rfl, by omega, hnx.2.1, fun j h hj => by by_cases e : j = i; (subst e; exact hnx.2.2); exact hf0_2 j h (by omega)⟩ ⟨by rw [hnx.1]; rfl, rfl, rfl, rfl, rfl, trivial⟩ trivial ?_
          omega
  · intro hc0
    have hc0 := of_decide_eq_false hc0
    have hz0 : i = l.length := by omega
    refine Qe<|Qs<|Qp<|(Qm)<|(Qa)<|Qn<|Qr ?_
    first | rw [room_end (by rw [← hz0]; exact hf0_1) (fun j h => hf0_2 j h (by omega)), ← hz0] | skip
    exact ⟨_, rfl, .tmp rfl⟩
set_option maxHeartbeats 400000 in
theorem width_fn (k : Int) : Fn Try.prog G 35 #[iv k] (ii (wdt k)) := by
  refine Qf1 Try.func35 ?_
  refine Qs<|Qp<|(Qa)<|Qn<|Qs<|Qs<|Qp<|(Qm)<|Qn<|Qb<|Qs<|Qp<|(Qc)<|(Qa)<|Qn ?_
  refine e_cond rfl ?_ ?_
  · intro hc0
    have hc0 := of_decide_eq_true hc0
    refine Qs<|Qp<|(Qa)<|Qn<|Qr ?_
    rcases wdt_ways k with ⟨h9, e9⟩ | ⟨h8, h9, e9⟩ | ⟨h9, e9⟩ | ⟨h9, e9⟩ <;> first | (exfalso; omega) | rw [e9]
    exact ⟨_, rfl, .tmp rfl⟩
  · intro hc0
    have hc0 := of_decide_eq_false hc0
    refine Qs<|Qs<|Qp<|(Qc)<|(Qa)<|Qn ?_
    refine s_join [(0, _), (2, _), (3, _), (4, _), (5, _), (7, _)] [(6, .bool (decide (k = 4) || decide (k = 6)))] [] ⟨rfl, rfl, rfl, rfl, rfl, rfl, trivial⟩ trivial ?_ ?_
    · skip
      refine e_cond rfl ?_ ?_
      · intro hc1
        have hc1 := of_decide_eq_true hc1
        refine Qk ?_
        exact ⟨⟨rfl, rfl, rfl, rfl, rfl, rfl, trivial⟩, ⟨(by simp_all; rfl), trivial⟩, trivial⟩
      · intro hc1
        have hc1 := of_decide_eq_false hc1
        refine Qp<|(Qc)<|(Qa)<|Qn ?_
        exact ⟨⟨rfl, rfl, rfl, rfl, rfl, rfl, trivial⟩, ⟨(by simp_all; rfl), trivial⟩, trivial⟩
    · simp only [catE]
      refine e_cond rfl ?_ ?_
      · intro hc2
        have h50 := or_true2 hc2
        refine Qs<|Qp<|(Qa)<|Qn<|Qr ?_
        rcases wdt_ways k with ⟨h9, e9⟩ | ⟨h8, h9, e9⟩ | ⟨h9, e9⟩ | ⟨h9, e9⟩ <;> first | (exfalso; omega) | rw [e9]
        exact ⟨_, rfl, .tmp rfl⟩
      · intro hc2
        have h50 := or_false2 hc2
        refine Qs<|Qp<|(Qc)<|(Qa)<|Qn ?_
        refine e_cond rfl ?_ ?_
        · intro hc3
          have hc3 := of_decide_eq_true hc3
          refine Qs<|Qp<|(Qa)<|Qn<|Qr ?_
          rcases wdt_ways k with ⟨h9, e9⟩ | ⟨h8, h9, e9⟩ | ⟨h9, e9⟩ | ⟨h9, e9⟩ <;> first | (exfalso; omega) | rw [e9]
          exact ⟨_, rfl, .tmp rfl⟩
        · intro hc3
          have hc3 := of_decide_eq_false hc3
          refine Qk<|Qs<|Qp<|(Qa)<|Qn<|Qr ?_
          rcases wdt_ways k with ⟨h9, e9⟩ | ⟨h8, h9, e9⟩ | ⟨h9, e9⟩ | ⟨h9, e9⟩ <;> first | (exfalso; omega) | rw [e9]
          exact ⟨_, rfl, .tmp rfl⟩
set_option maxHeartbeats 400000 in
theorem numbered_fn (t : TT) (c : Value) : Fn Try.prog G 36 #[.agg (tC t c)] (.bool (numB t.kind t.id t.other)) := by
  refine Qf1 Try.func36 ?_
  refine Qs<|Qp<|(Qh 0) fun r1=>(Qa)<|Qn<|Qs<|Qs<|Qp<|(Qf 0)<|(QV 0 0)<|Qn<|Qb<|Qs<|Qp<|(Qc)<|(Qa)<|Qn ?_
  refine e_cond rfl ?_ ?_
  · intro hc0
    have hc0 := of_decide_eq_true hc0
    refine Qs<|Qp ?_
    refine e_join [(0, _), (1, _), (3, _), (4, _), (5, _), (6, _)] [(2, .bool (decide (0 ≤ t.id) && decide (t.id ≤ t.other)))] [(0, some _)] ⟨rfl, rfl, rfl, rfl, rfl, rfl, trivial⟩ ⟨rfl, trivial⟩ ?_ ?_
    · skip
      refine (Qf 1)<|(QV 1 0)<|(QE)<|(Qm) ?_
      refine e_case (fun hb0 => ?_) (fun hb0 => ?_)
      · skip
        refine (Qy)<|(Qf 2)<|(Qy)<|(QV 2 0)<|(Qy)<|(Qf 1)<|(Qy)<|(QV 1 0)<|(Qy)<|(QE)<|(QT)<|(Qa)<|Qn ?_
        exact ⟨⟨rfl, rfl, rfl, rfl, rfl, rfl, trivial⟩, ⟨bool_fin (by rw [hb0] <;> rfl), trivial⟩, ⟨rfl, trivial⟩⟩
      · skip
        refine (Qo)<|(Qo)<|(Qo)<|(Qo)<|(Qo)<|(QF)<|(Qa)<|Qn ?_
        exact ⟨⟨rfl, rfl, rfl, rfl, rfl, rfl, trivial⟩, ⟨bool_fin (by rw [hb0] <;> rfl), trivial⟩, ⟨rfl, trivial⟩⟩
    · simp only [catE]
      refine Qr ?_
      rcases num_ways t.kind t.id t.other with ⟨h9, e9⟩ | ⟨h9, e9⟩ | ⟨h9, e9⟩ <;> first | (exfalso; omega) | rw [e9]
      exact ⟨_, rfl, .tmp rfl⟩
  · intro hc0
    have hc0 := of_decide_eq_false hc0
    refine Qs<|Qs<|Qp<|(Qc)<|(Qa)<|Qn ?_
    refine s_join [(0, _), (1, _), (2, _), (3, _), (4, _), (5, _), (6, _), (18, _)] [(17, .bool (decide (t.kind = 1) || (decide (t.kind = 2) || decide (t.kind = 6))))] [(0, some _)] ⟨rfl, rfl, rfl, rfl, rfl, rfl, rfl, rfl, trivial⟩ ⟨rfl, trivial⟩ ?_ ?_
    · skip
      refine e_cond rfl ?_ ?_
      · intro hc1
        have hc1 := of_decide_eq_true hc1
        refine Qk ?_
        exact ⟨⟨rfl, rfl, rfl, rfl, rfl, rfl, rfl, rfl, trivial⟩, ⟨(by simp_all; rfl), trivial⟩, ⟨rfl, trivial⟩⟩
      · intro hc1
        have hc1 := of_decide_eq_false hc1
        refine Qs<|Qp<|(Qc)<|(Qa)<|Qn ?_
        refine e_cond rfl ?_ ?_
        · intro hc2
          have hc2 := of_decide_eq_true hc2
          refine Qk ?_
          exact ⟨⟨rfl, rfl, rfl, rfl, rfl, rfl, rfl, rfl, trivial⟩, ⟨(by simp_all; rfl), trivial⟩, ⟨rfl, trivial⟩⟩
        · intro hc2
          have hc2 := of_decide_eq_false hc2
          refine Qp<|(Qc)<|(Qa)<|Qn ?_
          exact ⟨⟨rfl, rfl, rfl, rfl, rfl, rfl, rfl, rfl, trivial⟩, ⟨(by simp_all; rfl), trivial⟩, ⟨rfl, trivial⟩⟩
    · simp only [catE]
      refine e_cond rfl ?_ ?_
      · intro hc3
        have h50 : t.kind = 1 ∨ t.kind = 2 ∨ t.kind = 6 := by simpa using hc3
        refine Qs<|Qp ?_
        refine e_join [(0, _), (1, _), (3, _), (4, _), (5, _), (6, _), (17, _), (18, _)] [(2, .bool (decide (0 ≤ t.id) && decide (t.other = 0)))] [(0, some _)] ⟨rfl, rfl, rfl, rfl, rfl, rfl, rfl, rfl, trivial⟩ ⟨rfl, trivial⟩ ?_ ?_
        · skip
          refine (Qf 1)<|(QV 1 0)<|(QE)<|(Qm) ?_
          refine e_case (fun hb1 => ?_) (fun hb1 => ?_)
          · skip
            refine (Qy)<|(Qf 2)<|(Qy)<|(QV 2 0)<|(Qy)<|(Qc)<|(QT)<|(Qa)<|Qn ?_
            exact ⟨⟨rfl, rfl, rfl, rfl, rfl, rfl, rfl, rfl, trivial⟩, ⟨bool_fin (by rw [hb1] <;> rfl), trivial⟩, ⟨rfl, trivial⟩⟩
          · skip
            refine (Qo)<|(Qo)<|(Qo)<|(QF)<|(Qa)<|Qn ?_
            exact ⟨⟨rfl, rfl, rfl, rfl, rfl, rfl, rfl, rfl, trivial⟩, ⟨bool_fin (by rw [hb1] <;> rfl), trivial⟩, ⟨rfl, trivial⟩⟩
        · simp only [catE]
          refine Qr ?_
          rcases num_ways t.kind t.id t.other with ⟨h9, e9⟩ | ⟨h9, e9⟩ | ⟨h9, e9⟩ <;> first | (exfalso; omega) | rw [e9]
          exact ⟨_, rfl, .tmp rfl⟩
      · intro hc3
        have h50 : ¬ (t.kind = 1 ∨ t.kind = 2 ∨ t.kind = 6) := by simpa using hc3
        refine Qk<|Qs<|Qp ?_
        refine e_join [(0, _), (1, _), (3, _), (4, _), (5, _), (6, _), (17, _), (18, _)] [(2, .bool (decide (t.id = 0) && decide (t.other = 0)))] [(0, some _)] ⟨rfl, rfl, rfl, rfl, rfl, rfl, rfl, rfl, trivial⟩ ⟨rfl, trivial⟩ ?_ ?_
        · skip
          refine (Qf 1)<|(QV 1 0)<|(Qc)<|(Qm) ?_
          refine e_case (fun hb2 => ?_) (fun hb2 => ?_)
          · skip
            refine (Qy)<|(Qf 2)<|(Qy)<|(QV 2 0)<|(Qy)<|(Qc)<|(QT)<|(Qa)<|Qn ?_
            exact ⟨⟨rfl, rfl, rfl, rfl, rfl, rfl, rfl, rfl, trivial⟩, ⟨bool_fin (by rw [hb2] <;> rfl), trivial⟩, ⟨rfl, trivial⟩⟩
          · skip
            refine (Qo)<|(Qo)<|(Qo)<|(QF)<|(Qa)<|Qn ?_
            exact ⟨⟨rfl, rfl, rfl, rfl, rfl, rfl, rfl, rfl, trivial⟩, ⟨bool_fin (by rw [hb2] <;> rfl), trivial⟩, ⟨rfl, trivial⟩⟩
        · simp only [catE]
          refine Qr ?_
          rcases num_ways t.kind t.id t.other with ⟨h9, e9⟩ | ⟨h9, e9⟩ | ⟨h9, e9⟩ <;> first | (exfalso; omega) | rw [e9]
          exact ⟨_, rfl, .tmp rfl⟩
end Go.Proofs.Ytnkelhmfpepehaa
namespace Go.Proofs.Ytnkelhmfpepehaa
open Go Go.RowKit
theorem room_fn {G : Mem} : ∀ (n : Nat) (l : List TT) (c : Value) (xs : List Value) (r d : Nat), deepL l ≤ n → TL G l c xs → r ≤ 300 → d ≤ 40 → Fn Try.prog G 34 #[c, ii r, ii d] (iv (roomL l r d)) := by
  intro n
  induction n with
  | zero => exact fun l c xs r d hn hT hr hd => room_rec l c xs r d hT hr hd fun u _ _ _ _ h => by omega
  | succ n ih => exact fun l c xs r d hn hT hr hd => room_rec l c xs r d hT hr hd fun u c xs r d h hT hr hd => ih u c xs r d (by omega) hT hr hd
variable {G : Mem}
set_option maxHeartbeats 400000 in
theorem fits_fn (l : List TT) (c : Value) (xs : List Value) (hT : TL G l c xs) : Fn Try.prog G 21 #[c] (.bool (fitsL l)) := by
  refine Qf1 Try.func21 ?_
  refine Qs<|Qp<|(Qa)<|Qn<|Qs<|Qp<|(Qm) ?_
  refine e_call rfl (Un 34) (room_fn _ l c xs 300 40 (Nat.le_refl _) hT (by decide) (by decide)) rfl rfl ?_
  refine (QE) ?_
  refine e_as (congrArg Value.bool (room_fits l)) ?_
  refine (Qa)<|Qn<|Qr ?_
  exact ⟨_, rfl, .tmp rfl⟩
set_option maxHeartbeats 400000 in
theorem forms_rec (l : List TT) (c : Value) (xs : List Value) (hT : TL G l c xs) (hrec : ∀ (t : TT) (c : Value) (ys : List Value), t ∈ l → TL G t.args c ys → Fn Try.prog G 22 #[.agg (tC t c)] (ii t.form)) : Fn Try.prog G 26 #[c] (ii (formL l)) := by
  have hml := hT.1
  simp only [maxLen] at hml
  refine Qf1 Try.func26 ?_
  refine Qs<|Qp<|(Qa)<|Qn<|Qs<|Qs<|Qp<|(Qm)<|(QC hT.2.1)<|(Qm)<|Qn<|Qb ?_
  refine QzK [(6, _), (7, _)] [] (fun kk E m => ∃ (i : Nat), kk = l.length - i ∧ E = [(8, ii i)] ∧ m = [] ∧ (i ≤ l.length) ∧ (∀ j (h : j < l.length), j < i → l[j].form = 0)) ⟨0, rfl, rfl, rfl, by omega, fun _ _ h => absurd h (Nat.not_lt_zero _)⟩ ⟨rfl, rfl, rfl, trivial⟩ trivial ?_
  rintro kk E m ⟨i, rfl, rfl, rfl, hf0_0, hf0_1⟩
  simp only [catE, catL]
  refine Qs<|Qp<|(Ql)<|Qn<|Qs ?_
  refine e_cond rfl ?_ ?_
  · intro hc0
    have hc0 : i < l.length := by have := of_decide_eq_true hc0; omega
    obtain ⟨c1, ys1, hcs1, hl1⟩ := hT.at (show i < l.length by omega)
    have hin1 := List.getElem_mem (show i < l.length by omega)
    refine Qk<|Qs<|Qb<|Qs<|Qp ?_
    refine e_atV hT.2.1 (Uu 22) (Uz 24) rfl rfl (by omega) rfl ?_
    refine e_loadVS hT.2.1 seenG (Uu 24) rfl (Uz 24) rfl (by decide) (by have := hT.2.1.len; omega) hcs1 rfl ?_
    refine e_as (show _ = Value.agg (tC l[i] c1) from rfl) ?_
    refine (QH 0) fun r1=>?_
    refine e_storeA (i := 0) (Uz 24) rfl rfl (arrv_size _ _) (cells_one ⟨fun _ => rfl, fun _ => rfl, fun _ => rfl, fun _ => shows_oneC hl1.2.1, trivial⟩) rfl cells_sz (.inl rfl) ?_
    refine Qn<|Qs<|Qp<|(QD 0) ?_
    refine e_call rfl (Un 22) (hrec l[i] c1 ys1 hin1 hl1) rfl rfl ?_
    refine (Qa)<|Qn<|Qs<|Qp<|(Qm)<|(QN)<|Qn ?_
    refine e_cond rfl ?_ ?_
    · intro hc1
      have hne := of_decide_eq_true hc1
      rw [formL_at (i := i) (by assumption) (fun j hj => hf0_1 j (by omega) hj) (by omega)]
      refine Qs<|Qp<|(Qm)<|(Qa)<|Qn<|Qr ?_
      first | rw [formL_none (fun j h => hf0_1 j h (by omega))] | skip
      exact ⟨_, rfl, .tmp rfl⟩
    · intro hc1
      have hz9 : l[i].form = 0 := by have := of_decide_eq_false hc1; omega
      refine Qk<|Qp<|(Q2 1)<|(Qm)<|Qn ?_
      refine QzL ⟨i + 1, rfl, rfl, rfl, by omega, fun j h hj => by by_cases e : j = i; (subst e; exact hz9); exact hf0_1 j h (by omega)⟩ ⟨rfl, rfl, rfl, trivial⟩ trivial ?_
      omega
  · intro hc0
    have hc0 := of_decide_eq_false hc0
    have hz0 : i = l.length := by omega
    refine Qe<|Qs<|Qp<|(Qa)<|Qn<|Qr ?_
    first | rw [formL_none (fun j h => hf0_1 j h (by omega))] | skip
    exact ⟨_, rfl, .tmp rfl⟩
set_option maxHeartbeats 400000 in
theorem form_rec (t : TT) (c : Value) (xs : List Value) (hT : TL G t.args c xs) (hrec : Fn Try.prog G 26 #[c] (ii (formL t.args))) : Fn Try.prog G 22 #[.agg (tC t c)] (ii t.form) := by
  have hml := hT.1
  simp only [maxLen] at hml
  have hco := shows_oneC hT.2.1
  refine Qf1 Try.func22 ?_
  refine Qs<|Qp<|(Qh 0) fun r1=>(Qa)<|Qn<|Qs<|Qs<|Qp ?_
  refine e_join [(0, _), (1, _), (2, _)] [(10, .bool (decide (t.kind < 1) || decide (7 < t.kind)))] [(0, some _)] ⟨rfl, rfl, rfl, trivial⟩ ⟨rfl, trivial⟩ ?_ ?_
  · skip
    refine (Qf 0)<|(QV 0 0)<|(Ql)<|(Qm) ?_
    refine e_case (fun hb0 => ?_) (fun hb0 => ?_)
    · skip
      refine (Qo)<|(Qo)<|(Qo)<|(QT)<|Qn ?_
      exact ⟨⟨rfl, rfl, rfl, trivial⟩, ⟨bool_fin (by rw [hb0] <;> rfl), trivial⟩, ⟨rfl, trivial⟩⟩
    · skip
      refine (Qy)<|(Qf 0)<|(Qy)<|(QV 0 0)<|(Qy)<|(QG)<|(QF)<|Qn ?_
      exact ⟨⟨rfl, rfl, rfl, trivial⟩, ⟨bool_fin (by rw [hb0] <;> rfl), trivial⟩, ⟨rfl, trivial⟩⟩
  · simp only [catE]
    refine e_cond rfl ?_ ?_
    · intro hc0
      rw [form_eq, if_pos (or_true2 hc0)]
      refine Qs<|Qp<|(Qa)<|Qn<|Qr ?_
      exact ⟨_, rfl, .tmp rfl⟩
    · intro hc0
      have h36 := or_false2 hc0
      refine Qk<|Qs<|Qs<|(Qg) ?_
      refine e_join [(0, _), (1, _), (2, _), (10, _)] [(22, .bool (decide ((t.args.length : Int) ≠ (wdt t.kind : Int)) || !numB t.kind t.id t.other))] [(0, some _)] ⟨rfl, rfl, rfl, rfl, trivial⟩ ⟨rfl, trivial⟩ ?_ ?_
      · skip
        refine (Qf 3)<|(QV 3 0)<|(QC hT.2.1)<|(Qf 0)<|(QV 0 0) ?_
        refine e_call rfl (Un 35) (width_fn t.kind) rfl rfl ?_
        refine (QN)<|(Qm) ?_
        refine e_case (fun hb1 => ?_) (fun hb1 => ?_)
        · skip
          refine (Qo)<|(Qo)<|(Qo)<|(QT)<|Qn ?_
          exact ⟨⟨rfl, rfl, rfl, rfl, trivial⟩, ⟨bool_fin (by rw [hb1] <;> rfl), trivial⟩, ⟨rfl, trivial⟩⟩
        · skip
          refine (Qy)<|(QD 0)<|(Qy) ?_
          refine e_call rfl (Un 36) (numbered_fn t c) rfl rfl ?_
          refine (Qy)<|(Q0)<|(QF)<|Qn ?_
          exact ⟨⟨rfl, rfl, rfl, rfl, trivial⟩, ⟨bool_fin (by rw [hb1] <;> rfl), trivial⟩, ⟨rfl, trivial⟩⟩
      · simp only [catE]
        refine e_cond rfl ?_ ?_
        · intro hc1
          rw [form_eq, if_neg h36, if_pos (by cases hn : numB t.kind t.id t.other; exact .inr rfl; (rw [hn] at hc1; left; intro e; simp [e] at hc1))]
          refine Qs<|Qp<|(Qa)<|Qn<|Qr ?_
          exact ⟨_, rfl, .tmp rfl⟩
        · intro hc1
          rw [form_eq, if_neg h36, if_neg (by cases hn : numB t.kind t.id t.other; (rw [hn] at hc1; simp at hc1); (rw [hn] at hc1; intro h7; have h8 : ((t.args.length : Nat) : Int) = ((wdt t.kind : Nat) : Int) := (by simpa using hc1); rcases h7 with h7 | h7; exact h7 (by omega); cases h7))]
          refine Qk<|Qs<|Qp<|(Qf 3)<|(QV 3 0) ?_
          refine e_call rfl (Un 26) hrec rfl rfl ?_
          refine (Qa)<|Qn<|Qr ?_
          exact ⟨_, rfl, .tmp rfl⟩
end Go.Proofs.Ytnkelhmfpepehaa
namespace Go.Proofs.Ytnkelhmfpepehaa
open Go Go.RowKit
theorem form_fn {G : Mem} (t : TT) : ∀ (c : Value) (ys : List Value), TL G t.args c ys → Fn Try.prog G 22 #[.agg (tC t c)] (ii t.form) := by
  refine TT.ind (p := fun t => ∀ (c : Value) (ys : List Value), TL G t.args c ys → Fn Try.prog G 22 #[.agg (tC t c)] (ii t.form)) (fun t ih c ys hT => ?_) t
  exact form_rec t c ys hT (forms_rec t.args c ys hT fun a c ys ha hA => ih a ha c ys hA)
theorem forms_fn {G : Mem} (l : List TT) (c : Value) (xs : List Value) (hT : TL G l c xs) : Fn Try.prog G 26 #[c] (ii (formL l)) := forms_rec l c xs hT fun t c ys _ h => form_fn t c ys h
variable {G : Mem}
set_option maxHeartbeats 400000 in
theorem tcheck_fn (t : TT) (c : Value) (xs : List Value) (hT : TL G t.args c xs) : Fn Try.prog G 9 #[.agg (tC t c)] (ii (chkT t)) := by
  have hco := shows_oneC hT.2.1
  refine Qf1 Try.func9 ?_
  refine Qs<|Qp<|(Qh 0) fun r1=>(Qa)<|Qn<|Qs<|Qs<|Qp<|(QD 0) ?_
  refine e_buildSl 1 (tC t c) (Uu 22 rfl) (Uz 24 rfl) (Ub 24 rfl) (by decide) (by decide) rfl (fill_tC (by kernel_rfl)) rfl fun r2 => ?_
  refine e_callS rfl rfl (Un 21) (seen_cons 1 rfl) (fits_fn (G := ⟨r2, tC t c, 24⟩ :: G) [t] _ _ (tl_one (hT.mono (fun _ h => List.mem_cons_of_mem _ h)) (List.mem_cons_self ..))) rfl rfl ?_
  refine (Q0)<|Qn ?_
  refine e_cond rfl ?_ ?_
  · intro hc0
    rw [show chkT t = 1 by unfold chkT; rw [if_neg (by simpa using hc0)]]
    refine Qs<|Qp<|(Qa)<|Qn<|Qr ?_
    exact ⟨_, rfl, .tmp rfl⟩
  · intro hc0
    rw [show chkT t = t.form by unfold chkT; rw [if_pos (by simpa using hc0)]]
    refine Qk<|Qs<|Qp<|(QD 0) ?_
    refine e_call rfl (Un 22) (form_fn t c xs hT) rfl rfl ?_
    refine (Qa)<|Qn<|Qr ?_
    exact ⟨_, rfl, .tmp rfl⟩
end Go.Proofs.Ytnkelhmfpepehaa
namespace Go.Proofs.Ytnkelhmfpepehaa
open Go Go.RowKit
variable {G : Mem}
set_option maxHeartbeats 400000 in
theorem tknows_fn (l : List TT) (v : Value) (vs : List Value) (hL : TL G l v vs) (t : TT) (c : Value) (xs : List Value) (hT : TL G t.args c xs) (hf : fitsL l = true) (hg : ∀ x ∈ l, x.form = 0) (ht : chkT t = 0) (b : Bool) (hb : b = true ↔ KN l t) : Fn Try.prog G 13 #[v, .agg (tC t c)] (.tuple #[.bool b, ii 0]) := by
  have hco := shows_oneC hT.2.1
  have hn3 : nodesL l ≤ 300 := fits_nodes hf
  refine Qf2 Try.func13 ?_
  refine Qs<|Qp<|(Qh 0) fun r1=>(Qa)<|(Qa)<|Qn<|Qs<|Qs<|Qp<|(Qm) ?_
  refine e_call rfl (Un 21) (fits_fn l v vs hL) rfl rfl ?_
  refine e_as (congrArg Value.bool hf) ?_
  refine (Q0)<|Qn<|(Qcf)<|Qk<|Qs<|Qs<|Qp<|(Qm) ?_
  refine e_call rfl (Un 26) (forms_fn l v vs hL) rfl rfl ?_
  refine e_as (congrArg ii (fst1_all hg)) ?_
  refine (Qa)<|Qn<|Qs<|Qp<|(Qm)<|(QN) ?_
  refine e_as (congrArg Value.bool (decide_eq_false (by decide))) ?_
  refine Qn<|(Qcf)<|Qk<|Qs<|Qs<|Qp<|(QD 0) ?_
  refine e_call rfl (Un 9) (tcheck_fn t c xs hT) rfl rfl ?_
  refine e_as (congrArg ii ht) ?_
  refine (Qa)<|Qn<|Qs<|Qp<|(Qm)<|(QN) ?_
  refine e_as (congrArg Value.bool (decide_eq_false (by decide))) ?_
  refine Qn<|(Qcf)<|Qk<|Qs<|Qp<|(Qm)<|(QD 0) ?_
  refine e_call rfl (Un 27) (knows_fn l v vs hL t c xs hT hn3 hg b hb) rfl rfl ?_
  refine (Qa)<|(Qa)<|Qn<|Qr ?_
  exact ⟨_, _, rfl, .tmp rfl, .tmp rfl⟩
end Go.Proofs.Ytnkelhmfpepehaa
namespace Go.Proofs.Ytnkelhmfpepehaa
open Go Go.RowKit
variable {G : Mem}
set_option maxHeartbeats 2000000 in
theorem tells_fn : Fn Try.prog G 18 #[] (.bool true) := by
  refine Qf1 Try.func18 ?_
  refine Qs<|Qp<|(Qa)<|Qn<|Qs<|Qp ?_
  refine e_call rfl (Un 20) (atom_fn 1) rfl rfl ?_
  refine e_buildSl 0 (tC (atomT 1) nilS) (Uu 22 rfl) (Uz 24 rfl) (Ub 24 rfl) (by decide) (by decide) rfl (fill_tC (by kernel_rfl)) rfl fun r1 => ?_
  refine e_call rfl (Un 20) (atom_fn 1) rfl rfl ?_
  refine e_callS rfl rfl (Un 13) (seen1 0 rfl ⟨[], trivial⟩) (tknows_fn (G := [(⟨r1, tC (atomT 1) nilS, 24⟩ : Blk)]) [atomT 1] _ _ (tl_one tl_nil (List.mem_singleton.2 rfl)) (atomT 1) nilS [] tl_nil (atom_fits 1) (fun x hx => by rw [List.mem_singleton.1 hx]; exact atom_form (by decide)) (atom_chk (by decide)) true tells_yes) rfl rfl ?_
  refine (Qm)<|(Qx)<|(Qx)<|(Qa)<|(Qa)<|Qn<|Qs<|Qp ?_
  refine e_call rfl (Un 20) (atom_fn 1) rfl rfl ?_
  refine e_buildSl 1 (tC (atomT 1) nilS) (Uu 22 rfl) (Uz 24 rfl) (Ub 24 rfl) (by decide) (by decide) rfl (fill_tC (by kernel_rfl)) rfl fun r2 => ?_
  refine e_call rfl (Un 20) (atom_fn 2) rfl rfl ?_
  refine e_callS rfl rfl (Un 13) (seen1 1 rfl ⟨[], trivial⟩) (tknows_fn (G := [(⟨r2, tC (atomT 1) nilS, 24⟩ : Blk)]) [atomT 1] _ _ (tl_one tl_nil (List.mem_singleton.2 rfl)) (atomT 2) nilS [] tl_nil (atom_fits 1) (fun x hx => by rw [List.mem_singleton.1 hx]; exact atom_form (by decide)) (atom_chk (by decide)) false tells_no) rfl rfl ?_
  refine (Qm)<|(Qx)<|(Qx)<|(Qa)<|(Qa)<|Qn<|Qs<|Qp<|(Qm)<|(Qc)<|(Qar)<|(Qm)<|(Qy)<|(Qm)<|(Qy)<|(Qc)<|(Qar)<|(QT)<|(Qm)<|(Qy)<|(Qm)<|(QT)<|(Qm)<|(Qy)<|(Qm)<|(Qy)<|(Q0)<|(QT)<|(Qa)<|Qn<|Qr ?_
  exact ⟨_, rfl, .tmp rfl⟩
end Go.Proofs.Ytnkelhmfpepehaa
namespace Go.Proofs.Ytnkelhmfpepehaa
open Go Go.RowKit
variable {G : Mem}
set_option maxHeartbeats 8000000 in
theorem knowsMore_fn (v0 : Value) (rs0 : List RawT) (hv0 : Shows G 4 v0 rs0.length (rs0.flatMap rawC)) (v1 : Value) (rs1 : List RawT) (hv1 : Shows G 4 v1 rs1.length (rs1.flatMap rawC)) (v2 : Value) (rs2 : List RawT) (hv2 : Shows G 4 v2 rs2.length (rs2.flatMap rawC)) : Fn Try.prog G 5 #[v0, v1, v2] (.bool true) := by
  obtain ⟨a0, a2, a3, a4, a5⟩ := terms_facts (n := 6) (by decide) rs0
  obtain ⟨b0, b2, b3, b4, b5⟩ := terms_facts (n := 4) (by decide) rs1
  obtain ⟨t1, t2, t3, t4⟩ := term_facts (k := 6) (by decide) rs2
  obtain ⟨k1, hk1⟩ := bool_of (KN (tsOf 4 6 (rs0.take 24)) (tOf 4 (rs2.take 6)).1)
  obtain ⟨k2, hk2⟩ := bool_of (KN ((tsOf 4 6 (rs0.take 24)) ++ (tsOf 4 4 (rs1.take 24))) (tOf 4 (rs2.take 6)).1)
  have hmo := b_more hk1 hk2 (KN_more fun x hx => List.mem_append_left _ hx)
  have hab := nodesL_app (tsOf 4 6 (rs0.take 24)) (tsOf 4 4 (rs1.take 24))
  have hfab := fits_of (l := (tsOf 4 6 (rs0.take 24)) ++ (tsOf 4 4 (rs1.take 24))) (by omega) (fun z hz => by rcases List.mem_append.1 hz with h | h; (have := a3 z h; omega); (have := b3 z h; omega))
  have hgab : ∀ x ∈ (tsOf 4 6 (rs0.take 24)) ++ (tsOf 4 4 (rs1.take 24)), x.form = 0 := fun z hz => (List.mem_append.1 hz).elim (a2 z) (b2 z)
  refine Qf1 Try.func5 ?_
  refine Qs<|Qp<|(Qa)<|Qn<|Qs<|QR ⟨[], 4, [], none, none⟩<|(Qm) ?_
  refine e_callD [] (by repeat (first | exact bag_nil | exact bag_lab _ | apply bag_skip rfl)) trivial rfl rfl rfl (Un 15) seenG (termsOf_fn v0 rs0 hv0 6 (by decide)) (fun m' => terms_room 24 (by decide) rs0 m') rfl rfl fun v1_1 nw1_1 hD1_1 => ?_
  simp only [catL]
  obtain ⟨xa, ha⟩ := hD1_1
  refine (Qm) ?_
  refine e_callD [] (by repeat (first | exact bag_nil | exact bag_lab _ | apply bag_skip rfl)) trivial rfl rfl rfl (Un 15) seenG (termsOf_fn v1 rs1 hv1 4 (by decide)) (fun m' => terms_room 24 (by decide) rs1 m') rfl rfl fun v1_2 nw1_2 hD1_2 => ?_
  simp only [catL]
  obtain ⟨xb, hb⟩ := hD1_2
  refine (Qa)<|(Qa)<|Qn<|Qs<|QR ⟨[], 4, [], none, none⟩<|(Qm) ?_
  refine e_call rfl (Un 17) (some_fn v2 rs2 6 hv2) rfl rfl ?_
  refine e_callD [] (by repeat (first | exact bag_nil | exact bag_lab _ | apply bag_skip rfl)) trivial rfl rfl rfl (Un 16) seenG (of_fn 4 (by decide) G _ (rs2.take 6) (shows_some 6 hv2)) (fun m' => term_room 24 (by decide) (shows_some 6 hv2) m') rfl rfl fun v1_3 nw1_3 hD1_3 => ?_
  simp only [catL]
  obtain ⟨ct, yt, qt, rfl, ht, _⟩ := hD1_3
  refine (Qm)<|(Qx)<|(Qx)<|(QH 0) fun r1=>?_
  refine e_storeA (i := 0) (Uz 24) rfl rfl (arrv_size _ _) (cells_one ⟨fun _ => rfl, fun _ => rfl, fun _ => rfl, fun _ => shows_oneC ht.2.1, trivial⟩) rfl cells_sz (.inl rfl) ?_
  refine (Qa)<|Qn<|Qs<|Qp<|(Qm)<|(QD 0) ?_
  refine e_callS rfl rfl (Un 13) (seen_bag (by repeat (first | exact bag_nil | exact bag_lab _ | apply bag_skip rfl)) rfl) (tknows_fn (G := ((([] ++ nw1_1) ++ nw1_2) ++ nw1_3)) (tsOf 4 6 (rs0.take 24)) _ xa (ha.mono (fun z hz => by simp [hz])) (tOf 4 (rs2.take 6)).1 ct yt (ht.mono (fun z hz => by simp [hz])) (fits_of (by omega) (fun z hz => by have := a3 z hz; omega)) a2 (chk_of t1 (by omega) (by omega)) k1 hk1) rfl rfl ?_
  refine (Qm)<|(Qx)<|(Qx)<|(Qa)<|(Qa)<|Qn<|Qs ?_
  refine e_order ⟨[], 5, [], (some [r1]), none⟩ [1, 3, 5, 0, 2, 4, 6, 7, 8, 9, 10, 11] mixed (by kernel_rfl) ?_
  refine (Qm)<|(Qm) ?_
  refine e_loadA (i := 0) (Uu 24) rfl (Uz 24) rfl rfl (arrv_size _ _) rfl ⟨[], trivial, _, rfl, by simp⟩ ?_
  refine e_buildSl0 1 (Uu 22 rfl) (Uz 24 rfl) rfl fun r2 => ?_
  refine e_appendL 1 own_none (show Shows ((([] ++ nw1_1) ++ nw1_2) ++ nw1_3) 4 _ (tsOf 4 6 (rs0.take 24)).length xa from ha.2.1.mono (fun z hz => by simp [hz])) rfl (any_bag (by repeat (first | exact bag_nil | exact bag_lab _ | apply bag_skip rfl))) ⟨[0], rfl, rfl, trivial⟩ (Uu 22) (Uz 24) (Uy 24) (Ub 24) (by rfl) rfl rfl ha.to.ones (by simp only [maxLen]; omega) (by omega) rfl fun v1_4 oz1_4 ho1_4 => ?_
  refine e_appendL 1 ho1_4 (show Shows ((([] ++ nw1_1) ++ nw1_2) ++ nw1_3) 4 _ (tsOf 4 4 (rs1.take 24)).length xb from hb.2.1.mono (fun z hz => by simp [hz])) rfl (any_bag (by repeat (first | exact bag_nil | exact bag_lab _ | apply bag_skip rfl))) ⟨[0], rfl, rfl, trivial⟩ (Uu 22) (Uz 24) (Uy 24) (Ub 24) (by rfl) rfl rfl hb.to.ones (by simp only [maxLen]; omega) (by omega) rfl fun v1_5 oz1_5 ho1_5 => ?_
  refine e_callQ rfl rfl (Un 13) (any_app (any_opt 1 rfl) (any_bag (by repeat (first | exact bag_nil | exact bag_lab _ | apply bag_skip rfl)))) (tknows_fn (G := Option.toList oz1_5 ++ ((([] ++ nw1_1) ++ nw1_2) ++ nw1_3)) ((tsOf 4 6 (rs0.take 24)) ++ (tsOf 4 4 (rs1.take 24))) _ _ (TO.tl ((ha.to.mono (fun z hz => by simp [hz])).app (hb.to.mono (fun z hz => by simp [hz]))) (own_fix ho1_5 (by simp) (by simp)) (by rw [List.length_append]; simp only [maxLen]; omega)) (tOf 4 (rs2.take 6)).1 ct yt (ht.mono (fun z hz => by simp [hz])) hfab hgab (chk_of t1 (by omega) (by omega)) k2 hk2) rfl rfl ?_
  refine (Qm)<|(Qx)<|(Qx)<|(Qa)<|(Qa)<|Qn<|Qs ?_
  rcases hmo with rfl | ⟨rfl, rfl⟩
  · skip
    refine Qp ?_
    refine e_call rfl (Un 18) tells_fn rfl rfl ?_
    refine (Qm)<|(Qy)<|(Qm)<|(Qy)<|(Qc)<|(Qar)<|(QT)<|(Qm)<|(Qy)<|(Qm)<|(Qy)<|(Qc)<|(Qar)<|(QT)<|(Qm)<|(Qy)<|(Qm)<|(Qy)<|(Q0)<|(Qy)<|(Qm)<|(Qo)<|(Qy)<|(QT)<|(QT)<|(Qm)<|(Qy)<|(QD 0)<|(Qy) ?_
    refine e_callS rfl rfl (Un 9) (seen_bag (by repeat (first | exact bag_nil | exact bag_lab _ | apply bag_skip rfl)) rfl) (tcheck_fn (G := ((([] ++ nw1_1) ++ nw1_2) ++ nw1_3)) (tOf 4 (rs2.take 6)).1 ct yt (ht.mono (fun z hz => by simp [hz]))) rfl rfl ?_
    refine e_as (congrArg ii (chk_of t1 (by omega) (by omega))) ?_
    refine (Qy)<|(Qc)<|(Qar)<|(QT)<|(Qm)<|(Qy)<|(QD 0)<|(Qy)<|(QD 0)<|(Qy) ?_
    refine e_callS rfl rfl (Un 10) (seen_bag (by repeat (first | exact bag_nil | exact bag_lab _ | apply bag_skip rfl)) rfl) (same_fn (G := ((([] ++ nw1_1) ++ nw1_2) ++ nw1_3)) (tOf 4 (rs2.take 6)).1 (tOf 4 (rs2.take 6)).1 ct ct yt yt (ht.mono (fun z hz => by simp [hz])) (ht.mono (fun z hz => by simp [hz]))) rfl rfl ?_
    refine e_as (congrArg Value.bool (eqb_self _)) ?_
    refine (QT)<|(Qa)<|Qn<|Qr ?_
    exact ⟨_, rfl, .tmp rfl⟩
  · skip
    refine Qp ?_
    refine e_call rfl (Un 18) tells_fn rfl rfl ?_
    refine (Qm)<|(Qy)<|(Qm)<|(Qy)<|(Qc)<|(Qar)<|(QT)<|(Qm)<|(Qy)<|(Qm)<|(Qy)<|(Qc)<|(Qar)<|(QT)<|(Qm)<|(Qy)<|(Qm)<|(Qy)<|(Q0)<|(Qy)<|(Qm)<|(Qy)<|(Qm)<|(Qy)<|(QF)<|(QT)<|(Qm)<|(Qy)<|(QD 0)<|(Qy) ?_
    refine e_callS rfl rfl (Un 9) (seen_bag (by repeat (first | exact bag_nil | exact bag_lab _ | apply bag_skip rfl)) rfl) (tcheck_fn (G := ((([] ++ nw1_1) ++ nw1_2) ++ nw1_3)) (tOf 4 (rs2.take 6)).1 ct yt (ht.mono (fun z hz => by simp [hz]))) rfl rfl ?_
    refine e_as (congrArg ii (chk_of t1 (by omega) (by omega))) ?_
    refine (Qy)<|(Qc)<|(Qar)<|(QT)<|(Qm)<|(Qy)<|(QD 0)<|(Qy)<|(QD 0)<|(Qy) ?_
    refine e_callS rfl rfl (Un 10) (seen_bag (by repeat (first | exact bag_nil | exact bag_lab _ | apply bag_skip rfl)) rfl) (same_fn (G := ((([] ++ nw1_1) ++ nw1_2) ++ nw1_3)) (tOf 4 (rs2.take 6)).1 (tOf 4 (rs2.take 6)).1 ct ct yt yt (ht.mono (fun z hz => by simp [hz])) (ht.mono (fun z hz => by simp [hz]))) rfl rfl ?_
    refine e_as (congrArg Value.bool (eqb_self _)) ?_
    refine (QT)<|(Qa)<|Qn<|Qr ?_
    exact ⟨_, rfl, .tmp rfl⟩
end Go.Proofs.Ytnkelhmfpepehaa
namespace Go.Proofs.Ytnkelhmfpepehaa
open Go Go.RowKit
variable {G : Mem}
set_option maxHeartbeats 8000000 in
theorem knowsAll_fn (v0 : Value) (rs0 : List RawT) (hv0 : Shows G 4 v0 rs0.length (rs0.flatMap rawC)) (v1 : Value) (rs1 : List RawT) (hv1 : Shows G 4 v1 rs1.length (rs1.flatMap rawC)) (v2 : Value) (rs2 : List RawT) (hv2 : Shows G 4 v2 rs2.length (rs2.flatMap rawC)) : Fn Try.prog G 6 #[v0, v1, v2] (.bool true) := by
  obtain ⟨a0, a2, a3, a4, a5⟩ := terms_facts (n := 6) (by decide) rs0
  obtain ⟨t1, t2, t3, t4⟩ := term_facts (k := 6) (by decide) rs1
  obtain ⟨u1, u2, u3, u4⟩ := term_facts (k := 6) (by decide) rs2
  obtain ⟨k1, hk1⟩ := bool_of (KN (tsOf 4 6 (rs0.take 24)) (tOf 4 (rs1.take 6)).1)
  obtain ⟨k2, hk2⟩ := bool_of (KN (tsOf 4 6 (rs0.take 24)) (tOf 4 (rs2.take 6)).1)
  obtain ⟨k3, hk3⟩ := bool_of (KN ((tsOf 4 6 (rs0.take 24)) ++ [(tOf 4 (rs1.take 6)).1]) (tOf 4 (rs2.take 6)).1)
  have hmo := b_all hk1 hk2 hk3 KN_all
  have hab := nodesL_app (tsOf 4 6 (rs0.take 24)) [(tOf 4 (rs1.take 6)).1]
  have h1n := nodesL_one (tOf 4 (rs1.take 6)).1
  have hfab := fits_of (l := ((tsOf 4 6 (rs0.take 24)) ++ [(tOf 4 (rs1.take 6)).1])) (by omega) (fun z hz => by rcases List.mem_append.1 hz with h | h; (have := a3 z h; omega); (rw [List.mem_singleton.1 h]; omega))
  have hgab : ∀ x ∈ ((tsOf 4 6 (rs0.take 24)) ++ [(tOf 4 (rs1.take 6)).1]), x.form = 0 := fun z hz => by rcases List.mem_append.1 hz with h | h; exact a2 z h; (rw [List.mem_singleton.1 h]; exact t1)
  refine Qf1 Try.func6 ?_
  refine Qs<|Qp<|(Qa)<|Qn<|Qs<|QR ⟨[], 4, [], none, none⟩<|(Qm) ?_
  refine e_callD [] (by repeat (first | exact bag_nil | exact bag_lab _ | apply bag_skip rfl)) trivial rfl rfl rfl (Un 15) seenG (termsOf_fn v0 rs0 hv0 6 (by decide)) (fun m' => terms_room 24 (by decide) rs0 m') rfl rfl fun v1_1 nw1_1 hD1_1 => ?_
  simp only [catL]
  obtain ⟨xa, ha⟩ := hD1_1
  refine (Qa)<|Qn<|Qs<|QR ⟨[], 4, [], none, none⟩<|(Qm) ?_
  refine e_call rfl (Un 17) (some_fn v1 rs1 6 hv1) rfl rfl ?_
  refine e_callD [] (by repeat (first | exact bag_nil | exact bag_lab _ | apply bag_skip rfl)) trivial rfl rfl rfl (Un 16) seenG (of_fn 4 (by decide) G _ (rs1.take 6) (shows_some 6 hv1)) (fun m' => term_room 24 (by decide) (shows_some 6 hv1) m') rfl rfl fun v1_2 nw1_2 hD1_2 => ?_
  simp only [catL]
  obtain ⟨ct, yt, qt, rfl, ht, _⟩ := hD1_2
  refine (Qm)<|(Qx)<|(Qx)<|(QH 0) fun r1=>?_
  refine e_storeA (i := 0) (Uz 24) rfl rfl (arrv_size _ _) (cells_one ⟨fun _ => rfl, fun _ => rfl, fun _ => rfl, fun _ => shows_oneC ht.2.1, trivial⟩) rfl cells_sz (.inl rfl) ?_
  refine (Qa)<|Qn<|Qs<|QR ⟨[], 4, [], none, none⟩<|(Qm) ?_
  refine e_call rfl (Un 17) (some_fn v2 rs2 6 hv2) rfl rfl ?_
  refine e_callD [(0, _)] (by repeat (first | exact bag_nil | exact bag_lab _ | apply bag_skip rfl)) ⟨rfl, trivial⟩ rfl rfl rfl (Un 16) seenG (of_fn 4 (by decide) G _ (rs2.take 6) (shows_some 6 hv2)) (fun m' => term_room 24 (by decide) (shows_some 6 hv2) m') rfl rfl fun v1_3 nw1_3 hD1_3 => ?_
  simp only [catL]
  obtain ⟨cu, yu, qu, rfl, hu, _⟩ := hD1_3
  refine (Qm)<|(Qx)<|(Qx)<|(QH 1) fun r2=>?_
  refine e_storeA (i := 1) (Uz 24) rfl rfl (arrv_size _ _) (cells_one ⟨fun _ => rfl, fun _ => rfl, fun _ => rfl, fun _ => shows_oneC hu.2.1, trivial⟩) rfl cells_sz (.inl rfl) ?_
  refine (Qa)<|Qn<|Qs<|Qp<|(Qm)<|(QD 0) ?_
  refine e_callS rfl rfl (Un 13) (seen_bag (by repeat (first | exact bag_nil | exact bag_lab _ | apply bag_skip rfl)) rfl) (tknows_fn (G := ((([] ++ nw1_1) ++ nw1_2) ++ nw1_3)) (tsOf 4 6 (rs0.take 24)) _ xa (ha.mono (fun z hz => by simp [hz])) (tOf 4 (rs1.take 6)).1 ct yt (ht.mono (fun z hz => by simp [hz])) (fits_of (by omega) (fun z hz => by have := a3 z hz; omega)) a2 (chk_of t1 (by omega) (by omega)) k1 hk1) rfl rfl ?_
  refine (Qm)<|(Qx)<|(Qx)<|(Qa)<|(Qa)<|Qn<|Qs<|Qp<|(Qm)<|(QD 1) ?_
  refine e_callS rfl rfl (Un 13) (seen_bag (by repeat (first | exact bag_nil | exact bag_lab _ | apply bag_skip rfl)) rfl) (tknows_fn (G := ((([] ++ nw1_1) ++ nw1_2) ++ nw1_3)) (tsOf 4 6 (rs0.take 24)) _ xa (ha.mono (fun z hz => by simp [hz])) (tOf 4 (rs2.take 6)).1 cu yu (hu.mono (fun z hz => by simp [hz])) (fits_of (by omega) (fun z hz => by have := a3 z hz; omega)) a2 (chk_of u1 (by omega) (by omega)) k2 hk2) rfl rfl ?_
  refine (Qm)<|(Qx)<|(Qx)<|(Qa)<|(Qa)<|Qn<|Qs ?_
  refine e_order ⟨[], 5, [], (some [r1, r2]), none⟩ [1, 3, 6, 0, 2, 4, 5, 7, 8, 9, 10, 11, 12] mixed (by kernel_rfl) ?_
  refine (Qm) ?_
  refine e_loadA (i := 0) (Uu 24) rfl (Uz 24) rfl rfl (arrv_size _ _) rfl ⟨[], trivial, _, rfl, by simp⟩ ?_
  refine e_loadA (i := 1) (Uu 24) rfl (Uz 24) rfl rfl (arrv_size _ _) rfl ⟨[], trivial, _, rfl, by simp⟩ ?_
  refine e_buildSl0 2 (Uu 22 rfl) (Uz 24 rfl) rfl fun r3 => ?_
  refine e_appendL 2 own_none (show Shows ((([] ++ nw1_1) ++ nw1_2) ++ nw1_3) 4 _ (tsOf 4 6 (rs0.take 24)).length xa from ha.2.1.mono (fun z hz => by simp [hz])) rfl (any_bag (by repeat (first | exact bag_nil | exact bag_lab _ | apply bag_skip rfl))) ⟨[0, 1], rfl, rfl, rfl, rfl, trivial⟩ (Uu 22) (Uz 24) (Uy 24) (Ub 24) (by rfl) rfl rfl ha.to.ones (by simp only [maxLen]; omega) (by omega) rfl fun v1_4 oz1_4 ho1_4 => ?_
  refine e_buildSl 3 (tC (tOf 4 (rs1.take 6)).1 ct) (Uu 22 rfl) (Uz 24 rfl) (Ub 24 rfl) (by decide) (by decide) rfl (fill_tC (by kernel_rfl)) rfl fun r4 => ?_
  refine e_appendL 2 ho1_4 (shows_new _ _ (by rfl)) rfl (any_one 3 rfl) ⟨[0, 1], rfl, rfl, rfl, rfl, trivial⟩ (Uu 22) (Uz 24) (Uy 24) (Ub 24) (by rfl) rfl rfl (to_one ht).ones (by simp only [maxLen]; omega) (by omega) rfl fun v1_5 oz1_5 ho1_5 => ?_
  refine e_callQ rfl rfl (Un 13) (any_app (any_opt 2 rfl) (any_bag (by repeat (first | exact bag_nil | exact bag_lab _ | apply bag_skip rfl)))) (tknows_fn (G := Option.toList oz1_5 ++ ((([] ++ nw1_1) ++ nw1_2) ++ nw1_3)) ((tsOf 4 6 (rs0.take 24)) ++ [(tOf 4 (rs1.take 6)).1]) _ _ (TO.tl ((ha.to.mono (fun z hz => by simp [hz])).app ((to_one ht).mono (fun z hz => by simp [hz]))) (own_fix ho1_5 (by simp) (by simp)) (by rw [List.length_append]; simp only [maxLen, List.length_singleton]; omega)) (tOf 4 (rs2.take 6)).1 cu yu (hu.mono (fun z hz => by simp [hz])) hfab hgab (chk_of u1 (by omega) (by omega)) k3 hk3) rfl rfl ?_
  refine (Qm)<|(Qx)<|(Qx)<|(Qa)<|(Qa)<|Qn<|Qs ?_
  rcases hmo with rfl | ⟨rfl, rfl⟩
  · skip
    refine Qp ?_
    refine e_call rfl (Un 18) tells_fn rfl rfl ?_
    refine (Qm)<|(Qy)<|(Qm)<|(Qy)<|(Qc)<|(Qar)<|(QT)<|(Qm)<|(Qy)<|(Qm)<|(Qy)<|(Qc)<|(Qar)<|(QT)<|(Qm)<|(Qy)<|(Qm)<|(Qy)<|(Qc)<|(Qar)<|(QT)<|(Qm)<|(Qy)<|(Qm)<|(Qy)<|(Q0)<|(Qy)<|(Qm)<|(Qo)<|(Qo)<|(Qo)<|(Qy)<|(QT)<|(QT)<|(Qa)<|Qn<|Qr ?_
    exact ⟨_, rfl, .tmp rfl⟩
  · skip
    refine Qp ?_
    refine e_call rfl (Un 18) tells_fn rfl rfl ?_
    refine (Qm)<|(Qy)<|(Qm)<|(Qy)<|(Qc)<|(Qar)<|(QT)<|(Qm)<|(Qy)<|(Qm)<|(Qy)<|(Qc)<|(Qar)<|(QT)<|(Qm)<|(Qy)<|(Qm)<|(Qy)<|(Qc)<|(Qar)<|(QT)<|(Qm)<|(Qy)<|(Qm)<|(Qy)<|(Q0)<|(Qy)<|(Qm)<|(Qy)<|(Qm)<|(Qy)<|(Qm)<|(Qy) ?_
    refine e_eqB (Uu 4) rfl rfl rfl ?_
    refine e_as (congrArg Value.bool (beq_self_eq_true _)) ?_
    refine (Qy)<|(QF)<|(QT)<|(Qa)<|Qn<|Qr ?_
    exact ⟨_, rfl, .tmp rfl⟩
end Go.Proofs.Ytnkelhmfpepehaa
namespace Go.Proofs.Ytnkelhmfpepehaa
open Go Go.RowKit
variable {G : Mem}
set_option maxHeartbeats 16000000 in
theorem knowsParts_fn (v0 : Value) (rs0 : List RawT) (hv0 : Shows G 4 v0 rs0.length (rs0.flatMap rawC)) (v1 : Value) (rs1 : List RawT) (hv1 : Shows G 4 v1 rs1.length (rs1.flatMap rawC)) (v2 : Value) (rs2 : List RawT) (hv2 : Shows G 4 v2 rs2.length (rs2.flatMap rawC)) (zi zj : Int) : Fn Try.prog G 7 #[v0, v1, v2, .int .i64 zi, .int .i64 zj] (.bool true) := by
  obtain ⟨a0, a2, a3, a4, a5⟩ := terms_facts (n := 6) (by decide) rs0
  obtain ⟨t1, t2, t3, t4⟩ := term_facts (k := 5) (by decide) rs1
  obtain ⟨u1, u2, u3, u4⟩ := term_facts (k := 5) (by decide) rs2
  obtain ⟨m, hm⟩ : ∃ m, m = pkn zi 5 := ⟨_, rfl⟩
  obtain ⟨n, hn⟩ : ∃ n, n = pkn zj 5 := ⟨_, rfl⟩
  obtain ⟨k1, hk1⟩ := bool_of (KN (tsOf 4 6 (rs0.take 24)) (tOf 4 (rs1.take 5)).1)
  obtain ⟨k2, hk2⟩ := bool_of (KN (tsOf 4 6 (rs0.take 24)) (tOf 4 (rs2.take 5)).1)
  obtain ⟨k3, hk3⟩ := bool_of (KN (tsOf 4 6 (rs0.take 24)) ⟨4, 0, 0, [(tOf 4 (rs1.take 5)).1, (tOf 4 (rs2.take 5)).1]⟩)
  obtain ⟨k4, hk4⟩ := bool_of (KN (tsOf 4 6 (rs0.take 24)) (atomT m))
  obtain ⟨k5, hk5⟩ := bool_of (KN (tsOf 4 6 (rs0.take 24)) (pubT n))
  obtain ⟨k6, hk6⟩ := bool_of (KN (tsOf 4 6 (rs0.take 24)) ⟨3, ((min m n : Nat) : Int), ((max m n : Nat) : Int), []⟩)
  have hmp := b_pair hk1 hk2 hk3 KN_pair
  have hmd := b_dh hk4 hk5 hk6 KN_dhN
  have hpc := pair_chk t1 u1 t2 u2 t3 u3
  refine Qf1 Try.func7 ?_
  refine Qs<|Qp<|(Qa)<|Qn<|Qs<|QR ⟨[], 4, [], none, none⟩<|(Qm) ?_
  refine e_callD [] (by repeat (first | exact bag_nil | exact bag_lab _ | apply bag_skip rfl)) trivial rfl rfl rfl (Un 15) seenG (termsOf_fn v0 rs0 hv0 6 (by decide)) (fun m' => terms_room 24 (by decide) rs0 m') rfl rfl fun v1_1 nw1_1 hD1_1 => ?_
  simp only [catL]
  obtain ⟨xa, ha⟩ := hD1_1
  refine (Qa)<|Qn<|Qs<|QR ⟨[], 4, [], none, none⟩<|(Qm) ?_
  refine e_call rfl (Un 17) (some_fn v1 rs1 5 hv1) rfl rfl ?_
  refine e_callD [] (by repeat (first | exact bag_nil | exact bag_lab _ | apply bag_skip rfl)) trivial rfl rfl rfl (Un 16) seenG (of_fn 4 (by decide) G _ (rs1.take 5) (shows_some 5 hv1)) (fun m' => term_room 24 (by decide) (shows_some 5 hv1) m') rfl rfl fun v1_2 nw1_2 hD1_2 => ?_
  simp only [catL]
  obtain ⟨ct, yt, qt, rfl, ht, _⟩ := hD1_2
  refine (Qm)<|(Qx)<|(Qx)<|(QH 0) fun r1=>?_
  refine e_storeA (i := 0) (Uz 24) rfl rfl (arrv_size _ _) (cells_one ⟨fun _ => rfl, fun _ => rfl, fun _ => rfl, fun _ => shows_oneC ht.2.1, trivial⟩) rfl cells_sz (.inl rfl) ?_
  refine (Qa)<|Qn<|Qs<|QR ⟨[], 4, [], none, none⟩<|(Qm) ?_
  refine e_call rfl (Un 17) (some_fn v2 rs2 5 hv2) rfl rfl ?_
  refine e_callD [(0, _)] (by repeat (first | exact bag_nil | exact bag_lab _ | apply bag_skip rfl)) ⟨rfl, trivial⟩ rfl rfl rfl (Un 16) seenG (of_fn 4 (by decide) G _ (rs2.take 5) (shows_some 5 hv2)) (fun m' => term_room 24 (by decide) (shows_some 5 hv2) m') rfl rfl fun v1_3 nw1_3 hD1_3 => ?_
  simp only [catL]
  obtain ⟨cu, yu, qu, rfl, hu, _⟩ := hD1_3
  refine (Qm)<|(Qx)<|(Qx)<|(QH 1) fun r2=>?_
  refine e_storeA (i := 1) (Uz 24) rfl rfl (arrv_size _ _) (cells_one ⟨fun _ => rfl, fun _ => rfl, fun _ => rfl, fun _ => shows_oneC hu.2.1, trivial⟩) rfl cells_sz (.inl rfl) ?_
  refine (Qa)<|Qn<|Qs<|Qp<|(Qm)<|(QD 0) ?_
  refine e_callS rfl rfl (Un 13) (seen_bag (by repeat (first | exact bag_nil | exact bag_lab _ | apply bag_skip rfl)) rfl) (tknows_fn (G := ((([] ++ nw1_1) ++ nw1_2) ++ nw1_3)) (tsOf 4 6 (rs0.take 24)) _ xa (ha.mono (fun z hz => by simp [hz])) (tOf 4 (rs1.take 5)).1 ct yt (ht.mono (fun z hz => by simp [hz])) (fits_of (by omega) (fun z hz => by have := a3 z hz; omega)) a2 (chk_of t1 (by omega) (by omega)) k1 hk1) rfl rfl ?_
  refine (Qm)<|(Qx)<|(Qx)<|(Qa)<|(Qa)<|Qn<|Qs<|Qp<|(Qm)<|(QD 1) ?_
  refine e_callS rfl rfl (Un 13) (seen_bag (by repeat (first | exact bag_nil | exact bag_lab _ | apply bag_skip rfl)) rfl) (tknows_fn (G := ((([] ++ nw1_1) ++ nw1_2) ++ nw1_3)) (tsOf 4 6 (rs0.take 24)) _ xa (ha.mono (fun z hz => by simp [hz])) (tOf 4 (rs2.take 5)).1 cu yu (hu.mono (fun z hz => by simp [hz])) (fits_of (by omega) (fun z hz => by have := a3 z hz; omega)) a2 (chk_of u1 (by omega) (by omega)) k2 hk2) rfl rfl ?_
  refine (Qm)<|(Qx)<|(Qx)<|(Qa)<|(Qa)<|Qn<|Qs<|Qp<|(Qm)<|(QD 0)<|(QD 1) ?_
  refine e_buildSl 2 ((tC (tOf 4 (rs1.take 5)).1 ct).toList ++ (tC (tOf 4 (rs2.take 5)).1 cu).toList).toArray (Uu 22 rfl) (Uz 24 rfl) (Ub 24 rfl) (by decide) (by decide) rfl (fill_tC2 (by kernel_rfl)) rfl fun r3 => ?_
  refine e_buildS (tC ⟨4, 0, 0, [(tOf 4 (rs1.take 5)).1, (tOf 4 (rs2.take 5)).1]⟩ (.slice (some ⟨r3, 0, none⟩) 2 2)) (Ub 24 rfl) (Uu 24 rfl) pls24 rfl (by kernel_rfl) rfl ?_
  refine e_callS rfl rfl (Un 13) (seen_app (A := [_]) (seen1 2 rfl ⟨[], trivial⟩) (seen_bag (by repeat (first | exact bag_nil | exact bag_lab _ | apply bag_skip rfl)) rfl)) (tknows_fn (G := (⟨r3, ((tC (tOf 4 (rs1.take 5)).1 ct).toList ++ (tC (tOf 4 (rs2.take 5)).1 cu).toList).toArray, 24⟩ : Blk) :: ((([] ++ nw1_1) ++ nw1_2) ++ nw1_3)) (tsOf 4 6 (rs0.take 24)) _ xa (ha.mono (fun z hz => by simp [hz])) ⟨4, 0, 0, [(tOf 4 (rs1.take 5)).1, (tOf 4 (rs2.take 5)).1]⟩ _ _ (tl_blk (n := 2) (r := r3) (ty := 24) (G := (⟨r3, ((tC (tOf 4 (rs1.take 5)).1 ct).toList ++ (tC (tOf 4 (rs2.take 5)).1 cu).toList).toArray, 24⟩ : Blk) :: ((([] ++ nw1_1) ++ nw1_2) ++ nw1_3)) (l := [(tOf 4 (rs1.take 5)).1, (tOf 4 (rs2.take 5)).1]) (((to_one ht).mono (fun z hz => by simp [hz])).app ((to_one hu).mono (fun z hz => by simp [hz]))) rfl (List.mem_cons_self ..) (by decide)) (fits_of (by omega) (fun z hz => by have := a3 z hz; omega)) a2 hpc k3 hk3) rfl rfl ?_
  refine (Qm)<|(Qx)<|(Qx)<|(Qa)<|(Qa)<|Qn<|Qs<|Qp<|(Qm) ?_
  refine e_call rfl (Un 19) (picked_fn zi 5 (by decide) (by decide)) rfl rfl ?_
  refine e_as (congrArg ii hm.symm) ?_
  refine (Qm) ?_
  refine e_call rfl (Un 19) (picked_fn zj 5 (by decide) (by decide)) rfl rfl ?_
  refine e_as (congrArg ii hn.symm) ?_
  refine (Qa)<|(Qa)<|Qn<|Qs<|Qp<|(Qm)<|(Qm) ?_
  refine e_call rfl (Un 20) (atom_fn _) rfl rfl ?_
  refine e_callS rfl rfl (Un 13) (seen_bag (by repeat (first | exact bag_nil | exact bag_lab _ | apply bag_skip rfl)) rfl) (tknows_fn (G := ((([] ++ nw1_1) ++ nw1_2) ++ nw1_3)) (tsOf 4 6 (rs0.take 24)) _ xa (ha.mono (fun z hz => by simp [hz])) (atomT m) nilS [] tl_nil (fits_of (by omega) (fun z hz => by have := a3 z hz; omega)) a2 (atom_chk (by omega)) k4 hk4) rfl rfl ?_
  refine (Qm)<|(Qx)<|(Qx)<|(Qa)<|(Qa)<|Qn<|Qs<|Qp<|(Qm)<|(Qm) ?_
  refine e_buildS (tC (pubT n) nilS) (Ub 24 rfl) (Uu 24 rfl) pls24 rfl (by kernel_rfl) rfl ?_
  refine e_callS rfl rfl (Un 13) (seen_bag (by repeat (first | exact bag_nil | exact bag_lab _ | apply bag_skip rfl)) rfl) (tknows_fn (G := ((([] ++ nw1_1) ++ nw1_2) ++ nw1_3)) (tsOf 4 6 (rs0.take 24)) _ xa (ha.mono (fun z hz => by simp [hz])) (pubT n) nilS [] tl_nil (fits_of (by omega) (fun z hz => by have := a3 z hz; omega)) a2 (pub_chk (by omega)) k5 hk5) rfl rfl ?_
  refine (Qm)<|(Qx)<|(Qx)<|(Qa)<|(Qa)<|Qn<|Qs<|Qp<|(Qm)<|(Qm)<|(Qm) ?_
  refine e_min rfl rfl rfl rfl ?_
  refine (Qm)<|(Qm) ?_
  refine e_max rfl rfl rfl rfl ?_
  refine e_buildS (tC ⟨3, ((min m n : Nat) : Int), ((max m n : Nat) : Int), []⟩ nilS) (Ub 24 rfl) (Uu 24 rfl) pls24 rfl (by kernel_rfl) rfl ?_
  refine e_callS rfl rfl (Un 13) (seen_bag (by repeat (first | exact bag_nil | exact bag_lab _ | apply bag_skip rfl)) rfl) (tknows_fn (G := ((([] ++ nw1_1) ++ nw1_2) ++ nw1_3)) (tsOf 4 6 (rs0.take 24)) _ xa (ha.mono (fun z hz => by simp [hz])) ⟨3, ((min m n : Nat) : Int), ((max m n : Nat) : Int), []⟩ nilS [] tl_nil (fits_of (by omega) (fun z hz => by have := a3 z hz; omega)) a2 dh_chk k6 hk6) rfl rfl ?_
  refine (Qm)<|(Qx)<|(Qx)<|(Qa)<|(Qa)<|Qn<|Qs ?_
  rcases hmp with ⟨rfl, rfl⟩ | ⟨rfl, rfl⟩ <;> rcases hmd with rfl | ⟨rfl, rfl⟩ | ⟨rfl, rfl, rfl⟩
  · skip
    refine Qp ?_
    refine e_call rfl (Un 18) tells_fn rfl rfl ?_
    refine (Qm)<|(Qy)<|(Qm)<|(Qy)<|(Qc)<|(Qar)<|(QT)<|(Qm)<|(Qy)<|(Qm)<|(Qy)<|(Qc)<|(Qar)<|(QT)<|(Qm)<|(Qy)<|(Qm)<|(Qy)<|(Qc)<|(Qar)<|(QT)<|(Qm)<|(Qy)<|(Qm)<|(Qy)<|(Qc)<|(Qar)<|(QT)<|(Qm)<|(Qy)<|(Qm)<|(Qy)<|(Qc)<|(Qar)<|(QT)<|(Qm)<|(Qy)<|(Qm)<|(Qy)<|(Qc)<|(Qar)<|(QT)<|(Qm)<|(Qy)<|(Qm)<|(Qy)<|(Qm)<|(Qy)<|(Qm)<|(Qo)<|(Qy)<|(QF)<|(Qy) ?_
    refine e_eqB (Uu 4) rfl rfl rfl ?_
    refine e_as (show _ = Value.bool true from congrArg Value.bool (beq_self_eq_true _)) ?_
    refine (QT)<|(Qm)<|(Qy)<|(Qm)<|(Qy)<|(Q0)<|(Qy)<|(Qm)<|(Qo)<|(Qo)<|(Qy)<|(QT)<|(Qy)<|(Qm)<|(Qo)<|(Qy)<|(QT)<|(QT)<|(Qa)<|Qn<|Qr ?_
    exact ⟨_, rfl, .tmp rfl⟩
  · skip
    refine Qp ?_
    refine e_call rfl (Un 18) tells_fn rfl rfl ?_
    refine (Qm)<|(Qy)<|(Qm)<|(Qy)<|(Qc)<|(Qar)<|(QT)<|(Qm)<|(Qy)<|(Qm)<|(Qy)<|(Qc)<|(Qar)<|(QT)<|(Qm)<|(Qy)<|(Qm)<|(Qy)<|(Qc)<|(Qar)<|(QT)<|(Qm)<|(Qy)<|(Qm)<|(Qy)<|(Qc)<|(Qar)<|(QT)<|(Qm)<|(Qy)<|(Qm)<|(Qy)<|(Qc)<|(Qar)<|(QT)<|(Qm)<|(Qy)<|(Qm)<|(Qy)<|(Qc)<|(Qar)<|(QT)<|(Qm)<|(Qy)<|(Qm)<|(Qy)<|(Qm)<|(Qy)<|(Qm)<|(Qo)<|(Qy)<|(QF)<|(Qy) ?_
    refine e_eqB (Uu 4) rfl rfl rfl ?_
    refine e_as (show _ = Value.bool true from congrArg Value.bool (beq_self_eq_true _)) ?_
    refine (QT)<|(Qm)<|(Qy)<|(Qm)<|(Qy)<|(Q0)<|(Qy)<|(Qm)<|(Qy)<|(Qm)<|(Qy)<|(Q0)<|(Qy)<|(QF)<|(Qy)<|(Qm)<|(Qo)<|(Qy)<|(QT)<|(QT)<|(Qa)<|Qn<|Qr ?_
    exact ⟨_, rfl, .tmp rfl⟩
  · skip
    refine Qp ?_
    refine e_call rfl (Un 18) tells_fn rfl rfl ?_
    refine (Qm)<|(Qy)<|(Qm)<|(Qy)<|(Qc)<|(Qar)<|(QT)<|(Qm)<|(Qy)<|(Qm)<|(Qy)<|(Qc)<|(Qar)<|(QT)<|(Qm)<|(Qy)<|(Qm)<|(Qy)<|(Qc)<|(Qar)<|(QT)<|(Qm)<|(Qy)<|(Qm)<|(Qy)<|(Qc)<|(Qar)<|(QT)<|(Qm)<|(Qy)<|(Qm)<|(Qy)<|(Qc)<|(Qar)<|(QT)<|(Qm)<|(Qy)<|(Qm)<|(Qy)<|(Qc)<|(Qar)<|(QT)<|(Qm)<|(Qy)<|(Qm)<|(Qy)<|(Qm)<|(Qy)<|(Qm)<|(Qo)<|(Qy)<|(QF)<|(Qy) ?_
    refine e_eqB (Uu 4) rfl rfl rfl ?_
    refine e_as (show _ = Value.bool true from congrArg Value.bool (beq_self_eq_true _)) ?_
    refine (QT)<|(Qm)<|(Qy)<|(Qm)<|(Qy)<|(Q0)<|(Qy)<|(Qm)<|(Qy)<|(Qm)<|(Qy)<|(Q0)<|(Qy)<|(QF)<|(Qy)<|(Qm)<|(Qy)<|(Qm)<|(Qy)<|(QF)<|(QT)<|(Qa)<|Qn<|Qr ?_
    exact ⟨_, rfl, .tmp rfl⟩
  · skip
    refine Qp ?_
    refine e_call rfl (Un 18) tells_fn rfl rfl ?_
    refine (Qm)<|(Qy)<|(Qm)<|(Qy)<|(Qc)<|(Qar)<|(QT)<|(Qm)<|(Qy)<|(Qm)<|(Qy)<|(Qc)<|(Qar)<|(QT)<|(Qm)<|(Qy)<|(Qm)<|(Qy)<|(Qc)<|(Qar)<|(QT)<|(Qm)<|(Qy)<|(Qm)<|(Qy)<|(Qc)<|(Qar)<|(QT)<|(Qm)<|(Qy)<|(Qm)<|(Qy)<|(Qc)<|(Qar)<|(QT)<|(Qm)<|(Qy)<|(Qm)<|(Qy)<|(Qc)<|(Qar)<|(QT)<|(Qm)<|(Qy)<|(Qm)<|(Qy)<|(Qm)<|(Qy)<|(Qm)<|(Qy)<|(Qm)<|(Qy)<|(QT)<|(Qy) ?_
    refine e_eqB (Uu 4) rfl rfl rfl ?_
    refine e_as (show _ = Value.bool true from congrArg Value.bool (beq_self_eq_true _)) ?_
    refine (QT)<|(Qm)<|(Qy)<|(Qm)<|(Qy)<|(Q0)<|(Qy)<|(Qm)<|(Qo)<|(Qo)<|(Qy)<|(QT)<|(Qy)<|(Qm)<|(Qo)<|(Qy)<|(QT)<|(QT)<|(Qa)<|Qn<|Qr ?_
    exact ⟨_, rfl, .tmp rfl⟩
  · skip
    refine Qp ?_
    refine e_call rfl (Un 18) tells_fn rfl rfl ?_
    refine (Qm)<|(Qy)<|(Qm)<|(Qy)<|(Qc)<|(Qar)<|(QT)<|(Qm)<|(Qy)<|(Qm)<|(Qy)<|(Qc)<|(Qar)<|(QT)<|(Qm)<|(Qy)<|(Qm)<|(Qy)<|(Qc)<|(Qar)<|(QT)<|(Qm)<|(Qy)<|(Qm)<|(Qy)<|(Qc)<|(Qar)<|(QT)<|(Qm)<|(Qy)<|(Qm)<|(Qy)<|(Qc)<|(Qar)<|(QT)<|(Qm)<|(Qy)<|(Qm)<|(Qy)<|(Qc)<|(Qar)<|(QT)<|(Qm)<|(Qy)<|(Qm)<|(Qy)<|(Qm)<|(Qy)<|(Qm)<|(Qy)<|(Qm)<|(Qy)<|(QT)<|(Qy) ?_
    refine e_eqB (Uu 4) rfl rfl rfl ?_
    refine e_as (show _ = Value.bool true from congrArg Value.bool (beq_self_eq_true _)) ?_
    refine (QT)<|(Qm)<|(Qy)<|(Qm)<|(Qy)<|(Q0)<|(Qy)<|(Qm)<|(Qy)<|(Qm)<|(Qy)<|(Q0)<|(Qy)<|(QF)<|(Qy)<|(Qm)<|(Qo)<|(Qy)<|(QT)<|(QT)<|(Qa)<|Qn<|Qr ?_
    exact ⟨_, rfl, .tmp rfl⟩
  · skip
    refine Qp ?_
    refine e_call rfl (Un 18) tells_fn rfl rfl ?_
    refine (Qm)<|(Qy)<|(Qm)<|(Qy)<|(Qc)<|(Qar)<|(QT)<|(Qm)<|(Qy)<|(Qm)<|(Qy)<|(Qc)<|(Qar)<|(QT)<|(Qm)<|(Qy)<|(Qm)<|(Qy)<|(Qc)<|(Qar)<|(QT)<|(Qm)<|(Qy)<|(Qm)<|(Qy)<|(Qc)<|(Qar)<|(QT)<|(Qm)<|(Qy)<|(Qm)<|(Qy)<|(Qc)<|(Qar)<|(QT)<|(Qm)<|(Qy)<|(Qm)<|(Qy)<|(Qc)<|(Qar)<|(QT)<|(Qm)<|(Qy)<|(Qm)<|(Qy)<|(Qm)<|(Qy)<|(Qm)<|(Qy)<|(Qm)<|(Qy)<|(QT)<|(Qy) ?_
    refine e_eqB (Uu 4) rfl rfl rfl ?_
    refine e_as (show _ = Value.bool true from congrArg Value.bool (beq_self_eq_true _)) ?_
    refine (QT)<|(Qm)<|(Qy)<|(Qm)<|(Qy)<|(Q0)<|(Qy)<|(Qm)<|(Qy)<|(Qm)<|(Qy)<|(Q0)<|(Qy)<|(QF)<|(Qy)<|(Qm)<|(Qy)<|(Qm)<|(Qy)<|(QF)<|(QT)<|(Qa)<|Qn<|Qr ?_
    exact ⟨_, rfl, .tmp rfl⟩
end Go.Proofs.Ytnkelhmfpepehaa
namespace Go.Proofs.Ytnkelhmfpepehaa
open Go Go.RowKit
variable {G : Mem}
set_option maxHeartbeats 8000000 in
theorem knowsLocked_fn (v0 : Value) (rs0 : List RawT) (hv0 : Shows G 4 v0 rs0.length (rs0.flatMap rawC)) (v1 : Value) (rs1 : List RawT) (hv1 : Shows G 4 v1 rs1.length (rs1.flatMap rawC)) : Fn Try.prog G 8 #[v0, v1] (.bool true) := by
  obtain ⟨a0, a2, a3, a4, a5⟩ := terms_facts (n := 5) (by decide) rs0
  obtain ⟨t1, t2, t3, t4⟩ := term_facts (k := 6) (by decide) rs1
  obtain ⟨k1, hk1⟩ := bool_of (KN (tsOf 4 5 (rs0.take 24)) (tOf 4 (rs1.take 6)).1)
  obtain ⟨k2, hk2⟩ := bool_of (KN ((tsOf 4 5 (rs0.take 24)) ++ [(boxT (tOf 4 (rs1.take 6)).1 (atomT 99))]) (atomT 99))
  have hmo := b_same hk2 hk1 (KN_lock (i := 99) a4 t4).symm
  have hab := nodesL_app (tsOf 4 5 (rs0.take 24)) [(boxT (tOf 4 (rs1.take 6)).1 (atomT 99))]
  have h1n := nodesL_one (boxT (tOf 4 (rs1.take 6)).1 (atomT 99))
  have hbn := box_nodes t2 (i := 99)
  have hbd := box_deep t3 (i := 99)
  have hfab := fits_of (l := ((tsOf 4 5 (rs0.take 24)) ++ [(boxT (tOf 4 (rs1.take 6)).1 (atomT 99))])) (by omega) (fun z hz => by rcases List.mem_append.1 hz with h | h; (have := a3 z h; omega); (rw [List.mem_singleton.1 h]; omega))
  have hgab : ∀ x ∈ ((tsOf 4 5 (rs0.take 24)) ++ [(boxT (tOf 4 (rs1.take 6)).1 (atomT 99))]), x.form = 0 := fun z hz => by rcases List.mem_append.1 hz with h | h; exact a2 z h; (rw [List.mem_singleton.1 h]; exact box_form t1 (by decide))
  refine Qf1 Try.func8 ?_
  refine Qs<|Qp<|(Qa)<|Qn<|Qs<|QR ⟨[], 4, [], none, none⟩<|(Qm) ?_
  refine e_callD [] (by repeat (first | exact bag_nil | exact bag_lab _ | apply bag_skip rfl)) trivial rfl rfl rfl (Un 15) seenG (termsOf_fn v0 rs0 hv0 5 (by decide)) (fun m' => terms_room 24 (by decide) rs0 m') rfl rfl fun v1_1 nw1_1 hD1_1 => ?_
  simp only [catL]
  obtain ⟨xa, ha⟩ := hD1_1
  refine (Qa)<|Qn<|Qs<|QR ⟨[], 4, [], none, none⟩<|(Qm) ?_
  refine e_call rfl (Un 17) (some_fn v1 rs1 6 hv1) rfl rfl ?_
  refine e_callD [] (by repeat (first | exact bag_nil | exact bag_lab _ | apply bag_skip rfl)) trivial rfl rfl rfl (Un 16) seenG (of_fn 4 (by decide) G _ (rs1.take 6) (shows_some 6 hv1)) (fun m' => term_room 24 (by decide) (shows_some 6 hv1) m') rfl rfl fun v1_2 nw1_2 hD1_2 => ?_
  simp only [catL]
  obtain ⟨ct, yt, qt, rfl, ht, _⟩ := hD1_2
  refine (Qm)<|(Qx)<|(Qx)<|(QH 0) fun r1=>?_
  refine e_storeA (i := 0) (Uz 24) rfl rfl (arrv_size _ _) (cells_one ⟨fun _ => rfl, fun _ => rfl, fun _ => rfl, fun _ => shows_oneC ht.2.1, trivial⟩) rfl cells_sz (.inl rfl) ?_
  refine (Qa)<|Qn<|Qs<|Qp ?_
  refine e_call rfl (Un 20) (atom_fn 99) rfl rfl ?_
  refine (QH 1) fun r2=>?_
  refine e_storeA (i := 1) (Uz 24) rfl rfl (arrv_size _ _) (cells_one ⟨fun _ => rfl, fun _ => rfl, fun _ => rfl, fun _ => rfl, trivial⟩) rfl cells_sz (.inl rfl) ?_
  refine Qn<|Qs<|(Qg)<|(QD 0) ?_
  refine e_call rfl (Un 20) (atom_fn 0) rfl rfl ?_
  refine (QD 1) ?_
  refine e_buildSl 2 ((tC (tOf 4 (rs1.take 6)).1 ct).toList ++ (tC (atomT 0) nilS).toList ++ (tC (atomT 99) nilS).toList).toArray (Uu 22 rfl) (Uz 24 rfl) (Ub 24 rfl) (by decide) (by decide) rfl (fill_tC3 (by kernel_rfl)) rfl fun r3 => ?_
  refine e_buildS (tC (boxT (tOf 4 (rs1.take 6)).1 (atomT 99)) (.slice (some ⟨r3, 0, none⟩) 3 3)) (Ub 24 rfl) (Uu 24 rfl) pls24 rfl (by kernel_rfl) rfl ?_
  refine (QH 3) fun r4=>?_
  refine e_storeA (i := 3) (Uz 24) rfl rfl (arrv_size _ _) (cells_one ⟨fun _ => rfl, fun _ => rfl, fun _ => rfl, fun _ => rfl, trivial⟩) rfl cells_sz (.inl rfl) ?_
  refine Qn<|Qs<|Qp<|(Qm)<|(QD 0) ?_
  refine e_callS rfl rfl (Un 13) (seen_bag (by repeat (first | exact bag_nil | exact bag_lab _ | apply bag_skip rfl)) rfl) (tknows_fn (G := (([] ++ nw1_1) ++ nw1_2)) (tsOf 4 5 (rs0.take 24)) _ xa (ha.mono (fun z hz => by simp [hz])) (tOf 4 (rs1.take 6)).1 ct yt (ht.mono (fun z hz => by simp [hz])) (fits_of (by omega) (fun z hz => by have := a3 z hz; omega)) a2 (chk_of t1 (by omega) (by omega)) k1 hk1) rfl rfl ?_
  refine (Qm)<|(Qx)<|(Qx)<|(Qa)<|(Qa)<|Qn<|Qs ?_
  refine e_order ⟨[], 5, [], (some [r2, r4]), none⟩ [1, 3, 6, 0, 2, 4, 5, 7, 8, 9, 10, 11, 12] mixed (by kernel_rfl) ?_
  refine (Qm) ?_
  refine e_loadA (i := 3) (Uu 24) rfl (Uz 24) rfl rfl (arrv_size _ _) rfl ⟨[], trivial, _, rfl, by simp⟩ ?_
  refine e_loadA (i := 1) (Uu 24) rfl (Uz 24) rfl rfl (arrv_size _ _) rfl ⟨[], trivial, _, rfl, by simp⟩ ?_
  refine e_buildSl0 4 (Uu 22 rfl) (Uz 24 rfl) rfl fun r5 => ?_
  refine e_appendL 4 own_none (show Shows (([] ++ nw1_1) ++ nw1_2) 4 _ (tsOf 4 5 (rs0.take 24)).length xa from ha.2.1.mono (fun z hz => by simp [hz])) rfl (any_bag (by repeat (first | exact bag_nil | exact bag_lab _ | apply bag_skip rfl))) ⟨[1, 3], rfl, rfl, rfl, rfl, trivial⟩ (Uu 22) (Uz 24) (Uy 24) (Ub 24) (by rfl) rfl rfl ha.to.ones (by simp only [maxLen]; omega) (by omega) rfl fun v1_3 oz1_3 ho1_3 => ?_
  refine e_buildSl 5 (tC (boxT (tOf 4 (rs1.take 6)).1 (atomT 99)) (.slice (some ⟨r3, 0, none⟩) 3 3)) (Uu 22 rfl) (Uz 24 rfl) (Ub 24 rfl) (by decide) (by decide) rfl (fill_tC (by kernel_rfl)) rfl fun r6 => ?_
  refine e_appendL 4 ho1_3 (shows_new _ _ (by rfl)) rfl (any_one 5 rfl) ⟨[1, 3], rfl, rfl, rfl, rfl, trivial⟩ (Uu 22) (Uz 24) (Uy 24) (Ub 24) (by rfl) rfl rfl (to_one (tl_blk (n := 3) (r := r3) (ty := 24) (G := (⟨r3, ((tC (tOf 4 (rs1.take 6)).1 ct).toList ++ (tC (atomT 0) nilS).toList ++ (tC (atomT 99) nilS).toList).toArray, 24⟩ : Blk) :: (([] ++ nw1_1) ++ nw1_2)) (l := [(tOf 4 (rs1.take 6)).1, atomT 0, atomT 99]) (((to_one ht).mono (fun z hz => by simp [hz])).app (to_one tl_nil) |>.app (to_one tl_nil)) rfl (List.mem_cons_self ..) (by decide))).ones (by simp only [maxLen]; omega) (by omega) rfl fun v1_4 oz1_4 ho1_4 => ?_
  refine e_callQ rfl rfl (Un 13) (any_app (any_opt 4 rfl) (any_app (any_one 2 rfl) (any_bag (by repeat (first | exact bag_nil | exact bag_lab _ | apply bag_skip rfl))))) (tknows_fn (G := Option.toList oz1_4 ++ ((⟨r3, ((tC (tOf 4 (rs1.take 6)).1 ct).toList ++ (tC (atomT 0) nilS).toList ++ (tC (atomT 99) nilS).toList).toArray, 24⟩ : Blk) :: (([] ++ nw1_1) ++ nw1_2))) ((tsOf 4 5 (rs0.take 24)) ++ [(boxT (tOf 4 (rs1.take 6)).1 (atomT 99))]) _ _ (TO.tl ((ha.to.mono (fun z hz => by simp [hz])).app (to_one (tl_blk (n := 3) (r := r3) (ty := 24) (G := (⟨r3, ((tC (tOf 4 (rs1.take 6)).1 ct).toList ++ (tC (atomT 0) nilS).toList ++ (tC (atomT 99) nilS).toList).toArray, 24⟩ : Blk) :: (([] ++ nw1_1) ++ nw1_2)) (l := [(tOf 4 (rs1.take 6)).1, atomT 0, atomT 99]) (((to_one ht).mono (fun z hz => by simp [hz])).app (to_one tl_nil) |>.app (to_one tl_nil)) rfl (List.mem_cons_self ..) (by decide)))) (own_fix ho1_4 (by simp) (by simp)) (by rw [List.length_append]; simp only [maxLen, List.length_singleton]; omega)) (atomT 99) nilS [] tl_nil hfab hgab (atom_chk (by decide)) k2 hk2) rfl rfl ?_
  refine (Qm)<|(Qx)<|(Qx)<|(Qa)<|(Qa)<|Qn<|Qs<|Qp ?_
  refine e_call rfl (Un 18) tells_fn rfl rfl ?_
  refine (Qm)<|(Qy)<|(Qm)<|(Qy)<|(Qc)<|(Qar)<|(QT)<|(Qm)<|(Qy)<|(Qm)<|(Qy)<|(Qc)<|(Qar)<|(QT)<|(Qm)<|(Qy)<|(Qm)<|(Qy)<|(Qm)<|(Qy) ?_
  refine e_eqB (Uu 4) rfl rfl rfl ?_
  refine e_as (show _ = Value.bool true from congrArg Value.bool (by rw [hmo]; exact beq_self_eq_true _)) ?_
  refine (QT)<|(Qa)<|Qn<|Qr ?_
  exact ⟨_, rfl, .tmp rfl⟩
end Go.Proofs.Ytnkelhmfpepehaa
