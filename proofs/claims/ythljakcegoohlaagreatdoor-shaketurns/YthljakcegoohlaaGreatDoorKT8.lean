import Derived.Test.YthljakcegoohlaaGreatDoorKT7
import Derived.Test.YthljakcegoohlaaGreatDoorRows
set_option maxRecDepth 30000
namespace Go.Proofs.YthljakcegoohlaaGreatDoor
open Go Go.RowKit
variable {G : Mem}
set_option maxHeartbeats 2000000 in
theorem dbegin_fn (f : Nat → Nat) (hf : L8 32 f) : Fn Tryz.prog G 282 #[.agg (arr .u8 32 f)] (PV (w8 (bL f)) (fun j => w8 (bL f) (j + 2)) (fun _ => 0) (fun _ => 0) 0) := by
  refine Qf1 Tryz.func282 ?_
  refine Qs<|Qp<|(Qh 0) fun r1=>(QH 1) fun r2=>Qn<|Qs<|(Qg) ?_
  refine e_sliceA 0 16 (Uu 30) (Uz 5) rfl rfl rfl rfl ⟨_, rfl⟩ (by omega) (by omega) (by omega) rfl ?_
  refine e_toArr (Uu 263) rfl (by omega) rfl ?_
  refine e_loadS (i := 0) (Uu 263) rfl (Uz 263) rfl rfl (by omega) rfl ⟨[], trivial⟩ ?_
  refine e_as (congrArg Value.agg (arr_congr (fun j _ => congrArg f (Nat.zero_add j)))) ?_
  refine e_call rfl (Un 295) (dpair_fn f (fun j hj => hf j (by omega))) rfl rfl ?_
  refine e_sliceA 16 32 (Uu 30) (Uz 5) rfl rfl rfl ⟨_, rfl⟩ rfl (by omega) (by omega) (by omega) rfl ?_
  refine e_toArr (Uu 263) rfl (by omega) rfl ?_
  refine e_loadS (i := 0) (Uu 263) rfl (Uz 263) rfl rfl (by omega) rfl ⟨[], trivial⟩ ?_
  refine e_call rfl (Un 295) (dpair_fn (fun t => f (16 + t)) (fun j hj => hf _ (by omega))) rfl rfl ?_
  refine e_as (congrArg Value.agg (arr_congr (pad_key hf))) ?_
  refine (QH 2) fun r3=>(QH 3) fun r4=>(Qt 2)<|(Qt 3)<|Qn<|Qs<|(Qg)<|(Qd 2) ?_
  refine e_call rfl (Un 296) (dclamped_fn _) rfl rfl ?_
  refine e_as (congrArg Value.agg (arr_congr (clamp_key hf))) ?_
  refine (Qd 3) ?_
  refine e_buildS (cells 24 [pI .u64 2 (w8 (bL f)), pI .u64 2 (fun j => w8 (bL f) (j + 2)), pI .u64 3 (fun _ => 0), pI .u8 16 (fun _ => 0), pV (.int .i64 0)]) (Ub 293 rfl) (Uu 293 rfl) pls293 rfl rfl rfl ?_
  refine e_storeA (i := 1) (Uz 293) rfl rfl (arrv_size _ _) (cells_one ⟨fun _ => rfl, fun _ => rfl, fun _ => rfl, fun _ => rfl, fun _ => rfl, trivial⟩) rfl cells_sz (.inl rfl) ?_
  refine Qn<|Qr ?_
  exact ⟨_, rfl, .cell (i := 1) rfl rfl (Uu 293) rfl (Uz 293) (arrv_size _ _)⟩
set_option maxHeartbeats 4000000 in
theorem dcheck_fn (r p a h : Nat → Nat) (n : Int) (ha0 : a 0 < 18446744073709551616) (ha1 : a 1 < 18446744073709551616) (ha2 : a 2 < 18446744073709551616) (hr0 : r 0 < 18446744073709551616) (hr1 : r 1 < 18446744073709551616) : Fn Tryz.prog G 293 #[PV r p a h n] (ii (if (okcd r a n && okh n h 16) = true then 0 else 9)) := by
  refine Qf1 Tryz.func293 ?_
  refine Qs<|Qp<|(Qh 0) fun r1=>(Qa)<|Qn<|Qs<|Qs ?_
  rcases dcases (n := n) hr0 hr1 ha0 ha1 ha2 with ⟨hk0, hko⟩ | ⟨hk0, hk1, hko⟩ | ⟨hk0, hk1, hk2, hko⟩ | ⟨hk0, hk1, hk2, hk3, hko⟩ | ⟨hk0, hk1, k, rfl, hk3, hko⟩
  · skip
    refine (Qg)<|(Qf 0)<|(Qv 0 0) ?_
    refine e_call rfl (Un 296) (dclamped_fn _) rfl rfl ?_
    refine (Qf 0)<|(Qv 0 0) ?_
    refine e_neA (Uu 290) (Uu 31) (Uz 31) eqg290 rfl rfl rfl ?_
    refine e_as (congrArg (fun z => Value.bool (!z)) hk0) ?_
    refine (Qm)<|(Qo)<|(Qo)<|(Qo)<|(Qo)<|(QT)<|(Qm)<|(Qo)<|(Qo)<|(Qo)<|(QT)<|(Qm)<|(Qo)<|(Qo)<|(Qo)<|(QT)<|Qn ?_
    refine e_cond rfl ?_ ?_
    · intro hc0
      have hfin := ok_no (d := okh n h 16) hko
      refine Qs<|Qp<|(Qa)<|Qn<|Qr ?_
      first | rw [if_pos hfin] | rw [if_neg hfin]
      exact ⟨_, rfl, .tmp rfl⟩
    · intro hc0
      exact absurd hc0 (by decide)
  · skip
    refine (Qg)<|(Qf 0)<|(Qv 0 0) ?_
    refine e_call rfl (Un 296) (dclamped_fn _) rfl rfl ?_
    refine (Qf 0)<|(Qv 0 0) ?_
    refine e_neA (Uu 290) (Uu 31) (Uz 31) eqg290 rfl rfl rfl ?_
    refine e_as (congrArg (fun z => Value.bool (!z)) hk0) ?_
    refine (Qm)<|(Qy)<|(Qf 4)<|(Qy)<|(Qv 2 0) ?_
    refine e_as (f3_of (w3_words ha0 ha1 ha2)).symm ?_
    refine (Qy) ?_
    refine e_call rfl (Un 298) (dbelow_fn (w3 a) (w3_lt192 ha0 ha1 ha2)) rfl rfl ?_
    refine (Qy)<|(Q0) ?_
    refine e_as (congrArg (fun z => Value.bool (!z)) (decide_eq_false hk1)) ?_
    refine (QF)<|(Qm)<|(Qo)<|(Qo)<|(Qo)<|(QT)<|(Qm)<|(Qo)<|(Qo)<|(Qo)<|(QT)<|Qn ?_
    refine e_cond rfl ?_ ?_
    · intro hc0
      have hfin := ok_no (d := okh n h 16) hko
      refine Qs<|Qp<|(Qa)<|Qn<|Qr ?_
      first | rw [if_pos hfin] | rw [if_neg hfin]
      exact ⟨_, rfl, .tmp rfl⟩
    · intro hc0
      exact absurd hc0 (by decide)
  · skip
    refine (Qg)<|(Qf 0)<|(Qv 0 0) ?_
    refine e_call rfl (Un 296) (dclamped_fn _) rfl rfl ?_
    refine (Qf 0)<|(Qv 0 0) ?_
    refine e_neA (Uu 290) (Uu 31) (Uz 31) eqg290 rfl rfl rfl ?_
    refine e_as (congrArg (fun z => Value.bool (!z)) hk0) ?_
    refine (Qm)<|(Qy)<|(Qf 4)<|(Qy)<|(Qv 2 0) ?_
    refine e_as (f3_of (w3_words ha0 ha1 ha2)).symm ?_
    refine (Qy) ?_
    refine e_call rfl (Un 298) (dbelow_fn (w3 a) (w3_lt192 ha0 ha1 ha2)) rfl rfl ?_
    refine (Qy)<|(Q0) ?_
    refine e_as (congrArg (fun z => Value.bool (!z)) (decide_eq_true hk1)) ?_
    refine (QF)<|(Qm)<|(Qy)<|(Qf 23)<|(Qy)<|(QV 4 0)<|(Qy)<|(Ql)<|(Qat)<|(QF)<|(Qm)<|(Qo)<|(Qo)<|(Qo)<|(QT)<|Qn ?_
    refine e_cond rfl ?_ ?_
    · intro hc0
      have hfin := ok_no (d := okh n h 16) hko
      refine Qs<|Qp<|(Qa)<|Qn<|Qr ?_
      first | rw [if_pos hfin] | rw [if_neg hfin]
      exact ⟨_, rfl, .tmp rfl⟩
    · intro hc0
      exact absurd hc0 (by decide)
  · skip
    refine (Qg)<|(Qf 0)<|(Qv 0 0) ?_
    refine e_call rfl (Un 296) (dclamped_fn _) rfl rfl ?_
    refine (Qf 0)<|(Qv 0 0) ?_
    refine e_neA (Uu 290) (Uu 31) (Uz 31) eqg290 rfl rfl rfl ?_
    refine e_as (congrArg (fun z => Value.bool (!z)) hk0) ?_
    refine (Qm)<|(Qy)<|(Qf 4)<|(Qy)<|(Qv 2 0) ?_
    refine e_as (f3_of (w3_words ha0 ha1 ha2)).symm ?_
    refine (Qy) ?_
    refine e_call rfl (Un 298) (dbelow_fn (w3 a) (w3_lt192 ha0 ha1 ha2)) rfl rfl ?_
    refine (Qy)<|(Q0) ?_
    refine e_as (congrArg (fun z => Value.bool (!z)) (decide_eq_true hk1)) ?_
    refine (QF)<|(Qm)<|(Qy)<|(Qf 23)<|(Qy)<|(QV 4 0)<|(Qy)<|(Ql)<|(Qaf)<|(QF)<|(Qm)<|(Qy)<|(Qf 23)<|(Qy)<|(QV 4 0)<|(Qy)<|(QE)<|(Qat)<|(QF)<|Qn ?_
    refine e_cond rfl ?_ ?_
    · intro hc0
      have hfin := ok_no (d := okh n h 16) hko
      refine Qs<|Qp<|(Qa)<|Qn<|Qr ?_
      first | rw [if_pos hfin] | rw [if_neg hfin]
      exact ⟨_, rfl, .tmp rfl⟩
    · intro hc0
      exact absurd hc0 (by decide)
  · skip
    refine (Qg)<|(Qf 0)<|(Qv 0 0) ?_
    refine e_call rfl (Un 296) (dclamped_fn _) rfl rfl ?_
    refine (Qf 0)<|(Qv 0 0) ?_
    refine e_neA (Uu 290) (Uu 31) (Uz 31) eqg290 rfl rfl rfl ?_
    refine e_as (congrArg (fun z => Value.bool (!z)) hk0) ?_
    refine (Qm)<|(Qy)<|(Qf 4)<|(Qy)<|(Qv 2 0) ?_
    refine e_as (f3_of (w3_words ha0 ha1 ha2)).symm ?_
    refine (Qy) ?_
    refine e_call rfl (Un 298) (dbelow_fn (w3 a) (w3_lt192 ha0 ha1 ha2)) rfl rfl ?_
    refine (Qy)<|(Q0) ?_
    refine e_as (congrArg (fun z => Value.bool (!z)) (decide_eq_true hk1)) ?_
    refine (QF)<|(Qm)<|(Qy)<|(Qf 23)<|(Qy)<|(QV 4 0)<|(Qy)<|(Ql)<|(Qaf)<|(QF)<|(Qm)<|(Qy)<|(Qf 23)<|(Qy)<|(QV 4 0)<|(Qy)<|(QE)<|(Qaf)<|(QF)<|Qn ?_
    refine e_cond rfl ?_ ?_
    · intro hc0
      exact absurd hc0 (by decide)
    · intro hc0
      refine Qk<|Qs<|Qs<|Qp<|(Qf 7)<|(Qf 23)<|(QV 4 0) ?_
      refine e_sliceA k 16 (Uu 263) (Uz 5) rfl rfl rfl ⟨_, rfl⟩ rfl (by omega) (by omega) (by omega) rfl ?_
      refine e_lenSl (Uu 22) rfl rfl rfl ?_
      refine (Qm)<|Qn<|Qb ?_
      refine QzK [(30, _), (31, _)] [(0, _)] (fun kk E m => ∃ (i : Nat), kk = 16 - k - i ∧ E = [(32, ii i)] ∧ m = [] ∧ (i ≤ 16 - k) ∧ (∀ j, j < i → h (k + j) = 0)) ⟨0, rfl, rfl, rfl, by omega, fun j hj => absurd hj (Nat.not_lt_zero j)⟩ ⟨rfl, rfl, rfl, trivial⟩ ⟨rfl, trivial⟩ ?_
      rintro kk E m ⟨i, rfl, rfl, rfl, hf0_0, hf0_1⟩
      simp only [catE, catL]
      refine Qs<|Qp<|(Ql)<|Qn<|Qs ?_
      refine e_cond rfl ?_ ?_
      · intro hc1
        have hc1 : i < 16 - k := by have := of_decide_eq_true hc1; omega
        refine Qk<|Qs<|Qb<|Qs<|Qp ?_
        refine e_atSl (7 + (k + i)) (Uu 22) (Uz 5) rfl rfl (by omega) (by omega) rfl ?_
        refine e_ldI (i := 0) 3 (k + i) (Uu 5) rfl rfl rfl rfl (by first | rfl | omega) (by omega) (by omega) rfl ⟨[], trivial⟩ ?_
        refine (Qa)<|Qn<|Qs<|Qp<|(Qm)<|(QN)<|Qn ?_
        refine e_cond rfl ?_ ?_
        · intro hc2
          have hc2 := of_decide_eq_true hc2
          have hfin : ¬ (okcd r a (k : Int) && okh (k : Int) h 16) = true := by rw [okh_not hc1 (fun e => hc2 (by rw [e]; rfl))]; simp
          refine Qs<|Qp<|(Qa)<|Qn<|Qr ?_
          first | rw [if_pos hfin] | rw [if_neg hfin]
          exact ⟨_, rfl, .tmp rfl⟩
        · intro hc2
          have hc2 := of_decide_eq_false hc2
          have hcz : h (k + i) = 0 := by omega
          refine Qk<|Qp<|(Q2 1)<|(Qm)<|Qn ?_
          refine QzL ⟨i + 1, rfl, rfl, rfl, by omega, fun j hj => by by_cases e : j = i; exact e ▸ hcz; exact hf0_1 j (by omega)⟩ ⟨rfl, rfl, rfl, trivial⟩ ⟨rfl, trivial⟩ ?_
          omega
      · intro hc1
        have hc1 := of_decide_eq_false hc1
        have hz0 : i = 16 - k := by omega
        have hfin : (okcd r a (k : Int) && okh (k : Int) h 16) = true := by rw [hko, okh_all (by rw [← hz0]; exact hf0_1)]; rfl
        refine Qe<|Qs<|Qp<|(Qa)<|Qn<|Qr ?_
        first | rw [if_pos hfin] | rw [if_neg hfin]
        exact ⟨_, rfl, .tmp rfl⟩
end Go.Proofs.YthljakcegoohlaaGreatDoor
namespace Go.Proofs.YthljakcegoohlaaGreatDoor
open Go Go.RowKit
variable {G : Mem}
set_option maxHeartbeats 4000000 in
theorem dadd_ok (r p : Nat → Nat) (A : Nat) (h : Nat → Nat) (n : Nat) (v : Value) (l : List Nat) (hv : Sh G v l) (hlb : ∀ b ∈ l, b < 256) (hA : A < 2 ^ 130) (hr0 : r 0 < 18446744073709551616) (hr1 : r 1 < 18446744073709551616) (hR : k3 r < 2 ^ 124) (hn : n < 16) (hh : L8 16 h) (hz : ∀ j, n ≤ j → j < 16 → h j = 0) (hok : (okcd r (wd A) n && okh n h 16) = true) (hlen : l.length + 16 ≤ 9223372036854775807) : Fn Tryz.prog G 281 #[PV r p (wd A) h n, v] (.tuple #[PV r p (wd (accs (k3 r) A (sS h n l) ((sS h n l).length / 16))) (fun i => ((sS h n l).drop (16 * ((sS h n l).length / 16))).getD i 0) (((sS h n l).drop (16 * ((sS h n l).length / 16))).length : Int), ii 0]) := by
  have hSl := sS_len h n l
  have hSb := sS_lt (n := n) (fun j hj => hh j (by omega)) hlb
  have hwA := wd_lt A
  refine Qf2 Tryz.func281 ?_
  refine Qs<|Qp<|(Qh 0) fun r1=>(QH 1) fun r2=>(Qa)<|Qn<|Qs<|Qs<|Qp<|(QD 0) ?_
  refine e_call rfl (Un 293) (dcheck_fn r p (wd A) h n (hwA 0) (hwA 1) (hwA 2) hr0 hr1) rfl rfl ?_
  refine e_as (congrArg ii (if_pos hok)) ?_
  refine (Qa)<|Qn<|Qs<|Qp<|(Qm)<|(QN)<|Qn ?_
  refine e_cond rfl ?_ ?_
  · intro hc0
    exact absurd hc0 (by decide)
  · intro hc0
    refine Qk<|Qs<|Qs<|Qp<|(Qm)<|(QC hv)<|(Qm)<|Qn<|Qb ?_
    refine QzK [(2, _), (4, _), (5, _), (15, _), (16, _)] [(1, _)] (fun kk E m => ∃ (i : Nat) (ac : Nat) (g : Nat → Nat) (c : Nat), kk = l.length - i ∧ E = [(17, ii i)] ∧ m = [(0, some ⟨r1, cells 24 [pI .u64 2 r, pI .u64 2 p, pI .u64 3 (wd ac), pI .u8 16 g, pV (.int .i64 ((c : Nat) : Int))], 293⟩)] ∧ (i ≤ l.length) ∧ (ac = accs (k3 r) A (sS h n l) ((n + i) / 16)) ∧ (c = (n + i) % 16) ∧ (∀ j, j < 16 → g j = hold (sS h n l) (n + i) j)) ⟨0, A, h, n, rfl, rfl, rfl, by omega, by rw [show (n + 0) / 16 = 0 by omega]; rfl, by omega, hold_first hn hz⟩ ⟨rfl, rfl, rfl, rfl, rfl, rfl, trivial⟩ ⟨rfl, rfl, trivial⟩ ?_
    rintro kk E m ⟨i, ac, g, c, rfl, rfl, rfl, hf0_0, hf0_1, hf0_2, hf0_3⟩
    simp only [catE, catL]
    have hac : ac < 2 ^ 130 := by rw [hf0_1]; exact accs_lt hA _
    refine Qs<|Qp<|(Ql)<|Qn<|Qs ?_
    refine e_cond rfl ?_ ?_
    · intro hc1
      have hc1 : i < l.length := by have := of_decide_eq_true hc1; omega
      refine Qk<|Qs<|Qb<|Qs<|Qp ?_
      refine e_atV hv (Uu 22) (Uz 5) rfl rfl (by omega) rfl ?_
      refine (QS) ?_
      refine e_loadV hv seenG (Uu 5) rfl rfl (nth_by8 hc1) rfl ?_
      refine (Qa)<|Qn<|Qs<|Qp<|(Qf 23)<|(QV 4 0)<|(Qm)<|(Qf 7)<|(QB (7 + c)) ?_
      refine e_stI (i := 0) 3 (c) (Uz 5) rfl rfl rfl rfl (by first | rfl | omega) (by omega) (by omega) (.inl rfl) ?_
      refine Qn<|Qs<|Qp<|(Qf 23)<|(QV 4 0)<|(Q2 1)<|(Qf 23) ?_
      refine e_stV (i := 0) 4 (Uz 3) rfl rfl rfl rfl rfl (by decide) (.inl rfl) ?_
      refine Qn<|Qs<|Qp<|(Qf 23)<|(QV 4 0)<|(Qc)<|Qn ?_
      refine e_cond rfl ?_ ?_
      · intro hc2
        have hc2 := of_decide_eq_true hc2
        have hc16 : c + 1 = 16 := by omega
        refine Qp<|(QD 0) ?_
        refine e_as (show _ = PV r p (wd ac) (upd g c l[i]) ((c + 1 : Nat) : Int) from rfl) ?_
        refine e_call rfl (Un 294) (dtake_fn r p ac (upd g c l[i]) (c + 1) hr0 hr1 hR hac (by omega) (fun j hj => by unfold upd; split; exact hlb _ (List.getElem_mem hc1); rw [hf0_3 j hj]; exact hold_lt hSb _ _) (fun j h1 h2 => absurd h2 (by omega))) rfl rfl ?_
        refine e_storeA (i := 0) (Uz 293) rfl rfl (arrv_size _ _) (cells_one ⟨fun _ => rfl, fun _ => rfl, fun _ => rfl, fun _ => rfl, fun _ => rfl, trivial⟩) rfl cells_sz (.inl rfl) ?_
        refine Qn<|Qp<|(Q2 1)<|(Qm)<|Qn ?_
        refine QzL ⟨i + 1, _, _, _, rfl, rfl, rfl, by omega, (by first | exact accs_stay (T := n + i) (by omega) hf0_1 | exact accs_step (T := n + i) (by omega) hf0_1 (by rw [hc16, hf0_2]; exact hold_full (T := n + i) (by omega) (by omega) (sS_at hc1) hf0_3)), by omega, (by first | exact hold_zero (T := n + i) (by omega) | (rw [hf0_2]; exact hold_next (T := n + i) (by omega) (sS_at hc1) hf0_3))⟩ ⟨rfl, rfl, rfl, rfl, rfl, rfl, trivial⟩ ⟨rfl, rfl, trivial⟩ ?_
        omega
      · intro hc2
        have hc2 := of_decide_eq_false hc2
        refine Qk<|Qp<|(Q2 1)<|(Qm)<|Qn ?_
        refine QzL ⟨i + 1, _, _, _, rfl, rfl, rfl, by omega, (by first | exact accs_stay (T := n + i) (by omega) hf0_1 | exact accs_step (T := n + i) (by omega) hf0_1 (by rw [hc16, hf0_2]; exact hold_full (T := n + i) (by omega) (by omega) (sS_at hc1) hf0_3)), by omega, (by first | exact hold_zero (T := n + i) (by omega) | (rw [hf0_2]; exact hold_next (T := n + i) (by omega) (sS_at hc1) hf0_3))⟩ ⟨rfl, rfl, rfl, rfl, rfl, rfl, trivial⟩ ⟨rfl, rfl, trivial⟩ ?_
        omega
    · intro hc1
      have hc1 := of_decide_eq_false hc1
      have hz0 : i = l.length := by omega
      refine Qe<|Qs<|Qp<|(QD 0) ?_
      refine e_as (Eq.trans (show _ = PV r p (wd ac) g ((c : Nat) : Int) from rfl) (show _ = PV r p (wd (accs (k3 r) A (sS h n l) ((sS h n l).length / 16))) (fun i => ((sS h n l).drop (16 * ((sS h n l).length / 16))).getD i 0) (((sS h n l).drop (16 * ((sS h n l).length / 16))).length : Int) from PV_congr (fun _ _ => rfl) (fun _ _ => rfl) (fun _ _ => by rw [hf0_1, hSl, hz0]) (hold_end (by rw [hSl, ← hz0]; exact hf0_3)) (by rw [List.length_drop]; omega))) ?_
      refine e_storeA (i := 1) (Uz 293) rfl rfl (arrv_size _ _) (cells_one ⟨fun _ => rfl, fun _ => rfl, fun _ => rfl, fun _ => rfl, fun _ => rfl, trivial⟩) rfl cells_sz (.inl rfl) ?_
      refine (Qa)<|Qn<|Qr ?_
      exact ⟨_, _, rfl, .cell (i := 1) rfl rfl (Uu 293) rfl (Uz 293) (arrv_size _ _), .tmp rfl⟩
set_option maxHeartbeats 4000000 in
theorem dend_zero (r p : Nat → Nat) (A : Nat) (h : Nat → Nat) (n : Nat) (hr0 : r 0 < 18446744073709551616) (hr1 : r 1 < 18446744073709551616) (hp0 : p 0 < 18446744073709551616) (hp1 : p 1 < 18446744073709551616) (hn : n = 0) (hok : (okcd r (wd A) n && okh n h 16) = true) : Fn Tryz.prog G 283 #[PV r p (wd A) h n] (.tuple #[.agg (arr .u8 16 (tgn (k3 (wd A)) (k3 p))), ii 0]) := by
  have hwA := wd_lt A
  refine Qf2 Tryz.func283 ?_
  refine Qs<|Qp<|(Qh 0) fun r1=>(QH 1) fun r2=>(Qa)<|Qn<|Qs<|Qs<|Qp<|(QD 0) ?_
  refine e_call rfl (Un 293) (dcheck_fn r p (wd A) h n (hwA 0) (hwA 1) (hwA 2) hr0 hr1) rfl rfl ?_
  refine e_as (congrArg ii (if_pos hok)) ?_
  refine (Qa)<|Qn<|Qs<|Qp<|(Qm)<|(QN)<|Qn ?_
  refine e_cond rfl ?_ ?_
  · intro hc0
    exact absurd hc0 (by decide)
  · intro hc0
    refine Qk<|Qs<|Qs<|Qp<|(Qf 23)<|(QV 4 0)<|(QG)<|Qn ?_
    refine e_cond rfl ?_ ?_
    · intro hc1
      exact absurd (of_decide_eq_true hc1) (by omega)
    · intro hc1
      refine Qk<|Qs<|Qp<|(QD 0) ?_
      refine e_call rfl (Un 297) (dpad_fn r p A h n hp0 hp1) rfl rfl ?_
      refine (Qt 1)<|(Qa)<|Qn<|Qr ?_
      exact ⟨_, _, rfl, .cell (i := 1) rfl rfl (Uu 263) rfl (Uz 263) (arr_size _ _ _), .tmp rfl⟩
set_option maxHeartbeats 4000000 in
theorem dend_some (r p : Nat → Nat) (A : Nat) (h : Nat → Nat) (n : Nat) (hr0 : r 0 < 18446744073709551616) (hr1 : r 1 < 18446744073709551616) (hp0 : p 0 < 18446744073709551616) (hp1 : p 1 < 18446744073709551616) (hR : k3 r < 2 ^ 124) (hA : A < 2 ^ 130) (hh : L8 16 h) (hz : ∀ j, n ≤ j → j < 16 → h j = 0) (hn : 0 < n) (hn2 : n < 16) (hok : (okcd r (wd A) n && okh n h 16) = true) : Fn Tryz.prog G 283 #[PV r p (wd A) h n] (.tuple #[.agg (arr .u8 16 (tgn (k3 (wd (pst (k3 r) A ((List.range n).map h)))) (k3 p))), ii 0]) := by
  have hwA := wd_lt A
  refine Qf2 Tryz.func283 ?_
  refine Qs<|Qp<|(Qh 0) fun r1=>(QH 1) fun r2=>(Qa)<|Qn<|Qs<|Qs<|Qp<|(QD 0) ?_
  refine e_call rfl (Un 293) (dcheck_fn r p (wd A) h n (hwA 0) (hwA 1) (hwA 2) hr0 hr1) rfl rfl ?_
  refine e_as (congrArg ii (if_pos hok)) ?_
  refine (Qa)<|Qn<|Qs<|Qp<|(Qm)<|(QN)<|Qn ?_
  refine e_cond rfl ?_ ?_
  · intro hc0
    exact absurd hc0 (by decide)
  · intro hc0
    refine Qk<|Qs<|Qs<|Qp<|(Qf 23)<|(QV 4 0)<|(QG)<|Qn ?_
    refine e_cond rfl ?_ ?_
    · intro hc1
      refine Qp<|(QD 0) ?_
      refine e_call rfl (Un 294) (dtake_fn r p A h n hr0 hr1 hR hA (by omega) hh hz) rfl rfl ?_
      refine e_storeA (i := 0) (Uz 293) rfl rfl (arrv_size _ _) (cells_one ⟨fun _ => rfl, fun _ => rfl, fun _ => rfl, fun _ => rfl, fun _ => rfl, trivial⟩) rfl cells_sz (.inl rfl) ?_
      refine Qn<|Qs<|Qp<|(QD 0) ?_
      refine e_call rfl (Un 297) (dpad_fn r p (pst (k3 r) A ((List.range n).map h)) (fun _ => 0) ((0 : Nat) : Int) hp0 hp1) rfl rfl ?_
      refine (Qt 1)<|(Qa)<|Qn<|Qr ?_
      exact ⟨_, _, rfl, .cell (i := 1) rfl rfl (Uu 263) rfl (Uz 263) (arr_size _ _ _), .tmp rfl⟩
    · intro hc1
      exact absurd (of_decide_eq_false hc1) (by omega)
end Go.Proofs.YthljakcegoohlaaGreatDoor
namespace Go.Proofs.YthljakcegoohlaaGreatDoor
open Go Go.RowKit
theorem dbegin_msg {G : Mem} (f : Nat → Nat) (hf : ∀ j, j < 32 → f j < 256) : Fn Tryz.prog G 282 #[.agg (arr .u8 32 f)] (stP f []) := by
  rw [← stP_nil f]; exact dbegin_fn f hf
theorem heldF_zero (m : List Nat) : ∀ j, (rem16 m).length ≤ j → j < 16 → heldF m j = 0 := fun j h1 _ => by
  unfold heldF
  rw [List.getD_eq_getElem?_getD, List.getElem?_eq_none h1]; rfl
theorem dadded_msg {G : Mem} (f : Nat → Nat) (m : List Nat) (v : Value) (l : List Nat) (hf : ∀ j, j < 32 → f j < 256) (hm : ∀ b ∈ m, b < 256) (hv : Shows G 1 v l.length (l.map by8)) (hlb : ∀ b ∈ l, b < 256) (hlen : l.length + 16 ≤ 9223372036854775807) :
    Fn Tryz.prog G 281 #[stP f m, v] (.tuple #[stP f (m ++ l), ii 0]) := by
  have hb := bL_lt hf
  have h := dadd_ok (G := G) (w8 (bL f)) (fun j => w8 (bL f) (j + 2)) (acc0 (k3 (w8 (bL f))) m) (heldF m) (rem16 m).length v l hv hlb (Nat.lt_trans (acc0_lt _ _) QQ_lt) (w8_lt hb 0) (w8_lt hb 1) (k3_small (w8_lt hb 0) (w8_lt hb 1) (okR_begun hf)) (by rw [rem16_len]; omega) (fun j _ => heldF_lt hm j) (heldF_zero m) (ok_heldF (okR_begun hf) _ m) hlen
  rw [sS_held, acc0_app, rem16_app] at h
  exact h
theorem dended_msg {G : Mem} (f : Nat → Nat) (m : List Nat) (hf : ∀ j, j < 32 → f j < 256) (hm : ∀ b ∈ m, b < 256) : Fn Tryz.prog G 283 #[stP f m] (.tuple #[.agg (arr .u8 16 (ptg f m)), ii 0]) := by
  have hb := bL_lt hf
  have hok := ok_heldF (okR_begun hf) (k3 (w8 (bL f))) m
  by_cases h0 : (rem16 m).length = 0
  · have h := dend_zero (G := G) (w8 (bL f)) (fun j => w8 (bL f) (j + 2)) (acc0 (k3 (w8 (bL f))) m) (heldF m) (rem16 m).length (w8_lt hb 0) (w8_lt hb 1) (w8_lt hb 2) (w8_lt hb 3) h0 hok
    unfold stP cP
    rw [show acc0 (k3 (w8 (bL f))) m = accE (k3 (w8 (bL f))) m from (if_pos h0).symm] at h ⊢
    exact h
  · have h := dend_some (G := G) (w8 (bL f)) (fun j => w8 (bL f) (j + 2)) (acc0 (k3 (w8 (bL f))) m) (heldF m) (rem16 m).length (w8_lt hb 0) (w8_lt hb 1) (w8_lt hb 2) (w8_lt hb 3) (k3_small (w8_lt hb 0) (w8_lt hb 1) (okR_begun hf)) (Nat.lt_trans (acc0_lt _ _) QQ_lt) (fun j _ => heldF_lt hm j) (heldF_zero m) (by omega) (by rw [rem16_len]; omega) hok
    rw [held_list, show pst (k3 (w8 (bL f))) (acc0 (k3 (w8 (bL f))) m) (rem16 m) = accE (k3 (w8 (bL f))) m from (if_neg h0).symm] at h
    exact h
variable {G : Mem}
set_option maxHeartbeats 2000000 in
theorem dtag_fn (f : Nat → Nat) (v : Value) (l : List Nat) (hf : L8 32 f) (hb : ∀ b ∈ l, b < 256) (hl : l.length ≤ 140737488351232) (hv : Sh G v l) : Fn Tryz.prog G 268 #[.agg (arr .u8 32 f), v] (.agg (arr .u8 16 (ptg f l))) := by
  have hl2 : l.length + 16 ≤ 9223372036854775807 := by omega
  refine Qf1 Tryz.func268 ?_
  refine Qs<|Qp<|(Qh 0) fun r1=>(QH 1) fun r2=>Qn<|Qs<|Qp<|(Qd 0) ?_
  refine e_call rfl (Un 282) (dbegin_msg f hf) rfl rfl ?_
  refine (Qm) ?_
  refine e_call rfl (Un 281) (dadded_msg f [] v l hf (by simp) hv hb hl2) rfl rfl ?_
  refine e_as (show _ = Value.tuple #[stP f l, ii 0] from rfl) ?_
  refine (Qm)<|(Qx)<|(Qx)<|(QH 2) fun r3=>?_
  refine e_storeA (i := 2) (Uz 293) rfl rfl (arrv_size _ _) (cells_one ⟨fun _ => rfl, fun _ => rfl, fun _ => rfl, fun _ => rfl, fun _ => rfl, trivial⟩) rfl cells_sz (.inl rfl) ?_
  refine (Qa)<|Qn<|Qs<|Qp<|(QD 2) ?_
  refine e_call rfl (Un 283) (dended_msg f l hf hb) rfl rfl ?_
  refine (Qm)<|(Qx)<|(Qx)<|(QH 3) fun r4=>(Qt 3)<|(Qa)<|Qn<|Qs<|Qp<|(Qd 3)<|(Qt 1)<|Qn<|Qr ?_
  exact ⟨_, rfl, .cell (i := 1) rfl rfl (Uu 263) rfl (Uz 263) (arr_size _ _ _)⟩
end Go.Proofs.YthljakcegoohlaaGreatDoor
namespace Go.Proofs.YthljakcegoohlaaGreatDoor
open Go Go.RowKit
variable {G : Mem}
set_option maxHeartbeats 4000000 in
theorem dsummed_fn (va vt : Value) (ad tx : List Nat) (hva : Sh G va ad) (hvt : Sh G vt tx) (hal : ad.length ≤ 10000) (htl : tx.length ≤ 10000) : Fx Tryz.prog G [] 269 #[va, vt] (fun v l1 nw => l1 = [] ∧ ∃ v', v = v' ∧ OwnS 5 1 v' (macIn ad tx).length ((macIn ad tx).map by8) nw) := by
  have hml := macIn_len ad tx
  have hse := summed_eq ad tx
  refine QfN Tryz.func269 ?_
  refine Qs<|Qp<|(Qa)<|Qn<|Qs<|QR ⟨[], 4, [], none⟩<|(Qm)<|(Qm)<|(QC hva) ?_
  refine e_callN 0 (fun v => v) rfl rfl (Un 284) seenG (dfill_fn ad.length) (by simp only [maxLen]; omega) (by rw [List.length_map, zrs_len, Nat.mul_one]) rfl rfl fun v1_1 oz1_1 ho1_1 => ?_
  refine (Qm)<|(Qm)<|(QC hvt) ?_
  refine e_callN 1 (fun v => v) rfl rfl (Un 284) seenG (dfill_fn tx.length) (by simp only [maxLen]; omega) (by rw [List.length_map, zrs_len, Nat.mul_one]) rfl rfl fun v1_2 oz1_2 ho1_2 => ?_
  refine (Qm)<|(QC hva) ?_
  refine e_callN 2 (fun v => v) rfl rfl (Un 285) seenG (deight_fn ad.length) (by simp only [maxLen]; omega) (by rw [List.length_map, lowl_len]) rfl rfl fun v1_3 oz1_3 ho1_3 => ?_
  refine (Qm)<|(QC hvt) ?_
  refine e_callN 3 (fun v => v) rfl rfl (Un 285) seenG (deight_fn tx.length) (by simp only [maxLen]; omega) (by rw [List.length_map, lowl_len]) rfl rfl fun v1_4 oz1_4 ho1_4 => ?_
  refine e_buildSl 4 [va, v1_1, vt, v1_2, v1_3, v1_4].toArray (Uu 198 rfl) (Uz 22 rfl) (Ub 22 rfl) (by decide) (by decide) rfl (fill_ones [va, v1_1, vt, v1_2, v1_3, v1_4] 0 _ (by intro v hv; simp only [List.mem_cons, List.not_mem_nil, or_false] at hv; rcases hv with rfl | rfl | rfl | rfl | rfl | rfl; exact shows_one hva; exact shows_one ho1_1.shows; exact shows_one hvt; exact shows_one ho1_2.shows; exact shows_one ho1_3.shows; exact shows_one ho1_4.shows) (by simp)) rfl fun r5 => ?_
  refine e_callN 5 (fun v => v) rfl rfl (Un 92) (seen_app seenG (seen_app (seenM 0 rfl ⟨[], trivial⟩) (seen_app (seenM 1 rfl ⟨[], trivial⟩) (seen_app (seenM 2 rfl ⟨[], trivial⟩) (seen_app (seenM 3 rfl ⟨[], trivial⟩) (seen1 4 rfl ⟨[], trivial⟩)))))) (concat_fn (G := (G ++ (oz1_1.toList ++ (oz1_2.toList ++ (oz1_3.toList ++ (oz1_4.toList ++ [(⟨r5, [va, v1_1, vt, v1_2, v1_3, v1_4].toArray, 22⟩ : Blk)])))))) (.slice (some ⟨r5, 0, none⟩) 6 6) [va, v1_1, vt, v1_2, v1_3, v1_4] [ad, zrs ((16 - ad.length % 16) % 16), tx, zrs ((16 - tx.length % 16) % 16), lowl ad.length 8, lowl tx.length 8] (Shows.mono (shows_new (r := r5) (len := 6) (z := 1) [va, v1_1, vt, v1_2, v1_3, v1_4].toArray 22 rfl) (fun x h => (List.mem_append_right _ (List.mem_append_right _ (List.mem_append_right _ (List.mem_append_right _ (List.mem_append_right _ h))))))) (showsL_cons (hva.mono (fun x h => (List.mem_append_left _ h))) (showsL_cons (Shows.mono (OwnS.shows (own_fix ho1_1 (zrs_len _).symm rfl)) (fun x h => (List.mem_append_right _ (List.mem_append_left _ h)))) (showsL_cons (hvt.mono (fun x h => (List.mem_append_left _ h))) (showsL_cons (Shows.mono (OwnS.shows (own_fix ho1_2 (zrs_len _).symm rfl)) (fun x h => (List.mem_append_right _ (List.mem_append_right _ (List.mem_append_left _ h))))) (showsL_cons (Shows.mono (OwnS.shows (own_fix ho1_3 (lowl_len ad.length 8).symm rfl)) (fun x h => (List.mem_append_right _ (List.mem_append_right _ (List.mem_append_right _ (List.mem_append_left _ h)))))) (showsL_cons (Shows.mono (OwnS.shows (own_fix ho1_4 (lowl_len tx.length 8).symm rfl)) (fun x h => (List.mem_append_right _ (List.mem_append_right _ (List.mem_append_right _ (List.mem_append_right _ (List.mem_append_left _ h))))))) (showsL_nil _))))))) (Nat.le_of_ble_eq_true rfl) (by rw [hse]; omega)) (by rw [hse]; simp only [maxLen]; omega) (by rw [List.length_map, Nat.mul_one]) rfl rfl fun v1_5 oz1_5 ho1_5 => ?_
  refine (Qa)<|Qn<|Qr ?_
  exact ⟨_, _, _, 5, rfl, .tmp rfl, (own_fix ho1_5 (by rw [hse]) (by rw [hse])), rfl⟩
set_option maxHeartbeats 400000 in
theorem dsame_fn (f g : Nat → Nat) : Fn Tryz.prog G 251 #[.agg (arr .u8 16 f), .agg (arr .u8 16 g)] (.bool (decide (agr f g 16 = 0))) := by
  refine Qf1 Tryz.func251 ?_
  refine Qs<|Qp<|(Qh 0) fun r1=>(Qh 1) fun r2=>(Qa)<|Qn<|Qs<|Qp<|(Qa)<|Qn<|Qs<|Qs<|Qp<|(Qm)<|Qn<|Qb ?_
  refine QzK [(2, _), (3, _), (4, _)] [(0, _), (1, _)] (fun kk E m => ∃ (i : Nat), kk = 16 - i ∧ E = [(5, by8 (agr f g i)), (7, ii i)] ∧ m = [] ∧ (i ≤ 16)) ⟨0, rfl, rfl, rfl, by omega⟩ ⟨rfl, rfl, rfl, rfl, rfl, trivial⟩ ⟨rfl, rfl, trivial⟩ ?_
  rintro kk E m ⟨i, rfl, rfl, rfl, hf0_0⟩
  simp only [catE, catL]
  refine Qs<|Qp<|(Ql)<|Qn<|Qs ?_
  refine e_cond rfl ?_ ?_
  · intro hc0
    have hc0 : i < 16 := by have := of_decide_eq_true hc0; omega
    refine Qk<|Qs<|Qb<|Qs<|Qp<|(Qm)<|(Qa)<|Qn<|(Qg)<|(Qm)<|(Qm)<|(Qi)<|(Q1 0)<|(Qm)<|(Qi)<|(Q1 1) ?_
    refine e_xor_b rfl rfl rfl  ?_
    refine e_or_b rfl rfl rfl  ?_
    refine (Qa)<|Qn<|Qp<|(Q2 1)<|(Qm)<|Qn ?_
    refine QzL ⟨i + 1, rfl, rfl, rfl, by omega⟩ ⟨rfl, rfl, rfl, rfl, rfl, trivial⟩ ⟨rfl, rfl, trivial⟩ ?_
    omega
  · intro hc0
    have hc0 := of_decide_eq_false hc0
    have hz0 : i = 16 := by omega
    subst hz0
    refine Qe<|Qs<|Qp<|(Qm)<|(Qc) ?_
    refine e_as (show _ = Value.bool (decide (agr f g 16 = 0)) from congrArg Value.bool (decide_eq_decide.2 (by omega))) ?_
    refine (Qa)<|Qn<|Qr ?_
    exact ⟨_, rfl, .tmp rfl⟩
set_option maxHeartbeats 400000 in
theorem dstream_fn (k nn : Nat → Nat) (v : Value) (l : List Nat) (hk : L8 32 k) (hn : L8 12 nn) (hv : Sh G v l) (hl : l.length ≤ 1600) : Fx Tryz.prog G [] 245 #[.agg (arr .u8 32 k), .agg (arr .u8 12 nn), v] (fun v l1 nw => l1 = [] ∧ ∃ v', v = v' ∧ OwnS 5 1 v' l.length ((strl k 1 nn l 0).map by8) nw) := by
  refine QfN Tryz.func245 ?_
  refine Qs<|Qp<|(Qh 0) fun r1=>(Qh 1) fun r2=>(Qa)<|Qn<|Qs<|QR ⟨[], 4, [], none⟩<|(Qd 0)<|(Qd 1)<|(Qm) ?_
  refine e_callN 2 (fun v => .tuple #[v, ii 0]) rfl rfl (Un 266) seenG (stream_ok k 1 nn v l hv hk hn (by decide) (by omega) (by omega)) (by simp only [maxLen]; omega) (by rw [List.length_map, strl_len, Nat.mul_one]) rfl rfl fun v1_1 oz1_1 ho1_1 => ?_
  refine (Qm)<|(Qx)<|(Qx)<|(Qa)<|(Qa)<|Qn<|Qs<|Qp<|(Qm)<|(Qa)<|Qn<|Qr ?_
  exact ⟨_, _, _, 2, rfl, .tmp rfl, ho1_1, rfl⟩
end Go.Proofs.YthljakcegoohlaaGreatDoor
namespace Go.Proofs.YthljakcegoohlaaGreatDoor
open Go Go.RowKit
variable {G : Mem}
set_option maxHeartbeats 4000000 in
theorem dtagOf_fn (k nn : Nat → Nat) (va vt : Value) (ad tx : List Nat) (hva : Sh G va ad) (hvt : Sh G vt tx) (hk : L8 32 k) (hn : L8 12 nn) (hab : (∀ b ∈ ad, b < 256)) (htb : (∀ b ∈ tx, b < 256)) (hal : ad.length ≤ 10000) (htl : tx.length ≤ 10000) : Fn Tryz.prog G 246 #[.agg (arr .u8 32 k), .agg (arr .u8 12 nn), va, vt] (.agg (arr .u8 16 (ptg (okey k nn) (macIn ad tx)))) := by
  have hml := macIn_len ad tx
  refine Qf1 Tryz.func246 ?_
  refine Qs<|Qp<|(Qh 0) fun r1=>(Qh 1) fun r2=>(QH 2) fun r3=>Qn<|Qs<|Qp<|(Qd 0)<|(Qd 1) ?_
  refine e_call rfl (Un 267) (block_fn k 0 nn hk hn (by decide)) rfl rfl ?_
  refine (QH 3) fun r4=>(Qt 3)<|Qn<|Qs<|(Qq ⟨[], 4, [], none⟩) ?_
  refine e_sliceA 0 32 (Uu 147) (Uz 5) rfl rfl rfl rfl ⟨_, rfl⟩ (by omega) (by omega) (by omega) rfl ?_
  refine e_toArr (Uu 30) rfl (by omega) rfl ?_
  refine e_loadS (i := 3) (Uu 30) rfl (Uz 30) rfl rfl (by omega) rfl ⟨[], trivial⟩ ?_
  refine e_as (congrArg Value.agg (arr_congr (fun j _ => show blkf k 0 nn (0 + j) = okey k nn j by rw [Nat.zero_add]; rfl))) ?_
  refine (Qm)<|(Qm) ?_
  refine e_callN 4 (fun v => v) rfl rfl (Un 269) seenG (dsummed_fn va vt ad tx hva hvt hal htl) (by simp only [maxLen]; omega) (by rw [List.length_map, Nat.mul_one]) rfl rfl fun v1_1 oz1_1 ho1_1 => ?_
  refine e_callV oz1_1.toList rfl rfl (Un 268) (subM_opt (i := 4) rfl) (dtag_fn (okey k nn) _ (macIn ad tx) (okey_lt k nn) (macIn_lt hab htb) (by omega) ho1_1.shows) rfl rfl rfl ?_
  refine (Qt 2)<|Qn<|Qr ?_
  exact ⟨_, rfl, .cell (i := 2) rfl rfl (Uu 263) rfl (Uz 263) (arr_size _ _ _)⟩
end Go.Proofs.YthljakcegoohlaaGreatDoor
namespace Go.Proofs.YthljakcegoohlaaGreatDoor
open Go Go.RowKit
variable {G : Mem}
set_option maxHeartbeats 400000 in
theorem dseal_big2 (k nn : Nat → Nat) (va vt : Value) (ad tx : List Nat) (hva : Sh G va ad) (hvt : Sh G vt tx) (h : ad.length ≤ 200) (h2 : 800 < tx.length) : Fn Tryz.prog G 218 #[.agg (arr .u8 32 k), .agg (arr .u8 12 nn), va, vt] (.tuple #[nilS, ii 1]) := by
  refine Qf2 Tryz.func218 ?_
  refine Qs<|Qp<|(Qh 0) fun r1=>(Qh 1) fun r2=>(Qa)<|(Qa)<|Qn<|Qs<|Qs<|Qp<|(Qm)<|(QC hva)<|(QG)<|(Qaf)<|(Qm)<|(Qy)<|(Qm)<|(Qy)<|(QC hvt)<|(Qy)<|(QG)<|(Qat)<|(QF)<|Qn<|(Qct)<|Qs<|Qp<|(Qa)<|(Qa)<|Qn<|Qr ?_
  exact ⟨_, _, rfl, .tmp rfl, .tmp rfl⟩
set_option maxHeartbeats 4000000 in
theorem dseal_ok (k nn : Nat → Nat) (va vt : Value) (ad tx : List Nat) (hk : L8 32 k) (hn : L8 12 nn) (hva : Sh G va ad) (hvt : Sh G vt tx) (hab : (∀ b ∈ ad, b < 256)) (h : ad.length ≤ 200) (h2 : tx.length ≤ 800) : Fx Tryz.prog G [] 218 #[.agg (arr .u8 32 k), .agg (arr .u8 12 nn), va, vt] (fun v l1 nw => l1 = [] ∧ ∃ v', v = .tuple #[v', ii 0] ∧ OwnS 5 1 v' (sealL k nn ad tx).length ((sealL k nn ad tx).map by8) nw) := by
  have hsl := strl_len k 1 nn tx 0
  have hse := sealL_len k nn ad tx
  refine QfM Tryz.func218 ?_
  refine Qs<|Qp<|(Qh 0) fun r1=>(Qh 1) fun r2=>(Qa)<|(Qa)<|Qn<|Qs<|Qs<|Qp<|(Qm)<|(QC hva)<|(QG)<|(Qaf)<|(Qm)<|(Qy)<|(Qm)<|(Qy)<|(QC hvt)<|(Qy)<|(QG)<|(Qaf)<|(QF)<|Qn<|(Qcf)<|Qk<|Qs<|QR ⟨[], 4, [], none⟩<|(Qd 0)<|(Qd 1)<|(Qm) ?_
  refine e_callN 2 (fun v => v) rfl rfl (Un 245) seenG (dstream_fn k nn vt tx hk hn hvt (by omega)) (by simp only [maxLen]; omega) (by rw [List.length_map, strl_len, Nat.mul_one, Nat.sub_zero]) rfl rfl fun v2_1 oz2_1 ho2_1 => ?_
  refine (Qa)<|Qn<|Qs<|Qp<|(Qd 0)<|(Qd 1)<|(Qm)<|(Qm) ?_
  refine e_callS rfl rfl (Un 246) (seen_app seenG (seenM 2 rfl ⟨[], trivial⟩)) (dtagOf_fn (G := G ++ oz2_1.toList) k nn va _ ad (strl k 1 nn tx 0) (hva.mono (fun x h => List.mem_append_left _ h)) ((own_bytes ho2_1).mono (fun x h => List.mem_append_right _ h)) hk hn hab (strl_lt _ _ _ _ _) (by omega) (by omega)) rfl rfl ?_
  refine (QH 3) fun r4=>(Qt 3)<|Qn<|Qs<|Qp<|(Qm) ?_
  refine e_sliceA 0 16 (Uu 263) (Uz 5) rfl rfl rfl rfl rfl (by omega) (by omega) (by omega) rfl ?_
  refine e_append 2 ho2_1 (arr_shows r4 16 (ptg (okey k nn) (macIn ad (strl k 1 nn tx 0))) 263 0 16 16 (by decide) (by decide)) rfl (seen1 3 rfl ⟨[], trivial⟩) (Uu 22) (Uz 5) (Uy 5) (Ub 5) (by rfl) rfl rfl by8_one (by simp only [maxLen]; simp; omega) (by simp; omega) rfl fun v2_2 oz2_2 ho2_2 => ?_
  refine (Qa)<|(Qa)<|Qn<|Qr ?_
  exact ⟨_, _, _, _, 2, rfl, .tmp rfl, .tmp rfl, (own_fix ho2_2 (by rw [hse]; simp) (seal_cells k nn ad tx)), rfl⟩
set_option maxHeartbeats 400000 in
theorem dopen_big2 (k nn : Nat → Nat) (va vt : Value) (ad tx : List Nat) (hva : Sh G va ad) (hvt : Sh G vt tx) (h : ad.length ≤ 200) (h2 : 816 < tx.length) : Fn Tryz.prog G 223 #[.agg (arr .u8 32 k), .agg (arr .u8 12 nn), va, vt] (.tuple #[nilS, ii 1]) := by
  refine Qf2 Tryz.func223 ?_
  refine Qs<|Qp<|(Qh 0) fun r1=>(Qh 1) fun r2=>(Qa)<|(Qa)<|Qn<|Qs<|Qs<|Qp<|(Qm)<|(QC hva)<|(QG)<|(Qaf)<|(Qm)<|(Qy)<|(Qm)<|(Qy)<|(QC hvt)<|(Qy)<|(QG)<|(Qat)<|(QF)<|Qn<|(Qct)<|Qs<|Qp<|(Qa)<|(Qa)<|Qn<|Qr ?_
  exact ⟨_, _, rfl, .tmp rfl, .tmp rfl⟩
set_option maxHeartbeats 400000 in
theorem dopen_short (k nn : Nat → Nat) (va vt : Value) (ad tx : List Nat) (hva : Sh G va ad) (hvt : Sh G vt tx) (h : ad.length ≤ 200) (h2 : tx.length < 16) : Fn Tryz.prog G 223 #[.agg (arr .u8 32 k), .agg (arr .u8 12 nn), va, vt] (.tuple #[nilS, ii 4]) := by
  refine Qf2 Tryz.func223 ?_
  refine Qs<|Qp<|(Qh 0) fun r1=>(Qh 1) fun r2=>(Qa)<|(Qa)<|Qn<|Qs<|Qs<|Qp<|(Qm)<|(QC hva)<|(QG)<|(Qaf)<|(Qm)<|(Qy)<|(Qm)<|(Qy)<|(QC hvt)<|(Qy)<|(QG)<|(Qaf)<|(QF)<|Qn<|(Qcf)<|Qk<|Qs<|Qs<|Qp<|(Qm)<|(QC hvt)<|(Ql)<|(Qat)<|Qn<|(Qct)<|Qs<|Qp<|(Qa)<|(Qa)<|Qn<|Qr ?_
  exact ⟨_, _, rfl, .tmp rfl, .tmp rfl⟩
set_option maxHeartbeats 4000000 in
theorem dopen_auth (k nn : Nat → Nat) (va vt : Value) (ad tx : List Nat) (hk : L8 32 k) (hn : L8 12 nn) (hva : Sh G va ad) (hvt : Sh G vt tx) (hab : (∀ b ∈ ad, b < 256)) (htb : (∀ b ∈ tx, b < 256)) (h : ad.length ≤ 200) (h2 : 16 ≤ tx.length) (h3 : tx.length ≤ 816) (ho : ¬ opensL k nn ad tx) : Fn Tryz.prog G 223 #[.agg (arr .u8 32 k), .agg (arr .u8 12 nn), va, vt] (.tuple #[nilS, ii 10]) := by
  have hv1 : Shows G 1 (slPart 1 vt 0 (tx.length - 16)) (tx.take (tx.length - 16)).length ((tx.take (tx.length - 16)).map by8) := hvt.cut (by omega) (by omega) (by simp)
  have hv2 : Shows G 1 (slPart 1 vt (tx.length - 16) tx.length) (tx.drop (tx.length - 16)).length ((tx.drop (tx.length - 16)).map by8) := hvt.cut (by omega) (by omega) (by rw [List.take_of_length_le (by simp)])
  refine Qf2 Tryz.func223 ?_
  refine Qs<|Qp<|(Qh 0) fun r1=>(Qh 1) fun r2=>(Qa)<|(Qa)<|Qn<|Qs<|Qs<|Qp<|(Qm)<|(QC hva)<|(QG)<|(Qaf)<|(Qm)<|(Qy)<|(Qm)<|(Qy)<|(QC hvt)<|(Qy)<|(QG)<|(Qaf)<|(QF)<|Qn<|(Qcf)<|Qk<|Qs<|Qs<|Qp<|(Qm)<|(QC hvt)<|(Ql)<|(Qaf)<|Qn<|(Qcf)<|Qk<|Qs<|Qp<|(Qm)<|(QC hvt) ?_
  refine e_sub_in (q := 16) rfl rfl rfl (by omega) (by omega) ?_
  refine (Qa)<|Qn<|Qs<|Qs<|(Qg)<|(Qm)<|(Qm) ?_
  refine e_sliceV (tx.length - 16) tx.length hvt (Uu 22) (Uz 5) rfl rfl rfl ⟨_, rfl⟩ rfl (by omega) (by omega) rfl ?_
  refine e_toArrV hv2 (Uu 263) rfl (by decide) (by rw [List.length_drop]; omega) rfl ?_
  refine e_loadVS hv2 seenG (Uu 263) rfl (Uz 263) rfl (by decide) (by simp; omega) rfl rfl ?_
  refine e_as (last_cells (by rw [List.length_drop]; omega)) ?_
  refine (Qd 0)<|(Qd 1)<|(Qm)<|(Qm)<|(Qm) ?_
  refine e_sliceV 0 (tx.length - 16) hvt (Uu 22) (Uz 5) rfl rfl rfl rfl ⟨_, rfl⟩ (by omega) (by omega) rfl ?_
  refine e_call rfl (Un 246) (dtagOf_fn k nn va _ ad (tx.take (tx.length - 16)) hva hv1 hk hn hab (fun x hx => htb x (List.mem_of_mem_take hx)) (by omega) (by simp; omega)) rfl rfl ?_
  refine e_call rfl (Un 251) (dsame_fn _ _) rfl rfl ?_
  refine e_as (congrArg Value.bool (decide_eq_false (fun e => ho ((opens_iff k nn h2 htb).1 e)))) ?_
  refine (Q0)<|Qn<|(Qct)<|Qs<|Qp<|(Qa)<|(Qa)<|Qn<|Qr ?_
  exact ⟨_, _, rfl, .tmp rfl, .tmp rfl⟩
set_option maxHeartbeats 4000000 in
theorem dopen_ok (k nn : Nat → Nat) (va vt : Value) (ad tx : List Nat) (hk : L8 32 k) (hn : L8 12 nn) (hva : Sh G va ad) (hvt : Sh G vt tx) (hab : (∀ b ∈ ad, b < 256)) (htb : (∀ b ∈ tx, b < 256)) (h : ad.length ≤ 200) (h2 : 16 ≤ tx.length) (h3 : tx.length ≤ 816) (ho : opensL k nn ad tx) : Fx Tryz.prog G [] 223 #[.agg (arr .u8 32 k), .agg (arr .u8 12 nn), va, vt] (fun v l1 nw => l1 = [] ∧ ∃ v', v = .tuple #[v', ii 0] ∧ OwnS 5 1 v' (openL k nn tx).length ((openL k nn tx).map by8) nw) := by
  have hv1 : Shows G 1 (slPart 1 vt 0 (tx.length - 16)) (tx.take (tx.length - 16)).length ((tx.take (tx.length - 16)).map by8) := hvt.cut (by omega) (by omega) (by simp)
  have hv2 : Shows G 1 (slPart 1 vt (tx.length - 16) tx.length) (tx.drop (tx.length - 16)).length ((tx.drop (tx.length - 16)).map by8) := hvt.cut (by omega) (by omega) (by rw [List.take_of_length_le (by simp)])
  have htl : (tx.take (tx.length - 16)).length = tx.length - 16 := by simp
  have hol := openL_len k nn tx
  refine QfM Tryz.func223 ?_
  refine Qs<|Qp<|(Qh 0) fun r1=>(Qh 1) fun r2=>(Qa)<|(Qa)<|Qn<|Qs<|Qs<|Qp<|(Qm)<|(QC hva)<|(QG)<|(Qaf)<|(Qm)<|(Qy)<|(Qm)<|(Qy)<|(QC hvt)<|(Qy)<|(QG)<|(Qaf)<|(QF)<|Qn<|(Qcf)<|Qk<|Qs<|Qs<|Qp<|(Qm)<|(QC hvt)<|(Ql)<|(Qaf)<|Qn<|(Qcf)<|Qk<|Qs<|Qp<|(Qm)<|(QC hvt) ?_
  refine e_sub_in (q := 16) rfl rfl rfl (by omega) (by omega) ?_
  refine (Qa)<|Qn<|Qs<|Qs<|(Qg)<|(Qm)<|(Qm) ?_
  refine e_sliceV (tx.length - 16) tx.length hvt (Uu 22) (Uz 5) rfl rfl rfl ⟨_, rfl⟩ rfl (by omega) (by omega) rfl ?_
  refine e_toArrV hv2 (Uu 263) rfl (by decide) (by rw [List.length_drop]; omega) rfl ?_
  refine e_loadVS hv2 seenG (Uu 263) rfl (Uz 263) rfl (by decide) (by simp; omega) rfl rfl ?_
  refine e_as (last_cells (by rw [List.length_drop]; omega)) ?_
  refine (Qd 0)<|(Qd 1)<|(Qm)<|(Qm)<|(Qm) ?_
  refine e_sliceV 0 (tx.length - 16) hvt (Uu 22) (Uz 5) rfl rfl rfl rfl ⟨_, rfl⟩ (by omega) (by omega) rfl ?_
  refine e_call rfl (Un 246) (dtagOf_fn k nn va _ ad (tx.take (tx.length - 16)) hva hv1 hk hn hab (fun x hx => htb x (List.mem_of_mem_take hx)) (by omega) (by simp; omega)) rfl rfl ?_
  refine e_call rfl (Un 251) (dsame_fn _ _) rfl rfl ?_
  refine e_as (congrArg Value.bool (decide_eq_true ((opens_iff k nn h2 htb).2 ho))) ?_
  refine (Q0)<|Qn<|(Qcf)<|Qk<|Qs<|(Qq ⟨[], 4, [], none⟩)<|(Qd 0)<|(Qd 1)<|(Qm)<|(Qm) ?_
  refine e_sliceV 0 (tx.length - 16) hvt (Uu 22) (Uz 5) rfl rfl rfl rfl ⟨_, rfl⟩ (by omega) (by omega) rfl ?_
  refine e_callN 2 (fun v => v) rfl rfl (Un 245) seenG (dstream_fn k nn _ (tx.take (tx.length - 16)) hk hn hv1 (by omega)) (by simp only [maxLen]; omega) (by rw [List.length_map, strl_len, Nat.mul_one, Nat.sub_zero]) rfl rfl fun v4_1 oz4_1 ho4_1 => ?_
  refine (Qa)<|(Qa)<|Qn<|Qr ?_
  exact ⟨_, _, _, _, 2, rfl, .tmp rfl, .tmp rfl, (own_fix ho4_1 (by rw [htl, hol]) rfl), rfl⟩
end Go.Proofs.YthljakcegoohlaaGreatDoor
namespace Go.Proofs.YthljakcegoohlaaGreatDoor
open Go Go.RowKit
variable {G : Mem}
set_option maxHeartbeats 2000000 in
theorem dbeg8_fn (f : Nat → Nat) : Fn Tryz.prog G 82 #[.agg (arr .u8 32 f)] (CV true f 0) := by
  refine Qf1 Tryz.func82 ?_
  refine Qs<|Qp<|(Qh 0) fun r1=>(QH 1) fun r2=>Qn<|Qs<|Qp<|(Qd 0) ?_
  refine e_buildS (cells 34 [pV (.bool true), pI .u8 32 f, pV (u 0)]) (Ub 33 rfl) (Uu 33 rfl) pls33 rfl (by kernel_rfl) rfl ?_
  refine e_storeA (i := 1) (Uz 33) rfl rfl (arrv_size _ _) (cells_one ⟨fun _ => rfl, fun _ => rfl, fun _ => rfl, trivial⟩) rfl cells_sz (.inl rfl) ?_
  refine Qn<|Qr ?_
  exact ⟨_, rfl, .cell (i := 1) rfl rfl (Uu 33) rfl (Uz 33) (arrv_size _ _)⟩
set_option maxHeartbeats 2000000 in
theorem dchk8_fn (has : Bool) (k : Nat → Nat) (n : Nat) : Fn Tryz.prog G 242 #[CV has k n] (ii (if okC has k n = true then 0 else 9)) := by
  refine Qf1 Tryz.func242 ?_
  refine Qs<|Qp<|(Qh 0) fun r1=>(Qa)<|Qn<|Qs<|Qs ?_
  rcases ccases has k n with ⟨hk0, hko⟩ | ⟨hk0, hk1, hko⟩ | ⟨hk0, hk1, hk2, hko⟩ | ⟨hk0, hk1, hk2, hko⟩
  · skip
    refine Qp<|(Qf 0)<|(QV 0 0)<|(Q0) ?_
    refine e_as (congrArg (fun z => Value.bool (!z)) hk0) ?_
    refine (Qm)<|(Qo)<|(Qo)<|(Qo)<|(QF)<|Qn ?_
    refine e_cond rfl ?_ ?_
    · intro hc0
      exact absurd hc0 (by decide)
    · intro hc0
      refine Qk<|Qs<|Qp<|(Qa)<|Qn<|Qr ?_
      rw [hko]
      exact ⟨_, rfl, .tmp rfl⟩
  · skip
    refine Qp<|(Qf 0)<|(QV 0 0)<|(Q0) ?_
    refine e_as (congrArg (fun z => Value.bool (!z)) hk0) ?_
    refine (Qm)<|(Qy)<|(QD 0)<|(Qy) ?_
    refine e_buildS (cells 34 [pV (.bool false), pI .u8 32 (fun _ => 0), pV (.int .u64 0)]) (Ub 33 rfl) (Uu 33 rfl) pls33 rfl (by kernel_rfl) rfl ?_
    refine (Qy) ?_
    refine e_nev eqv33 eqg33 rfl rfl rfl ?_
    refine e_as (congrArg Value.bool (((congrArg (fun z => !([(z == false), allEq 32 k (fun _ => 0), ((n : Int) == 0)].all id)) hk0).trans (okC_ne k n)).trans (congrArg (fun z => !z) (hk0 ▸ hko)))) ?_
    refine (QT)<|Qn ?_
    refine e_cond rfl ?_ ?_
    · intro hc0
      refine Qs<|Qp<|(Qa)<|Qn<|Qr ?_
      rw [hko]
      exact ⟨_, rfl, .tmp rfl⟩
    · intro hc0
      exact absurd hc0 (by decide)
  · skip
    refine Qp<|(Qf 0)<|(QV 0 0)<|(Q0) ?_
    refine e_as (congrArg (fun z => Value.bool (!z)) hk0) ?_
    refine (Qm)<|(Qy)<|(QD 0)<|(Qy) ?_
    refine e_buildS (cells 34 [pV (.bool false), pI .u8 32 (fun _ => 0), pV (.int .u64 0)]) (Ub 33 rfl) (Uu 33 rfl) pls33 rfl (by kernel_rfl) rfl ?_
    refine (Qy) ?_
    refine e_nev eqv33 eqg33 rfl rfl rfl ?_
    refine e_as (congrArg Value.bool (((congrArg (fun z => !([(z == false), allEq 32 k (fun _ => 0), ((n : Int) == 0)].all id)) hk0).trans (okC_ne k n)).trans (congrArg (fun z => !z) (hk0 ▸ hko)))) ?_
    refine (QT)<|Qn ?_
    refine e_cond rfl ?_ ?_
    · intro hc0
      refine Qs<|Qp<|(Qa)<|Qn<|Qr ?_
      rw [hko]
      exact ⟨_, rfl, .tmp rfl⟩
    · intro hc0
      exact absurd hc0 (by decide)
  · skip
    refine Qp<|(Qf 0)<|(QV 0 0)<|(Q0) ?_
    refine e_as (congrArg (fun z => Value.bool (!z)) hk0) ?_
    refine (Qm)<|(Qy)<|(QD 0)<|(Qy) ?_
    refine e_buildS (cells 34 [pV (.bool false), pI .u8 32 (fun _ => 0), pV (.int .u64 0)]) (Ub 33 rfl) (Uu 33 rfl) pls33 rfl (by kernel_rfl) rfl ?_
    refine (Qy) ?_
    refine e_nev eqv33 eqg33 rfl rfl rfl ?_
    refine e_as (congrArg Value.bool (((congrArg (fun z => !([(z == false), allEq 32 k (fun _ => 0), ((n : Int) == 0)].all id)) hk0).trans (okC_ne k n)).trans (congrArg (fun z => !z) (hk0 ▸ hko)))) ?_
    refine (QT)<|Qn ?_
    refine e_cond rfl ?_ ?_
    · intro hc0
      exact absurd hc0 (by decide)
    · intro hc0
      refine Qk<|Qs<|Qp<|(Qa)<|Qn<|Qr ?_
      rw [hko]
      exact ⟨_, rfl, .tmp rfl⟩
set_option maxHeartbeats 2000000 in
theorem dnonce_fn (n : Nat) : Fn Tryz.prog G 244 #[u n] (.agg (arr .u8 12 (nonU n))) := by
  refine Qf1 Tryz.func244 ?_
  refine Qs<|Qp<|(QH 0) fun r1=>Qn<|Qs<|Qp<|(QH 1) fun r2=>Qn<|Qs<|Qs<|Qp<|(Qm)<|Qn<|Qb ?_
  refine QzK [(0, _), (2, _), (3, _)] [(0, _)] (fun kk E m => ∃ (i : Nat) (s : Nat → Nat), kk = 8 - i ∧ E = [(5, ii i)] ∧ m = [(1, some ⟨r2, arr .u8 12 s, 179⟩)] ∧ (i ≤ 8) ∧ (∀ t, t < 12 → s t = if t < 4 + i then nonU n t else 0)) ⟨0, fun _ => 0, rfl, rfl, rfl, by omega, (non_first n)⟩ ⟨rfl, rfl, rfl, rfl, trivial⟩ ⟨rfl, rfl, trivial⟩ ?_
  rintro kk E m ⟨i, s, rfl, rfl, rfl, hf0_0, hf0_1⟩
  simp only [catE, catL]
  refine Qs<|Qp<|(Ql)<|Qn<|Qs ?_
  refine e_cond rfl ?_ ?_
  · intro hc0
    have hc0 : i < 8 := by have := of_decide_eq_true hc0; omega
    refine Qk<|Qs<|Qb<|Qs<|Qp<|(Qm)<|(Qa)<|Qn<|Qp<|(Qm) ?_
    refine e_add_i (p := 4) rfl rfl rfl (by omega) ?_
    refine (Qm)<|(Qm)<|(Q7 8) ?_
    refine e_shr_u rfl rfl rfl (by omega) ?_
    refine e_conv_u8 (Uu 31) (Uu 5) rfl rfl rfl ?_
    refine (Qi)<|(Qu 1)<|Qn<|Qp<|(Q2 1)<|(Qm)<|Qn ?_
    refine QzL ⟨i + 1, upd s (4 + i) _, rfl, rfl, rfl, by omega, (non_next hf0_1 rfl)⟩ ⟨rfl, rfl, rfl, rfl, trivial⟩ ⟨rfl, rfl, trivial⟩ ?_
    omega
  · intro hc0
    have hc0 := of_decide_eq_false hc0
    have hz0 : i = 8 := by omega
    subst hz0
    refine Qe<|Qs<|Qp<|(Qd 1) ?_
    refine e_as (congrArg Value.agg (arr_congr (non_last rfl hf0_1))) ?_
    refine (Qt 0)<|Qn<|Qr ?_
    exact ⟨_, rfl, .cell (i := 0) rfl rfl (Uu 179) rfl (Uz 179) (arr_size _ _ _)⟩
set_option maxHeartbeats 2000000 in
theorem dplain_big (k : Nat → Nat) (n : Nat) (vt : Value) (tx : List Nat) (hvt : Sh G vt tx) (hl : 800 < tx.length) : Fn Tryz.prog G 243 #[CV false k n, vt] (.tuple #[CZ, nilS, ii 1]) := by
  refine Qf3 Tryz.func243 ?_
  refine Qs<|Qp<|(Qh 0) fun r1=>(QH 1) fun r2=>(Qa)<|(Qa)<|Qn<|Qs<|Qs<|Qp<|(Qm)<|(QC hvt)<|(QG)<|(Qat)<|Qn<|(Qct)<|Qs<|Qp ?_
  refine e_buildS (cells 34 [pV (.bool false), pI .u8 32 (fun _ => 0), pV (.int .u64 0)]) (Ub 33 rfl) (Uu 33 rfl) pls33 rfl (by kernel_rfl) rfl ?_
  refine e_storeA (i := 1) (Uz 33) rfl rfl (arrv_size _ _) (cells_one ⟨fun _ => rfl, fun _ => rfl, fun _ => rfl, trivial⟩) rfl cells_sz (.inl rfl) ?_
  refine (Qa)<|(Qa)<|Qn<|Qr ?_
  exact ⟨_, _, _, rfl, .cell (i := 1) rfl rfl (Uu 33) rfl (Uz 33) (arrv_size _ _), .tmp rfl, .tmp rfl⟩
set_option maxHeartbeats 2000000 in
theorem dplain_ok (k : Nat → Nat) (n : Nat) (vt : Value) (tx : List Nat) (hvt : Sh G vt tx) (hl : tx.length ≤ 800) : Fx Tryz.prog G [] 243 #[CV false k n, vt] (fun v l1 nw => l1 = [] ∧ ∃ v', v = .tuple #[CV false k n, v', ii 0] ∧ OwnS 5 1 v' tx.length (tx.map by8) nw) := by
  refine QfO Tryz.func243 ?_
  refine Qs<|Qp<|(Qh 0) fun r1=>(QH 1) fun r2=>(Qa)<|(Qa)<|Qn<|Qs<|Qs<|Qp<|(Qm)<|(QC hvt)<|(QG)<|(Qaf)<|Qn<|(Qcf)<|Qk<|Qs<|(Qq ⟨[r2], 1, [], (some [r1])⟩) ?_
  refine e_loadA (i := 0) (Uu 33) rfl (Uz 33) rfl rfl (arrv_size _ _) rfl ⟨[1], ⟨rfl, rfl, trivial⟩, _, rfl, by simp⟩ ?_
  refine e_buildSl0 2 (Uu 22 rfl) (Uz 5 rfl) rfl fun r3 => ?_
  refine (Qm) ?_
  refine e_appendL 2 own_none hvt rfl (fun q hq => .inl hq) ⟨[0], rfl, rfl, trivial⟩ (Uu 22) (Uz 5) (Uy 5) (Ub 5) (by rfl) rfl rfl by8_one (by simp only [maxLen]; omega) (by omega) rfl fun v2_1 oz2_1 ho2_1 => ?_
  refine e_storeA (i := 1) (Uz 33) rfl rfl (arrv_size _ _) (cells_one ⟨fun _ => rfl, fun _ => rfl, fun _ => rfl, trivial⟩) rfl cells_sz (.inr (by simp)) ?_
  refine (Qa)<|(Qa)<|Qn<|Qr ?_
  exact ⟨_, _, _, _, _, 2, rfl, .cell (i := 1) rfl rfl (Uu 33) rfl (Uz 33) (arrv_size _ _), .tmp rfl, .tmp rfl, (own_fix ho2_1 (by omega) rfl), rfl⟩
end Go.Proofs.YthljakcegoohlaaGreatDoor
namespace Go.Proofs.YthljakcegoohlaaGreatDoor
open Go Go.RowKit
variable {G : Mem}
set_option maxHeartbeats 400000 in
theorem rotn16_fn (x : Nat) : Fn Tryz.prog G 261 #[uw x, .int .i64 (-16)] (uw (rotl x 16)) := by
  refine Qf1 Tryz.func261 ?_
  refine Qs<|Qp<|(Qa)<|Qn<|Qs<|Qp<|(Qm) ?_
  refine e_conv_uz (Uu 3) (Uu 202) rfl rfl rfl ?_
  refine e_as (show _ = u 18446744073709551600 from rfl) ?_
  refine (Q9 31) ?_
  refine e_as (show _ = u 16 from rfl) ?_
  refine (Qa)<|Qn<|Qs<|Qp<|(Qm)<|(Qm) ?_
  refine e_shl_w rfl rfl rfl (by omega) ?_
  refine (Qm)<|(Qm) ?_
  refine e_sub_u (p := 32) rfl rfl rfl (by omega) ?_
  refine e_as (show _ = u 16 from rfl) ?_
  refine e_shr_w rfl rfl rfl (by omega) ?_
  refine e_or_w rfl rfl rfl  ?_
  refine (Qa)<|Qn<|Qr ?_
  exact ⟨_, rfl, .tmp rfl⟩
set_option maxHeartbeats 400000 in
theorem rotn12_fn (x : Nat) : Fn Tryz.prog G 261 #[uw x, .int .i64 (-12)] (uw (rotl x 20)) := by
  refine Qf1 Tryz.func261 ?_
  refine Qs<|Qp<|(Qa)<|Qn<|Qs<|Qp<|(Qm) ?_
  refine e_conv_uz (Uu 3) (Uu 202) rfl rfl rfl ?_
  refine e_as (show _ = u 18446744073709551604 from rfl) ?_
  refine (Q9 31) ?_
  refine e_as (show _ = u 20 from rfl) ?_
  refine (Qa)<|Qn<|Qs<|Qp<|(Qm)<|(Qm) ?_
  refine e_shl_w rfl rfl rfl (by omega) ?_
  refine (Qm)<|(Qm) ?_
  refine e_sub_u (p := 32) rfl rfl rfl (by omega) ?_
  refine e_as (show _ = u 12 from rfl) ?_
  refine e_shr_w rfl rfl rfl (by omega) ?_
  refine e_or_w rfl rfl rfl  ?_
  refine (Qa)<|Qn<|Qr ?_
  exact ⟨_, rfl, .tmp rfl⟩
set_option maxHeartbeats 400000 in
theorem rotn8_fn (x : Nat) : Fn Tryz.prog G 261 #[uw x, .int .i64 (-8)] (uw (rotl x 24)) := by
  refine Qf1 Tryz.func261 ?_
  refine Qs<|Qp<|(Qa)<|Qn<|Qs<|Qp<|(Qm) ?_
  refine e_conv_uz (Uu 3) (Uu 202) rfl rfl rfl ?_
  refine e_as (show _ = u 18446744073709551608 from rfl) ?_
  refine (Q9 31) ?_
  refine e_as (show _ = u 24 from rfl) ?_
  refine (Qa)<|Qn<|Qs<|Qp<|(Qm)<|(Qm) ?_
  refine e_shl_w rfl rfl rfl (by omega) ?_
  refine (Qm)<|(Qm) ?_
  refine e_sub_u (p := 32) rfl rfl rfl (by omega) ?_
  refine e_as (show _ = u 8 from rfl) ?_
  refine e_shr_w rfl rfl rfl (by omega) ?_
  refine e_or_w rfl rfl rfl  ?_
  refine (Qa)<|Qn<|Qr ?_
  exact ⟨_, rfl, .tmp rfl⟩
set_option maxHeartbeats 400000 in
theorem rotn7_fn (x : Nat) : Fn Tryz.prog G 261 #[uw x, .int .i64 (-7)] (uw (rotl x 25)) := by
  refine Qf1 Tryz.func261 ?_
  refine Qs<|Qp<|(Qa)<|Qn<|Qs<|Qp<|(Qm) ?_
  refine e_conv_uz (Uu 3) (Uu 202) rfl rfl rfl ?_
  refine e_as (show _ = u 18446744073709551609 from rfl) ?_
  refine (Q9 31) ?_
  refine e_as (show _ = u 25 from rfl) ?_
  refine (Qa)<|Qn<|Qs<|Qp<|(Qm)<|(Qm) ?_
  refine e_shl_w rfl rfl rfl (by omega) ?_
  refine (Qm)<|(Qm) ?_
  refine e_sub_u (p := 32) rfl rfl rfl (by omega) ?_
  refine e_as (show _ = u 7 from rfl) ?_
  refine e_shr_w rfl rfl rfl (by omega) ?_
  refine e_or_w rfl rfl rfl  ?_
  refine (Qa)<|Qn<|Qr ?_
  exact ⟨_, rfl, .tmp rfl⟩
set_option maxHeartbeats 2000000 in
theorem mix_st (f : Nat → Nat) (r a b c d x y : Nat) (ha : a < 16) (hb : b < 16) (hc : c < 16) (hd : d < 16) : Fx Tryz.prog G [⟨r, arr .u32 16 f, 273⟩] 260 #[ii a, ii b, ii c, ii d, uw x, uw y, ptr r] (fun v l1 nw => v = .tuple #[] ∧ l1 = [⟨r, arr .u32 16 (mst f a b c d x y), 273⟩] ∧ nw = []) := by
  refine QfW Tryz.func260 ?_
  refine Qs<|(Qg)<|(Qm)<|(Qi)<|(Q1 0)<|(Qm)<|(Qi)<|(Q1 0)<|(Qm) ?_
  refine e_add_w rfl rfl rfl  ?_
  refine e_add_w rfl rfl rfl  ?_
  refine (Qi)<|(Qu 0)<|Qn<|Qs<|(Qg)<|(Qm)<|(Qm)<|(Qi)<|(Q1 0)<|(Qm)<|(Qi)<|(Q1 0) ?_
  refine e_xor_w rfl rfl rfl  ?_
  refine e_call rfl (Un 261) (rotn16_fn _) rfl rfl ?_
  refine (Qi)<|(Qu 0)<|Qn<|Qs<|(Qg)<|(Qm)<|(Qi)<|(Q1 0)<|(Qm)<|(Qi)<|(Q1 0) ?_
  refine e_add_w rfl rfl rfl  ?_
  refine (Qi)<|(Qu 0)<|Qn<|Qs<|(Qg)<|(Qm)<|(Qm)<|(Qi)<|(Q1 0)<|(Qm)<|(Qi)<|(Q1 0) ?_
  refine e_xor_w rfl rfl rfl  ?_
  refine e_call rfl (Un 261) (rotn12_fn _) rfl rfl ?_
  refine (Qi)<|(Qu 0)<|Qn<|Qs<|(Qg)<|(Qm)<|(Qi)<|(Q1 0)<|(Qm)<|(Qi)<|(Q1 0)<|(Qm) ?_
  refine e_add_w rfl rfl rfl  ?_
  refine e_add_w rfl rfl rfl  ?_
  refine (Qi)<|(Qu 0)<|Qn<|Qs<|(Qg)<|(Qm)<|(Qm)<|(Qi)<|(Q1 0)<|(Qm)<|(Qi)<|(Q1 0) ?_
  refine e_xor_w rfl rfl rfl  ?_
  refine e_call rfl (Un 261) (rotn8_fn _) rfl rfl ?_
  refine (Qi)<|(Qu 0)<|Qn<|Qs<|(Qg)<|(Qm)<|(Qi)<|(Q1 0)<|(Qm)<|(Qi)<|(Q1 0) ?_
  refine e_add_w rfl rfl rfl  ?_
  refine (Qi)<|(Qu 0)<|Qn<|(Qg)<|(Qm)<|(Qm)<|(Qi)<|(Q1 0)<|(Qm)<|(Qi)<|(Q1 0) ?_
  refine e_xor_w rfl rfl rfl  ?_
  refine e_call rfl (Un 261) (rotn7_fn _) rfl rfl ?_
  refine (Qi)<|(Qu 0)<|Qn ?_
  exact ⟨rfl, 0, rfl⟩
end Go.Proofs.YthljakcegoohlaaGreatDoor
namespace Go.Proofs.YthljakcegoohlaaGreatDoor
open Go Go.RowKit
theorem mix_fn {G : Mem} (f : Nat → Nat) (r a b c d x y : Nat) (ha : a < 16) (hb : b < 16) (hc : c < 16) (hd : d < 16) (ab : a ≠ b) (ac : a ≠ c) (ad : a ≠ d) (bc : b ≠ c) (bd : b ≠ d) (cd : c ≠ d) : Fx Tryz.prog G [⟨r, arr .u32 16 f, 273⟩] 260 #[ii a, ii b, ii c, ii d, uw x, uw y, ptr r] (fun v l1 nw => v = .tuple #[] ∧ l1 = [⟨r, arr .u32 16 (mat f a b c d x y), 273⟩] ∧ nw = []) := by
  rw [← mst_mat f x y ab ac ad bc bd cd]
  exact mix_st f r a b c d x y ha hb hc hd
abbrev DOR : Blk := ⟨6, arr .i64 160 sgf, 313⟩
variable {G : Mem}
set_option maxHeartbeats 4000000 in
theorem rounds6_fn (f g : Nat → Nat) : Fn Tryz.prog (DOR :: G) 234 #[.agg (arr .u32 16 f), .agg (arr .u32 16 g)] (.agg (arr .u32 16 (rndM g f 10))) := by
  refine Qf1 Tryz.func234 ?_
  refine Qs<|Qp<|(Qh 0) fun r1=>(Qh 1) fun r2=>(QH 2) fun r3=>Qn<|Qs<|Qp<|(QY)<|(Qa)<|Qn<|Qs<|Qs<|Qp<|(Qm)<|Qn<|Qb ?_
  refine QzK [(2, _), (3, _), (4, _), (5, _)] [(1, _), (2, _)] (fun kk E m => ∃ (r : Nat), kk = 10 - r ∧ E = [(10, ii r)] ∧ m = [(0, some ⟨r1, arr .u32 16 (rndM g f r), 273⟩)] ∧ (r ≤ 10)) ⟨0, rfl, rfl, rfl, by omega⟩ ⟨rfl, rfl, rfl, rfl, rfl, trivial⟩ ⟨(blk_arr (rndM_zero g f)), rfl, rfl, trivial⟩ ?_
  rintro kk E m ⟨r, rfl, rfl, rfl, hf0_0⟩
  simp only [catE, catL]
  refine Qs<|Qp<|(Ql)<|Qn<|Qs ?_
  refine e_cond rfl ?_ ?_
  · intro hc0
    have hc0 : r < 10 := by have := of_decide_eq_true hc0; omega
    refine Qk<|Qs<|Qb<|Qs<|Qp<|(Qm)<|(Qa)<|Qn<|Qs<|Qs<|Qp<|(Qm)<|Qn<|Qb ?_
    refine QzK [(2, _), (3, _), (4, _), (5, _), (6, _), (10, _)] [(1, _), (2, _)] (fun kk E m => ∃ (i : Nat), kk = 4 - i ∧ E = [(13, ii i)] ∧ m = [(0, some ⟨r1, arr .u32 16 (colM g r (rndM g f r) i), 273⟩)] ∧ (i ≤ 4)) ⟨0, rfl, rfl, rfl, by omega⟩ ⟨rfl, rfl, rfl, rfl, rfl, rfl, rfl, trivial⟩ ⟨(blk_arr (colM_zero g r (rndM g f r))), rfl, rfl, trivial⟩ ?_
    rintro kk E m ⟨i, rfl, rfl, rfl, hf1_0⟩
    simp only [catE, catL]
    refine Qs<|Qp<|(Ql)<|Qn<|Qs ?_
    refine e_cond rfl ?_ ?_
    · intro hc1
      have hc1 : i < 4 := by have := of_decide_eq_true hc1; omega
      refine Qk<|Qs<|Qb<|Qs<|Qp<|(Qm)<|(Qa)<|Qn<|(Qq ⟨[], 5, [], none⟩)<|(Qm)<|(Qm)<|(Qm) ?_
      refine e_add_i (p := 4) rfl rfl rfl (by omega) ?_
      refine (Qm) ?_
      refine e_add_i (p := 8) rfl rfl rfl (by omega) ?_
      refine (Qm) ?_
      refine e_add_i (p := 12) rfl rfl rfl (by omega) ?_
      refine (Qm)<|(Qm)<|(Q7 2)<|(QB (16 * r))<|(QB (16 * r + 2 * i)) ?_
      refine e_load1g (i := 0) (Uu 3) rfl rfl rfl (arr_get (by omega)) rfl ?_
      refine e_index0 (Uu 273) (Uz 118) rfl rfl (sig_lt r (2 * i)) rfl ?_
      refine e_load1 (i := 1) (Uu 118) rfl rfl rfl (arr_get (sig_lt r (2 * i))) rfl ⟨[], trivial⟩ ?_
      refine (Qm)<|(Qm)<|(Q7 2)<|(Q2 1)<|(QB (16 * r))<|(QB (16 * r + (2 * i + 1))) ?_
      refine e_load1g (i := 0) (Uu 3) rfl rfl rfl (arr_get (by omega)) rfl ?_
      refine e_index0 (Uu 273) (Uz 118) rfl rfl (sig_lt r (2 * i + 1)) rfl ?_
      refine e_load1 (i := 1) (Uu 118) rfl rfl rfl (arr_get (sig_lt r (2 * i + 1))) rfl ⟨[], trivial⟩ ?_
      refine e_callW 0 rfl rfl (Un 260) rfl (by simp) (mix_fn (G := []) (colM g r (rndM g f r) i) r1 i (4 + i) (8 + i) (12 + i) (g (sig r (2 * i))) (g (sig r (2 * i + 1))) (by omega) (by omega) (by omega) (by omega) (by omega) (by omega) (by omega) (by omega) (by omega) (by omega)) rfl rfl ?_
      refine Qn<|Qp<|(Q2 1)<|(Qm)<|Qn ?_
      refine QzL ⟨i + 1, rfl, rfl, rfl, by omega⟩ ⟨rfl, rfl, rfl, rfl, rfl, rfl, rfl, trivial⟩ ⟨(blk_arr (colM_succ g r (rndM g f r) i)), rfl, rfl, trivial⟩ ?_
      omega
    · intro hc1
      have hc1 := of_decide_eq_false hc1
      have hz1 : i = 4 := by omega
      refine Qe<|Qs<|Qp<|(Qm)<|Qn<|Qb ?_
      refine QzK [(2, _), (3, _), (4, _), (5, _), (6, _), (10, _), (13, _)] [(1, _), (2, _)] (fun kk E m => ∃ (j : Nat), kk = 4 - j ∧ E = [(43, ii j)] ∧ m = [(0, some ⟨r1, arr .u32 16 (diaM g r (colM g r (rndM g f r) 4) j), 273⟩)] ∧ (j ≤ 4)) ⟨0, rfl, rfl, rfl, by omega⟩ ⟨rfl, rfl, rfl, rfl, rfl, rfl, rfl, rfl, trivial⟩ ⟨(blk_arr ((congrArg (colM g r (rndM g f r)) hz1).trans (diaM_zero g r (colM g r (rndM g f r) 4)))), rfl, rfl, trivial⟩ ?_
      rintro kk E m ⟨j, rfl, rfl, rfl, hf2_0⟩
      simp only [catE, catL]
      refine Qs<|Qp<|(Ql)<|Qn<|Qs ?_
      refine e_cond rfl ?_ ?_
      · intro hc2
        have hc2 : j < 4 := by have := of_decide_eq_true hc2; omega
        refine Qk<|Qs<|Qb<|Qs<|Qp<|(Qm)<|(Qa)<|Qn<|(Qq ⟨[], 5, [], none⟩)<|(Qm)<|(Qm)<|(Qm)<|(Q2 1)<|(Q4 4) ?_
        refine e_add_i (p := 4) rfl rfl rfl (by omega) ?_
        refine (Qm)<|(Q2 2)<|(Q4 4) ?_
        refine e_add_i (p := 8) rfl rfl rfl (by omega) ?_
        refine (Qm)<|(Q2 3)<|(Q4 4) ?_
        refine e_add_i (p := 12) rfl rfl rfl (by omega) ?_
        refine (Qm)<|(Qm)<|(Q7 2) ?_
        refine e_add_i (p := 8) rfl rfl rfl (by omega) ?_
        refine (QB (16 * r))<|(QB (16 * r + (8 + 2 * j))) ?_
        refine e_load1g (i := 0) (Uu 3) rfl rfl rfl (arr_get (by omega)) rfl ?_
        refine e_index0 (Uu 273) (Uz 118) rfl rfl (sig_lt r (8 + 2 * j)) rfl ?_
        refine e_load1 (i := 1) (Uu 118) rfl rfl rfl (arr_get (sig_lt r (8 + 2 * j))) rfl ⟨[], trivial⟩ ?_
        refine (Qm)<|(Qm)<|(Q7 2) ?_
        refine e_add_i (p := 9) rfl rfl rfl (by omega) ?_
        refine (QB (16 * r))<|(QB (16 * r + (9 + 2 * j))) ?_
        refine e_load1g (i := 0) (Uu 3) rfl rfl rfl (arr_get (by omega)) rfl ?_
        refine e_index0 (Uu 273) (Uz 118) rfl rfl (sig_lt r (9 + 2 * j)) rfl ?_
        refine e_load1 (i := 1) (Uu 118) rfl rfl rfl (arr_get (sig_lt r (9 + 2 * j))) rfl ⟨[], trivial⟩ ?_
        refine e_callW 0 rfl rfl (Un 260) rfl (by simp) (mix_fn (G := []) (diaM g r (colM g r (rndM g f r) 4) j) r1 j (4 + (j + 1) % 4) (8 + (j + 2) % 4) (12 + (j + 3) % 4) (g (sig r (8 + 2 * j))) (g (sig r (9 + 2 * j))) (by omega) (by omega) (by omega) (by omega) (by omega) (by omega) (by omega) (by omega) (by omega) (by omega)) rfl rfl ?_
        refine Qn<|Qp<|(Q2 1)<|(Qm)<|Qn ?_
        refine QzL ⟨j + 1, rfl, rfl, rfl, by omega⟩ ⟨rfl, rfl, rfl, rfl, rfl, rfl, rfl, rfl, trivial⟩ ⟨(blk_arr (diaM_succ g r (colM g r (rndM g f r) 4) j)), rfl, rfl, trivial⟩ ?_
        omega
      · intro hc2
        have hc2 := of_decide_eq_false hc2
        have hz2 : j = 4 := by omega
        refine Qe<|Qp<|(Q2 1)<|(Qm)<|Qn ?_
        refine QzL ⟨r + 1, rfl, rfl, rfl, by omega⟩ ⟨rfl, rfl, rfl, rfl, rfl, trivial⟩ ⟨(blk_arr ((congrArg (diaM g r (colM g r (rndM g f r) 4)) hz2).trans (rndM_succ g f r))), rfl, rfl, trivial⟩ ?_
        omega
  · intro hc0
    have hc0 := of_decide_eq_false hc0
    have hz0 : r = 10 := by omega
    refine Qe<|Qs<|Qp<|(Qd 0)<|(Qt 2)<|Qn<|Qr ?_
    rw [show rndM g f 10 = rndM g f r by rw [hz0]]
    exact ⟨_, rfl, .cell (i := 2) rfl rfl (Uu 273) rfl (Uz 273) (arr_size _ _ _)⟩
set_option maxHeartbeats 2000000 in
theorem words_fn (d : Nat → Nat) (hd : L8 64 d) : Fn Tryz.prog G 236 #[.agg (arr .u8 64 d)] (.agg (arr .u32 16 (wrd ((List.range 64).map d)))) := by
  refine Qf1 Tryz.func236 ?_
  refine Qs<|Qp<|(Qh 0) fun r1=>(QH 1) fun r2=>Qn<|Qs<|Qp<|(QH 2) fun r3=>Qn<|Qs<|Qs<|Qp<|(Qd 0)<|(Qm)<|Qn<|Qb ?_
  refine QzK [(2, _), (3, _), (6, _)] [(0, _), (1, _)] (fun kk E m => ∃ (i : Nat) (s : Nat → Nat), kk = 64 - i ∧ E = [(7, ii i)] ∧ m = [(2, some ⟨r3, arr .u32 16 s, 273⟩)] ∧ (i ≤ 64) ∧ (∀ t, t < 16 → s t = pw d i t)) ⟨0, fun _ => 0, rfl, rfl, rfl, by omega, fun t _ => (pw_none d t).symm⟩ ⟨rfl, rfl, rfl, rfl, trivial⟩ ⟨rfl, rfl, rfl, trivial⟩ ?_
  rintro kk E m ⟨i, s, rfl, rfl, rfl, hf0_0, hf0_1⟩
  simp only [catE, catL]
  refine Qs<|Qp<|(Ql)<|Qn<|Qs ?_
  refine e_cond rfl ?_ ?_
  · intro hc0
    have hc0 : i < 64 := by have := of_decide_eq_true hc0; omega
    refine Qk<|Qs<|Qb<|Qs<|Qp<|(Qm)<|(QX)<|(Qa)<|(Qa)<|Qn<|(Qg)<|(Qm)<|(Q5 4)<|(Qi)<|(Q1 2)<|(Qm) ?_
    refine e_conv_w (Uu 5) (Uu 118) rfl rfl rfl ?_
    refine e_as (congrArg uw (Nat.mod_eq_of_lt (Nat.lt_trans (hd i (by omega)) (by decide)))) ?_
    refine (Qm)<|(Q4 4)<|(Q6 8) ?_
    refine e_shl_w rfl rfl rfl (by omega) ?_
    refine e_or_w rfl rfl rfl  ?_
    refine (Qi)<|(Qu 2)<|Qn<|Qp<|(Q2 1)<|(Qm)<|Qn ?_
    refine QzL ⟨i + 1, upd s (i / 4) _, rfl, rfl, rfl, by omega, words_step hd (by omega) hf0_1⟩ ⟨rfl, rfl, rfl, rfl, trivial⟩ ⟨rfl, rfl, rfl, trivial⟩ ?_
    omega
  · intro hc0
    have hc0 := of_decide_eq_false hc0
    have hz0 : i = 64 := by omega
    subst hz0
    refine Qe<|Qs<|Qp<|(Qd 2)<|(Qt 1)<|Qn<|Qr ?_
    rw [← arr_congr (k := .u32) (n := 16) (words_all d), ← arr_congr (k := .u32) (n := 16) hf0_1]
    exact ⟨_, rfl, .cell (i := 1) rfl rfl (Uu 273) rfl (Uz 273) (arr_size _ _ _)⟩
set_option maxHeartbeats 400000 in
theorem div_fn : Fn Tryz.prog G 194 #[] (.agg (arr .u32 8 ivf)) := by
  refine Qf1 Tryz.func194 ?_
  refine Qs<|Qp<|(QH 0) fun r1=>Qn<|Qs<|Qp ?_
  refine e_build (arr .u32 8 ivf) (Ub 146 rfl) (Uu 146 rfl) (Uz 118 rfl) rfl (by kernel_rfl) rfl ?_
  refine (Qt 0)<|Qn<|Qr ?_
  exact ⟨_, rfl, .cell (i := 0) rfl rfl (Uu 146) rfl (Uz 146) (arr_size _ _ _)⟩
end Go.Proofs.YthljakcegoohlaaGreatDoor
namespace Go.Proofs.YthljakcegoohlaaGreatDoor
open Go Go.RowKit
variable {G : Mem}
set_option maxHeartbeats 2000000 in
theorem spread_true (h d : Nat → Nat) (n ln : Nat) (hl : ln < 4294967296) : Fn Tryz.prog G 235 #[.agg (cells 74 [pI .u32 8 h, pI .u8 64 d, pV (.int .i64 (n : Int)), pV (.int .i64 (ln : Int))]), .bool true] (.agg (arr .u32 16 (w0 h ln true))) := by
  refine Qf1 Tryz.func235 ?_
  refine Qs<|Qp<|(Qh 0) fun r1=>(QH 1) fun r2=>Qn<|Qs<|Qp<|(QH 2) fun r3=>Qn<|Qs<|Qs<|Qp ?_
  refine e_call rfl (Un 194) div_fn rfl rfl ?_
  refine (Qm)<|Qn<|Qb ?_
  refine QzK [(1, _), (2, _), (4, _), (5, _), (8, _)] [(0, _), (1, _)] (fun kk E m => ∃ (i : Nat) (s : Nat → Nat), kk = 8 - i ∧ E = [(9, ii i)] ∧ m = [(2, some ⟨r3, arr .u32 16 s, 273⟩)] ∧ (i ≤ 8) ∧ (∀ t, t < 16 → s t = if t % 8 < i then w00 h t else 0)) ⟨0, fun _ => 0, rfl, rfl, rfl, by omega, fun t _ => by rw [if_neg (by omega)]⟩ ⟨rfl, rfl, rfl, rfl, rfl, rfl, trivial⟩ ⟨rfl, rfl, rfl, trivial⟩ ?_
  rintro kk E m ⟨i, s, rfl, rfl, rfl, hf0_0, hf0_1⟩
  simp only [catE, catL]
  refine Qs<|Qp<|(Ql)<|Qn<|Qs ?_
  refine e_cond rfl ?_ ?_
  · intro hc0
    have hc0 : i < 8 := by have := of_decide_eq_true hc0; omega
    refine Qk<|Qs<|Qb<|Qs<|Qp<|(Qm)<|(QX)<|(Qa)<|(Qa)<|Qn<|Qp<|(Qm)<|(Qm) ?_
    refine e_add_i (p := 8) rfl rfl rfl (by omega) ?_
    refine (Qm)<|(Qf 0)<|(Qi) ?_
    refine e_ldI (i := 0) 0 (i) (Uu 118) rfl rfl rfl rfl (by first | rfl | omega) (by omega) (by omega) rfl ⟨[], trivial⟩ ?_
    refine (Qm)<|(Qi)<|(Qu 2)<|(Qi)<|(Qu 2)<|Qn<|Qp<|(Q2 1)<|(Qm)<|Qn ?_
    refine QzL ⟨i + 1, upd (upd s i _) (8 + i) _, rfl, rfl, rfl, by omega, w00_step (by omega) hf0_1⟩ ⟨rfl, rfl, rfl, rfl, rfl, rfl, trivial⟩ ⟨rfl, rfl, rfl, trivial⟩ ?_
    omega
  · intro hc0
    have hc0 := of_decide_eq_false hc0
    have hz0 : i = 8 := by omega
    subst hz0
    refine Qe<|Qs<|Qp<|(Qj 12)<|(Q1 2)<|(Qf 73)<|(QV 3 0) ?_
    refine e_conv_w (Uu 3) (Uu 118) rfl rfl rfl ?_
    refine e_xor_w rfl rfl rfl  ?_
    refine (Qj 12)<|(Qu 2)<|Qn<|Qs<|Qp<|(Qj 13)<|(Q1 2)<|(Qf 73)<|(QV 3 0) ?_
    refine e_shr_i (s := 32) rfl rfl rfl (by omega) ?_
    refine e_as (congrArg ii (show ln / 2 ^ 32 = 0 by omega)) ?_
    refine e_conv_w (Uu 3) (Uu 118) rfl rfl rfl ?_
    refine e_xor_w rfl rfl rfl  ?_
    refine (Qj 13)<|(Qu 2)<|Qn<|Qs<|Qs<|Qp<|(Qm)<|Qn<|(Qct)<|Qp<|(Qj 14)<|(Q1 2) ?_
    refine e_compl_w rfl rfl ?_
    refine (Qj 14)<|(Qu 2)<|Qn<|Qs<|Qp<|(Qd 2)<|(Qt 1)<|Qn<|Qr ?_
    rw [← arr_congr (spr_true hf0_1)]
    exact ⟨_, rfl, .cell (i := 1) rfl rfl (Uu 273) rfl (Uz 273) (arr_size _ _ _)⟩
set_option maxHeartbeats 2000000 in
theorem spread_false (h d : Nat → Nat) (n ln : Nat) (hl : ln < 4294967296) : Fn Tryz.prog G 235 #[.agg (cells 74 [pI .u32 8 h, pI .u8 64 d, pV (.int .i64 (n : Int)), pV (.int .i64 (ln : Int))]), .bool false] (.agg (arr .u32 16 (w0 h ln false))) := by
  refine Qf1 Tryz.func235 ?_
  refine Qs<|Qp<|(Qh 0) fun r1=>(QH 1) fun r2=>Qn<|Qs<|Qp<|(QH 2) fun r3=>Qn<|Qs<|Qs<|Qp ?_
  refine e_call rfl (Un 194) div_fn rfl rfl ?_
  refine (Qm)<|Qn<|Qb ?_
  refine QzK [(1, _), (2, _), (4, _), (5, _), (8, _)] [(0, _), (1, _)] (fun kk E m => ∃ (i : Nat) (s : Nat → Nat), kk = 8 - i ∧ E = [(9, ii i)] ∧ m = [(2, some ⟨r3, arr .u32 16 s, 273⟩)] ∧ (i ≤ 8) ∧ (∀ t, t < 16 → s t = if t % 8 < i then w00 h t else 0)) ⟨0, fun _ => 0, rfl, rfl, rfl, by omega, fun t _ => by rw [if_neg (by omega)]⟩ ⟨rfl, rfl, rfl, rfl, rfl, rfl, trivial⟩ ⟨rfl, rfl, rfl, trivial⟩ ?_
  rintro kk E m ⟨i, s, rfl, rfl, rfl, hf0_0, hf0_1⟩
  simp only [catE, catL]
  refine Qs<|Qp<|(Ql)<|Qn<|Qs ?_
  refine e_cond rfl ?_ ?_
  · intro hc0
    have hc0 : i < 8 := by have := of_decide_eq_true hc0; omega
    refine Qk<|Qs<|Qb<|Qs<|Qp<|(Qm)<|(QX)<|(Qa)<|(Qa)<|Qn<|Qp<|(Qm)<|(Qm) ?_
    refine e_add_i (p := 8) rfl rfl rfl (by omega) ?_
    refine (Qm)<|(Qf 0)<|(Qi) ?_
    refine e_ldI (i := 0) 0 (i) (Uu 118) rfl rfl rfl rfl (by first | rfl | omega) (by omega) (by omega) rfl ⟨[], trivial⟩ ?_
    refine (Qm)<|(Qi)<|(Qu 2)<|(Qi)<|(Qu 2)<|Qn<|Qp<|(Q2 1)<|(Qm)<|Qn ?_
    refine QzL ⟨i + 1, upd (upd s i _) (8 + i) _, rfl, rfl, rfl, by omega, w00_step (by omega) hf0_1⟩ ⟨rfl, rfl, rfl, rfl, rfl, rfl, trivial⟩ ⟨rfl, rfl, rfl, trivial⟩ ?_
    omega
  · intro hc0
    have hc0 := of_decide_eq_false hc0
    have hz0 : i = 8 := by omega
    subst hz0
    refine Qe<|Qs<|Qp<|(Qj 12)<|(Q1 2)<|(Qf 73)<|(QV 3 0) ?_
    refine e_conv_w (Uu 3) (Uu 118) rfl rfl rfl ?_
    refine e_xor_w rfl rfl rfl  ?_
    refine (Qj 12)<|(Qu 2)<|Qn<|Qs<|Qp<|(Qj 13)<|(Q1 2)<|(Qf 73)<|(QV 3 0) ?_
    refine e_shr_i (s := 32) rfl rfl rfl (by omega) ?_
    refine e_as (congrArg ii (show ln / 2 ^ 32 = 0 by omega)) ?_
    refine e_conv_w (Uu 3) (Uu 118) rfl rfl rfl ?_
    refine e_xor_w rfl rfl rfl  ?_
    refine (Qj 13)<|(Qu 2)<|Qn<|Qs<|Qs<|Qp<|(Qm)<|Qn<|(Qcf)<|Qk<|Qs<|Qp<|(Qd 2)<|(Qt 1)<|Qn<|Qr ?_
    rw [← arr_congr (spr_false hf0_1)]
    exact ⟨_, rfl, .cell (i := 1) rfl rfl (Uu 273) rfl (Uz 273) (arr_size _ _ _)⟩
set_option maxHeartbeats 2000000 in
theorem dbegin6_fn : Fn Tryz.prog G 143 #[] (.agg (cells 74 [pI .u32 8 hbeg, pI .u8 64 (fun _ => 0), pV (.int .i64 0), pV (.int .i64 0)])) := by
  refine Qf1 Tryz.func143 ?_
  refine Qs<|Qp<|(QH 0) fun r1=>Qn<|Qs<|Qp ?_
  refine e_call rfl (Un 194) div_fn rfl rfl ?_
  refine (QH 1) fun r2=>(Qt 1)<|Qn<|Qs<|Qp<|(Qj 0)<|(Q1 1) ?_
  refine e_xor_w (q := 16842784) rfl rfl rfl  ?_
  refine (Qj 0)<|(Qu 1)<|Qn<|Qs<|Qp<|(Qd 1) ?_
  refine e_buildS (cells 74 [pI .u32 8 hbeg, pI .u8 64 (fun _ => 0), pV (.int .i64 0), pV (.int .i64 0)]) (Ub 149 rfl) (Uu 149 rfl) pls149 rfl (by kernel_rfl) rfl ?_
  refine e_storeA (i := 0) (Uz 149) rfl rfl (arrv_size _ _) (cells_one ⟨fun _ => rfl, fun _ => rfl, fun _ => rfl, fun _ => rfl, trivial⟩) rfl cells_sz (.inl rfl) ?_
  refine Qn<|Qr ?_
  exact ⟨_, rfl, .cell (i := 0) rfl rfl (Uu 149) rfl (Uz 149) (arrv_size _ _)⟩
end Go.Proofs.YthljakcegoohlaaGreatDoor
namespace Go.Proofs.YthljakcegoohlaaGreatDoor
open Go Go.RowKit
variable {G : Mem}
set_option maxHeartbeats 2000000 in
theorem dsqz_true (h d : Nat → Nat) (n ln : Nat) (hd : L8 64 d) (hl : ln < 4294967296) : Fn Tryz.prog (DOR :: G) 193 #[.agg (cells 74 [pI .u32 8 h, pI .u8 64 d, pV (.int .i64 (n : Int)), pV (.int .i64 (ln : Int))]), .bool true] (.agg (arr .u32 8 (sqz h ((List.range 64).map d) ln true))) := by
  obtain ⟨v, hv⟩ : ∃ v, v = rndM (wrd ((List.range 64).map d)) (w0 h ln true) 10 := ⟨_, rfl⟩
  have hvb : ∀ t, t < 16 → v t = brs ((List.range 64).map d) (w0 h ln true) 10 t := fun t ht => by rw [hv]; exact rnd_brs (fun _ _ => rfl) 10 t ht
  obtain ⟨z, hz⟩ : ∃ z, z = sqz h ((List.range 64).map d) ln true := ⟨_, rfl⟩
  rw [← hz]
  refine Qf1 Tryz.func193 ?_
  refine Qs<|Qp<|(Qh 0) fun r1=>(QH 1) fun r2=>Qn<|Qs<|(Qg)<|(QD 0)<|(Qm) ?_
  refine e_call rfl (Un 235) (spread_true h d n ln hl) rfl rfl ?_
  refine (Qf 8)<|(Qv 1 0) ?_
  refine e_call rfl (Un 236) (words_fn d hd) rfl rfl ?_
  refine e_call rfl (Un 234) (rounds6_fn (w0 h ln true) (wrd ((List.range 64).map d))) rfl rfl ?_
  refine e_as (congrArg (fun f => Value.agg (arr .u32 16 f)) hv.symm) ?_
  refine (QH 2) fun r3=>(Qt 2)<|Qn<|Qs<|Qs<|Qp<|(Qm)<|Qn<|Qb ?_
  refine QzK [(2, _), (4, _), (5, _)] [(1, _), (2, _)] (fun kk E m => ∃ (q : Nat) (s : Nat → Nat), kk = 8 - q ∧ E = [(14, ii q)] ∧ m = [(0, some ⟨r1, cells 74 [pI .u32 8 s, pI .u8 64 d, pV (.int .i64 (n : Int)), pV (.int .i64 (ln : Int))], 149⟩)] ∧ (q ≤ 8) ∧ (∀ t, t < 8 → s t = if t < q then z t else h t)) ⟨0, h, rfl, rfl, rfl, by omega, fun t _ => by rw [if_neg (by omega)]⟩ ⟨rfl, rfl, rfl, rfl, trivial⟩ ⟨rfl, rfl, rfl, trivial⟩ ?_
  rintro kk E m ⟨q, s, rfl, rfl, rfl, hf0_0, hf0_1⟩
  simp only [catE, catL]
  refine Qs<|Qp<|(Ql)<|Qn<|Qs ?_
  refine e_cond rfl ?_ ?_
  · intro hc0
    have hc0 : q < 8 := by have := of_decide_eq_true hc0; omega
    refine Qk<|Qs<|Qb<|Qs<|Qp<|(Qm)<|(Qa)<|Qn<|(Qg)<|(Qm)<|(Qf 0)<|(Qi) ?_
    refine e_ldI (i := 0) 0 (q) (Uu 118) rfl rfl rfl rfl (by first | rfl | omega) (by omega) (by omega) rfl ⟨[], trivial⟩ ?_
    refine (Qm)<|(Qi)<|(Q1 2)<|(Qm) ?_
    refine e_add_i (p := 8) rfl rfl rfl (by omega) ?_
    refine (Qi)<|(Q1 2) ?_
    refine e_xor_w rfl rfl rfl  ?_
    refine e_xor_w rfl rfl rfl  ?_
    refine (Qf 0)<|(Qi) ?_
    refine e_stI (i := 0) 0 (q) (Uz 118) rfl rfl rfl rfl (by first | rfl | omega) (by omega) (by omega) (.inl rfl) ?_
    refine Qn<|Qp<|(Q2 1)<|(Qm)<|Qn ?_
    refine QzL ⟨q + 1, upd s q _, rfl, rfl, rfl, by omega, sqd_step (by omega) hvb hz hf0_1⟩ ⟨rfl, rfl, rfl, rfl, trivial⟩ ⟨rfl, rfl, rfl, trivial⟩ ?_
    omega
  · intro hc0
    have hc0 := of_decide_eq_false hc0
    have hz0 : q = 8 := by omega
    subst hz0
    refine Qe<|Qs<|Qp<|(Qf 0)<|(Qv 0 0)<|(Qt 1)<|Qn<|Qr ?_
    rw [← arr_congr (k := .u32) (n := 8) (fun t ht => (hf0_1 t ht).trans (if_pos (by omega)))]
    exact ⟨_, rfl, .cell (i := 1) rfl rfl (Uu 146) rfl (Uz 146) (arr_size _ _ _)⟩
set_option maxHeartbeats 2000000 in
theorem dsqz_false (h d : Nat → Nat) (n ln : Nat) (hd : L8 64 d) (hl : ln < 4294967296) : Fn Tryz.prog (DOR :: G) 193 #[.agg (cells 74 [pI .u32 8 h, pI .u8 64 d, pV (.int .i64 (n : Int)), pV (.int .i64 (ln : Int))]), .bool false] (.agg (arr .u32 8 (sqz h ((List.range 64).map d) ln false))) := by
  obtain ⟨v, hv⟩ : ∃ v, v = rndM (wrd ((List.range 64).map d)) (w0 h ln false) 10 := ⟨_, rfl⟩
  have hvb : ∀ t, t < 16 → v t = brs ((List.range 64).map d) (w0 h ln false) 10 t := fun t ht => by rw [hv]; exact rnd_brs (fun _ _ => rfl) 10 t ht
  obtain ⟨z, hz⟩ : ∃ z, z = sqz h ((List.range 64).map d) ln false := ⟨_, rfl⟩
  rw [← hz]
  refine Qf1 Tryz.func193 ?_
  refine Qs<|Qp<|(Qh 0) fun r1=>(QH 1) fun r2=>Qn<|Qs<|(Qg)<|(QD 0)<|(Qm) ?_
  refine e_call rfl (Un 235) (spread_false h d n ln hl) rfl rfl ?_
  refine (Qf 8)<|(Qv 1 0) ?_
  refine e_call rfl (Un 236) (words_fn d hd) rfl rfl ?_
  refine e_call rfl (Un 234) (rounds6_fn (w0 h ln false) (wrd ((List.range 64).map d))) rfl rfl ?_
  refine e_as (congrArg (fun f => Value.agg (arr .u32 16 f)) hv.symm) ?_
  refine (QH 2) fun r3=>(Qt 2)<|Qn<|Qs<|Qs<|Qp<|(Qm)<|Qn<|Qb ?_
  refine QzK [(2, _), (4, _), (5, _)] [(1, _), (2, _)] (fun kk E m => ∃ (q : Nat) (s : Nat → Nat), kk = 8 - q ∧ E = [(14, ii q)] ∧ m = [(0, some ⟨r1, cells 74 [pI .u32 8 s, pI .u8 64 d, pV (.int .i64 (n : Int)), pV (.int .i64 (ln : Int))], 149⟩)] ∧ (q ≤ 8) ∧ (∀ t, t < 8 → s t = if t < q then z t else h t)) ⟨0, h, rfl, rfl, rfl, by omega, fun t _ => by rw [if_neg (by omega)]⟩ ⟨rfl, rfl, rfl, rfl, trivial⟩ ⟨rfl, rfl, rfl, trivial⟩ ?_
  rintro kk E m ⟨q, s, rfl, rfl, rfl, hf0_0, hf0_1⟩
  simp only [catE, catL]
  refine Qs<|Qp<|(Ql)<|Qn<|Qs ?_
  refine e_cond rfl ?_ ?_
  · intro hc0
    have hc0 : q < 8 := by have := of_decide_eq_true hc0; omega
    refine Qk<|Qs<|Qb<|Qs<|Qp<|(Qm)<|(Qa)<|Qn<|(Qg)<|(Qm)<|(Qf 0)<|(Qi) ?_
    refine e_ldI (i := 0) 0 (q) (Uu 118) rfl rfl rfl rfl (by first | rfl | omega) (by omega) (by omega) rfl ⟨[], trivial⟩ ?_
    refine (Qm)<|(Qi)<|(Q1 2)<|(Qm) ?_
    refine e_add_i (p := 8) rfl rfl rfl (by omega) ?_
    refine (Qi)<|(Q1 2) ?_
    refine e_xor_w rfl rfl rfl  ?_
    refine e_xor_w rfl rfl rfl  ?_
    refine (Qf 0)<|(Qi) ?_
    refine e_stI (i := 0) 0 (q) (Uz 118) rfl rfl rfl rfl (by first | rfl | omega) (by omega) (by omega) (.inl rfl) ?_
    refine Qn<|Qp<|(Q2 1)<|(Qm)<|Qn ?_
    refine QzL ⟨q + 1, upd s q _, rfl, rfl, rfl, by omega, sqd_step (by omega) hvb hz hf0_1⟩ ⟨rfl, rfl, rfl, rfl, trivial⟩ ⟨rfl, rfl, rfl, trivial⟩ ?_
    omega
  · intro hc0
    have hc0 := of_decide_eq_false hc0
    have hz0 : q = 8 := by omega
    subst hz0
    refine Qe<|Qs<|Qp<|(Qf 0)<|(Qv 0 0)<|(Qt 1)<|Qn<|Qr ?_
    rw [← arr_congr (k := .u32) (n := 8) (fun t ht => (hf0_1 t ht).trans (if_pos (by omega)))]
    exact ⟨_, rfl, .cell (i := 1) rfl rfl (Uu 146) rfl (Uz 146) (arr_size _ _ _)⟩
end Go.Proofs.YthljakcegoohlaaGreatDoor
namespace Go.Proofs.YthljakcegoohlaaGreatDoor
open Go Go.RowKit
variable {G : Mem}
set_option maxHeartbeats 4000000 in
theorem dadded_fn (h d : Nat → Nat) (n ln : Nat) (v : Value) (l : List Nat) (hv : Shows (DOR :: G) 1 v l.length (l.map by8)) (hlb : ∀ b ∈ l, b < 256) (hd : L8 64 d) (hok : okB n ln d = true) (hz : ln + l.length ≤ 1073741824) : Fn Tryz.prog (DOR :: G) 142 #[.agg (cells 74 [pI .u32 8 h, pI .u8 64 d, pV (.int .i64 (n : Int)), pV (.int .i64 (ln : Int))]), v] (.agg (cells 74 [pI .u32 8 (hacc h (ln - n) (sS d n l) (nblk (sS d n l).length)), pI .u8 64 (fun i => ((sS d n l).drop (64 * nblk (sS d n l).length)).getD i 0), pV (.int .i64 (((sS d n l).drop (64 * nblk (sS d n l).length)).length : Nat)), pV (.int .i64 (ln + l.length : Nat))])) := by
  obtain ⟨_, hnl, hn, hmod, _⟩ := okB_open hok
  refine Qf1 Tryz.func142 ?_
  refine Qs<|Qp<|(Qh 0) fun r1=>(QH 1) fun r2=>Qn<|Qs<|Qb ?_
  refine QzK [(2, _), (4, _)] [(1, _)] (fun kk E m => ∃ (hh : Nat → Nat) (g : Nat → Nat) (nn : Nat) (q : Nat) (bv : Value), kk = ln + l.length - q ∧ E = [(1, bv)] ∧ m = [(0, some ⟨r1, cells 74 [pI .u32 8 hh, pI .u8 64 g, pV (.int .i64 ((nn : Nat) : Int)), pV (.int .i64 ((q : Nat) : Int))], 149⟩)] ∧ (AddInv h d n ln l hh g nn q) ∧ (Shows (DOR :: G) 1 bv (l.drop (q - ln)).length ((l.drop (q - ln)).map by8))) ⟨h, d, n, ln, v, rfl, rfl, rfl, add_first l hok, (by rw [Nat.sub_self]; exact hv)⟩ ⟨rfl, rfl, rfl, trivial⟩ ⟨rfl, rfl, trivial⟩ ?_
  rintro kk E m ⟨hh, g, nn, q, bv, rfl, rfl, rfl, hf0_0, hf0_1⟩
  simp only [catE, catL]
  have hq1 := hf0_0.1
  have hq2 := hf0_0.2.1
  have hnn := add_nn hf0_0
  have hwl : (l.drop (q - ln)).length = l.length - (q - ln) := List.length_drop
  refine Qs<|Qs<|Qp<|(Qm)<|(QC hf0_1)<|(QG)<|Qn ?_
  refine e_cond rfl ?_ ?_
  · intro hc0
    have hw0 : 0 < (l.drop (q - ln)).length := by have := of_decide_eq_true hc0; omega
    refine Qk<|Qb<|Qs<|Qs ?_
    rcases (by omega : nn = 64 ∨ nn < 64) with hN | hN
    · skip
      refine Qp<|(Qf 72)<|(QV 2 0)<|(Qc)<|Qn ?_
      refine e_cond rfl ?_ ?_
      · intro hc1
        refine Qs<|Qp<|(QD 0) ?_
        refine e_call rfl (Un 193) (dsqz_false hh g nn q (add_lt hd hn hlb hf0_0) (by omega)) rfl rfl ?_
        refine (Qf 0) ?_
        refine e_stC (i := 0) 0 (Uz 146) rfl rfl rfl rfl (by decide) (.inl rfl) ?_
        refine Qn<|Qp ?_
        refine e_build0 (Ub 147 rfl) (Uu 147 rfl) sis5 rfl ?_
        refine (Qf 8) ?_
        refine e_stC (i := 0) 1 (Uz 147) rfl rfl rfl rfl (by decide) (.inl rfl) ?_
        refine (Qf 72) ?_
        refine e_stV (i := 0) 2 (Uz 3) rfl rfl rfl rfl rfl (by decide) (.inl rfl) ?_
        refine Qn<|Qs<|Qp<|(Qf 8)<|(Qf 72)<|(QV 2 0) ?_
        refine e_sliceA 0 64 (Uu 147) (Uz 5) rfl rfl rfl ⟨_, rfl⟩ rfl (by omega) (by omega) (by omega) rfl ?_
        refine (Qm) ?_
        refine e_copyCB (i := 0) (o := 8) (L := 64) 1 (0) (Uu 22) (Uz 5) hf0_1 seenG rfl rfl rfl rfl (by omega) (by omega) (by decide) rfl ?_
        refine (Qa)<|Qn<|Qs<|Qp<|(Qf 72)<|(QV 2 0) ?_
        refine e_as (show _ = ii 0 from rfl) ?_
        refine (Qm)<|(Q3)<|(Qf 72) ?_
        refine e_stV (i := 0) 2 (Uz 3) rfl rfl rfl rfl rfl (by decide) (.inl rfl) ?_
        refine Qn<|Qs<|Qp<|(Qf 73)<|(QV 3 0)<|(Qm)<|(Q3)<|(Qf 73) ?_
        refine e_stV (i := 0) 3 (Uz 3) rfl rfl rfl rfl rfl (by decide) (.inl rfl) ?_
        refine Qn<|Qp<|(Qm)<|(Qm) ?_
        refine e_sliceV _ (l.drop (q - ln)).length hf0_1 (Uu 22) (Uz 5) rfl rfl rfl ⟨_, rfl⟩ rfl (by omega) (by omega) rfl ?_
        refine (Qa)<|Qn ?_
        refine QzL ⟨_, _, _, _, _, rfl, rfl, rfl, (by first | exact add_full hnl hf0_0 hN hmod rfl hw0 rfl (fun _ _ => rfl) rfl rfl | exact add_more hf0_0 hN rfl hw0 (fun _ _ => rfl) rfl rfl), (add_shows hf0_1 (by omega) hq1)⟩ ⟨rfl, rfl, rfl, trivial⟩ ⟨rfl, rfl, trivial⟩ ?_
        omega
      · intro hc1
        exact absurd (of_decide_eq_false hc1) (by omega)
    · skip
      refine Qp<|(Qf 72)<|(QV 2 0)<|(Qc)<|Qn ?_
      refine e_cond rfl ?_ ?_
      · intro hc1
        exact absurd (of_decide_eq_true hc1) (by omega)
      · intro hc1
        refine Qk<|Qs<|Qp<|(Qf 8)<|(Qf 72)<|(QV 2 0) ?_
        refine e_sliceA nn 64 (Uu 147) (Uz 5) rfl rfl rfl ⟨_, rfl⟩ rfl (by omega) (by omega) (by omega) rfl ?_
        refine (Qm) ?_
        refine e_copyCB (i := 0) (o := 8) (L := 64) 1 (nn) (Uu 22) (Uz 5) hf0_1 seenG rfl rfl rfl rfl (by omega) (by omega) (by decide) rfl ?_
        refine (Qa)<|Qn<|Qs<|Qp<|(Qf 72)<|(QV 2 0)<|(Qm)<|(Q3)<|(Qf 72) ?_
        refine e_stV (i := 0) 2 (Uz 3) rfl rfl rfl rfl rfl (by decide) (.inl rfl) ?_
        refine Qn<|Qs<|Qp<|(Qf 73)<|(QV 3 0)<|(Qm)<|(Q3)<|(Qf 73) ?_
        refine e_stV (i := 0) 3 (Uz 3) rfl rfl rfl rfl rfl (by decide) (.inl rfl) ?_
        refine Qn<|Qp<|(Qm)<|(Qm) ?_
        refine e_sliceV _ (l.drop (q - ln)).length hf0_1 (Uu 22) (Uz 5) rfl rfl rfl ⟨_, rfl⟩ rfl (by omega) (by omega) rfl ?_
        refine (Qa)<|Qn ?_
        refine QzL ⟨_, _, _, _, _, rfl, rfl, rfl, (by first | exact add_full hnl hf0_0 hN hmod rfl hw0 rfl (fun _ _ => rfl) rfl rfl | exact add_more hf0_0 hN rfl hw0 (fun _ _ => rfl) rfl rfl), (add_shows hf0_1 (by omega) hq1)⟩ ⟨rfl, rfl, rfl, trivial⟩ ⟨rfl, rfl, trivial⟩ ?_
        omega
  · intro hc0
    have hw0 : (l.drop (q - ln)).length = 0 := by have := of_decide_eq_false hc0; omega
    obtain ⟨a1, a2, a3, a4⟩ := add_last hf0_0 hw0
    refine Qe<|Qs<|Qp<|(QD 0) ?_
    refine e_as (Eq.trans (show _ = .agg (cells 74 [pI .u32 8 hh, pI .u8 64 g, pV (.int .i64 ((nn : Nat) : Int)), pV (.int .i64 ((q : Nat) : Int))]) from rfl) (cH_congr a1 a2 a3 a4)) ?_
    refine e_storeA (i := 1) (Uz 149) rfl rfl (arrv_size _ _) (cells_one ⟨fun _ => rfl, fun _ => rfl, fun _ => rfl, fun _ => rfl, trivial⟩) rfl cells_sz (.inl rfl) ?_
    refine Qn<|Qr ?_
    exact ⟨_, rfl, .cell (i := 1) rfl rfl (Uu 149) rfl (Uz 149) (arrv_size _ _)⟩
set_option maxHeartbeats 2000000 in
theorem dended6_fn (h d : Nat → Nat) (n ln : Nat) (hd : L8 64 d) (hl : ln < 4294967296) : Fn Tryz.prog (DOR :: G) 141 #[.agg (cells 74 [pI .u32 8 h, pI .u8 64 d, pV (.int .i64 (n : Int)), pV (.int .i64 (ln : Int))])] (.agg (arr .u8 32 (hsumf (sqz h ((List.range 64).map d) ln true)))) := by
  obtain ⟨w, hw⟩ : ∃ w, w = (sqz h ((List.range 64).map d) ln true) := ⟨_, rfl⟩
  rw [← hw]
  refine Qf1 Tryz.func141 ?_
  refine Qs<|Qp<|(Qh 0) fun r1=>(QH 1) fun r2=>Qn<|Qs<|Qp<|(QD 0) ?_
  refine e_call rfl (Un 193) (dsqz_true h d n ln hd hl) rfl rfl ?_
  refine e_as (congrArg (fun f => Value.agg (arr .u32 8 f)) hw.symm) ?_
  refine (QH 2) fun r3=>(Qt 2)<|Qn<|Qs<|Qp<|(QH 3) fun r4=>Qn<|Qs<|Qs<|Qp<|(Qm)<|Qn<|Qb ?_
  refine QzK [(2, _), (3, _), (4, _)] [(0, _), (1, _), (2, _)] (fun kk E m => ∃ (i : Nat) (s : Nat → Nat), kk = 32 - i ∧ E = [(8, ii i)] ∧ m = [(3, some ⟨r4, arr .u8 32 s, 30⟩)] ∧ (i ≤ 32) ∧ (∀ t, t < i → s t = hsumf w t)) ⟨0, fun _ => 0, rfl, rfl, rfl, by omega, fun t ht => absurd ht (Nat.not_lt_zero t)⟩ ⟨rfl, rfl, rfl, rfl, trivial⟩ ⟨rfl, rfl, rfl, rfl, trivial⟩ ?_
  rintro kk E m ⟨i, s, rfl, rfl, rfl, hf0_0, hf0_1⟩
  simp only [catE, catL]
  refine Qs<|Qp<|(Ql)<|Qn<|Qs ?_
  refine e_cond rfl ?_ ?_
  · intro hc0
    have hc0 : i < 32 := by have := of_decide_eq_true hc0; omega
    refine Qk<|Qs<|Qb<|Qs<|Qp<|(Qm)<|(Qa)<|Qn<|Qp<|(Qm)<|(Qm)<|(Q5 4)<|(Qi)<|(Q1 2)<|(Qm)<|(Q4 4)<|(Q6 8) ?_
    refine e_shr_w rfl rfl rfl (by omega) ?_
    refine e_conv_u8 (Uu 118) (Uu 5) rfl rfl rfl ?_
    refine (Qi)<|(Qu 3)<|Qn<|Qp<|(Q2 1)<|(Qm)<|Qn ?_
    refine QzL ⟨i + 1, upd s i _, rfl, rfl, rfl, by omega, upd_lt hf0_1 (hsum_at w (by omega))⟩ ⟨rfl, rfl, rfl, rfl, trivial⟩ ⟨rfl, rfl, rfl, rfl, trivial⟩ ?_
    omega
  · intro hc0
    have hc0 := of_decide_eq_false hc0
    have hz0 : i = 32 := by omega
    subst hz0
    refine Qe<|Qs<|Qp<|(Qd 3)<|(Qt 1)<|Qn<|Qr ?_
    rw [← arr_congr (k := .u8) (n := 32) hf0_1]
    exact ⟨_, rfl, .cell (i := 1) rfl rfl (Uu 30) rfl (Uz 30) (arr_size _ _ _)⟩
end Go.Proofs.YthljakcegoohlaaGreatDoor
namespace Go.Proofs.YthljakcegoohlaaGreatDoor
open Go Go.RowKit
variable {G : Mem}
end Go.Proofs.YthljakcegoohlaaGreatDoor
namespace Go.Proofs.YthljakcegoohlaaGreatDoor
open Go Go.RowKit
variable {G : Mem}
end Go.Proofs.YthljakcegoohlaaGreatDoor
namespace Go.Proofs.YthljakcegoohlaaGreatDoor
open Go Go.RowKit
variable {G : Mem}
end Go.Proofs.YthljakcegoohlaaGreatDoor
namespace Go.Proofs.YthljakcegoohlaaGreatDoor
open Go Go.RowKit
variable {G : Mem}
end Go.Proofs.YthljakcegoohlaaGreatDoor
namespace Go.Proofs.YthljakcegoohlaaGreatDoor
open Go Go.RowKit
variable {G : Mem}
end Go.Proofs.YthljakcegoohlaaGreatDoor
namespace Go.Proofs.YthljakcegoohlaaGreatDoor
open Go Go.RowKit
variable {G : Mem}
end Go.Proofs.YthljakcegoohlaaGreatDoor
namespace Go.Proofs.YthljakcegoohlaaGreatDoor
open Go Go.RowKit
theorem stB_nil : .agg (cells 74 [pI .u32 8 hbeg, pI .u8 64 (fun _ => 0), pV (.int .i64 0), pV (.int .i64 0)]) = stB [] := by
  unfold stB cB
  rw [heldB_nil, hmsg_nil]; rfl
variable {G : Mem}
end Go.Proofs.YthljakcegoohlaaGreatDoor
namespace Go.Proofs.YthljakcegoohlaaGreatDoor
open Go Go.RowKit
theorem dadded6_msg {G : Mem} (m : List Nat) (v : Value) (l : List Nat) (hm : ∀ b ∈ m, b < 256) (hv : Shows (DOR :: G) 1 v l.length (l.map by8)) (hlb : ∀ b ∈ l, b < 256) (hz : m.length + l.length ≤ 1073741824) :
    Fn Tryz.prog (DOR :: G) 142 #[stB m, v] (stB (m ++ l)) := by
  have h := dadded_fn (G := G) (hmsg m) (heldB m) (rem64 m).length m.length v l hv hlb (fun j _ => heldB_lt hm j) (ok_heldB m) hz
  rw [sS_heldB, base_of, hmsg_app, rem64_app, ← List.length_append] at h
  exact h
theorem dended6_msg {G : Mem} (m : List Nat) (hm : ∀ b ∈ m, b < 256) (hz : m.length ≤ 1073741824) : Fn Tryz.prog (DOR :: G) 141 #[stB m] (.agg (arr .u8 32 (bsum m))) := by
  have h := dended6_fn (G := G) (hmsg m) (heldB m) (rem64 m).length m.length (fun j _ => heldB_lt hm j) (by omega)
  rw [← bsum_small hz] at h
  exact h
theorem dBegin_msg {G : Mem} : Fn Tryz.prog G 143 #[] (stB []) := by
  rw [← stB_nil]; exact dbegin6_fn
variable {G : Mem}
set_option maxHeartbeats 400000 in
theorem dsum6_fn (v : Value) (l : List Nat) (hv : Shows (DOR :: G) 1 v l.length (l.map by8)) (hlb : ∀ b ∈ l, b < 256) (hz : l.length ≤ 1073741824) : Fn Tryz.prog (DOR :: G) 91 #[v] (.agg (arr .u8 32 (bsum l))) := by
  refine Qf1 Tryz.func91 ?_
  refine Qs<|Qp<|(QH 0) fun r1=>Qn<|Qs<|Qp ?_
  refine e_call rfl (Un 143) dBegin_msg rfl rfl ?_
  refine (Qm) ?_
  refine e_call rfl (Un 142) (dadded6_msg [] v l (by simp) hv hlb (by simpa using hz)) rfl rfl ?_
  refine e_as (show _ = stB l from rfl) ?_
  refine e_call rfl (Un 141) (dended6_msg l hlb hz) rfl rfl ?_
  refine (Qt 0)<|Qn<|Qr ?_
  exact ⟨_, rfl, .cell (i := 0) rfl rfl (Uu 30) rfl (Uz 30) (arr_size _ _ _)⟩
end Go.Proofs.YthljakcegoohlaaGreatDoor
namespace Go.Proofs.YthljakcegoohlaaGreatDoor
open Go Go.RowKit
variable {G : Mem}
set_option maxHeartbeats 2000000 in
theorem djoined_fn (v : Value) (vs : List Value) (ls : List (List Nat)) (hv : Shows G 1 v vs.length vs) (hL : ShowsL G vs ls) (hn : vs.length ≤ 1099511627776) (hm : ls.flatten.length ≤ 1099511627776) : Fx Tryz.prog G [] 179 #[v] (fun v l1 nw => l1 = [] ∧ ∃ v', v = v' ∧ OwnS 5 1 v' ls.flatten.length (ls.flatten.map by8) nw) := by
  have hvl := hL.1
  have hup := upto_le ls
  refine QfN Tryz.func179 ?_
  refine Qs<|Qp<|(Qa)<|Qn<|Qs<|Qp<|(Qa)<|Qn<|Qs<|Qs<|Qp<|(Qm)<|(QC hv)<|(Qm)<|Qn<|Qb ?_
  refine QzK [(2, _), (6, _), (7, _)] [] (fun kk E m => ∃ (j : Nat) (w : Value) (oz : Option Blk), kk = vs.length - j ∧ E = [(3, w), (8, ii j)] ∧ m = [(50, oz)] ∧ (j ≤ vs.length) ∧ (OwnS 5 1 w (upto ls j).length ((upto ls j).map by8) (Option.toList oz))) ⟨0, nilS, none, rfl, rfl, rfl, by omega, (own_nil _ _)⟩ ⟨rfl, rfl, rfl, rfl, rfl, trivial⟩ ⟨rfl, trivial⟩ ?_
  rintro kk E m ⟨j, w, oz, rfl, rfl, rfl, hf0_0, hf0_1⟩
  simp only [catE, catL]
  have hs3 := hup (j + 1)
  have hs4 : j < ls.length → (upto ls (j + 1)).length = (upto ls j).length + (ls.getD j []).length := fun h => by rw [upto_next h, List.length_append]
  refine Qs<|Qp<|(Ql)<|Qn<|Qs ?_
  refine e_cond rfl ?_ ?_
  · intro hc0
    have hc0 : j < vs.length := by have := of_decide_eq_true hc0; omega
    refine Qk<|Qs<|Qb<|Qs<|Qp ?_
    refine e_atV hv (Uu 198) (Uz 22) rfl rfl (by omega) rfl ?_
    refine (QS) ?_
    refine e_loadV hv seenG (Uu 22) rfl rfl (get_getD (by omega)) rfl ?_
    refine (Qa)<|Qn<|Qp<|(Qm)<|(Qm) ?_
    refine e_append 50 hf0_1 (hL.2 j (by omega)) rfl seenG (Uu 22) (Uz 5) (Uy 5) (Ub 5) (by rfl) rfl rfl by8_one (by have := hs4 (by omega); simp only [maxLen]; omega) (by have := hs4 (by omega); omega) rfl fun v2_1 oz2_1 ho2_1 => ?_
    refine (Qa)<|Qn<|Qp<|(Q2 1)<|(Qm)<|Qn ?_
    refine QzL ⟨j + 1, _, _, rfl, rfl, rfl, by omega, (own_fix ho2_1 (by rw [upto_next (by omega), List.length_append]) (by rw [upto_next (by omega), List.map_append]))⟩ ⟨rfl, rfl, rfl, rfl, rfl, trivial⟩ ⟨rfl, trivial⟩ ?_
    omega
  · intro hc0
    have hc0 := of_decide_eq_false hc0
    have hz0 : j = vs.length := by omega
    refine Qe<|Qs<|Qp<|(Qm)<|(Qa)<|Qn<|Qr ?_
    exact ⟨_, _, _, 50, rfl, .tmp rfl, (own_fix hf0_1 (by rw [hz0, hvl, upto_all]) (by rw [hz0, hvl, upto_all])), rfl⟩
set_option maxHeartbeats 2000000 in
theorem dturned_fn (p : List Nat) (x : Nat) (hp : p.length = 64) : Fx Tryz.prog G [] 228 #[.agg (arr .u8 64 (fun j => p.getD j 0)), by8 x] (fun v l1 nw => l1 = [] ∧ ∃ v', v = v' ∧ OwnS 268 1 v' 64 ((xorl p x).map by8) nw) := by
  refine QfN Tryz.func228 ?_
  refine Qs<|Qp<|(Qh 0) fun r1=>(Qa)<|Qn<|Qs<|Qs<|Qp<|(Qm)<|Qn<|Qb ?_
  refine QzK [(1, _), (2, _), (4, _)] [] (fun kk E m => ∃ (i : Nat) (s : Nat → Nat), kk = 64 - i ∧ E = [(6, ii i)] ∧ m = [(0, some ⟨r1, arr .u8 64 s, 268⟩)] ∧ (i ≤ 64) ∧ (∀ t, t < 64 → s t = if t < i then (p.getD t 0 ^^^ x) % 256 else p.getD t 0)) ⟨0, (fun j => p.getD j 0), rfl, rfl, rfl, by omega, tur_first (k := fun j => p.getD j 0)⟩ ⟨rfl, rfl, rfl, rfl, trivial⟩ ⟨rfl, trivial⟩ ?_
  rintro kk E m ⟨i, s, rfl, rfl, rfl, hf0_0, hf0_1⟩
  simp only [catE, catL]
  refine Qs<|Qp<|(Ql)<|Qn<|Qs ?_
  refine e_cond rfl ?_ ?_
  · intro hc0
    have hc0 : i < 64 := by have := of_decide_eq_true hc0; omega
    refine Qk<|Qs<|Qb<|Qs<|Qp<|(Qm)<|(Qa)<|Qn<|Qp<|(Qm)<|(Qi)<|(Q1 0)<|(Qm) ?_
    refine e_xor_b rfl rfl rfl  ?_
    refine (Qi)<|(Qu 0)<|Qn<|Qp<|(Q2 1)<|(Qm)<|Qn ?_
    refine QzL ⟨i + 1, upd s i _, rfl, rfl, rfl, by omega, (tur_next (k := fun j => p.getD j 0) hf0_1 (by omega) rfl)⟩ ⟨rfl, rfl, rfl, rfl, trivial⟩ ⟨rfl, trivial⟩ ?_
    omega
  · intro hc0
    have hc0 := of_decide_eq_false hc0
    have hz0 : i = 64 := by omega
    subst hz0
    refine Qe<|Qs<|Qp ?_
    refine e_sliceA 0 64 (Uu 268) (Uz 5) rfl rfl rfl rfl rfl (by omega) (by omega) (by omega) rfl ?_
    refine (Qa)<|Qn<|Qr ?_
    exact ⟨_, _, _, 0, rfl, .tmp rfl, (own_made ((xorl_len p x).trans hp) (by decide) (tur_last hp hf0_1)), rfl⟩
end Go.Proofs.YthljakcegoohlaaGreatDoor
namespace Go.Proofs.YthljakcegoohlaaGreatDoor
open Go Go.RowKit
variable {G : Mem}
set_option maxHeartbeats 2000000 in
theorem dfit_long (v : Value) (k : List Nat) (hv : Shows (DOR :: G) 1 v k.length (k.map by8)) (hb : ∀ b ∈ k, b < 256) (hz : k.length ≤ 1073741824) (hkl : 64 < k.length) : Fn Tryz.prog (DOR :: G) 227 #[v] (.agg (arr .u8 64 (fun j => (mpad k).getD j 0))) := by
  have hmk : mkey k = (bsl k) := if_pos hkl
  have hkle := mkey_le k
  rw [hmk] at hkle
  refine Qf1 Tryz.func227 ?_
  refine Qs<|Qp<|(QH 0) fun r1=>Qn<|Qs<|Qp<|(QH 1) fun r2=>Qn<|Qs<|Qs<|Qp<|(Qm)<|(QC hv)<|(QG)<|(Qat)<|Qn<|(Qct)<|Qs<|Qp<|(Qm) ?_
  refine e_call rfl (Un 91) (dsum6_fn v k hv hb hz) rfl rfl ?_
  refine (QH 2) fun r3=>(Qt 2)<|Qn<|Qp ?_
  refine e_sliceA 0 32 (Uu 30) (Uz 5) rfl rfl rfl rfl rfl (by omega) (by omega) (by omega) rfl ?_
  refine (Qa)<|Qn<|Qs<|Qp ?_
  refine e_sliceA 0 64 (Uu 268) (Uz 5) rfl rfl rfl rfl rfl (by omega) (by omega) (by omega) rfl ?_
  refine (Qm) ?_
  refine e_copyB (i := 1) (Uu 22) (Uz 5) (show Shows _ 1 _ (bsl k).length ((bsl k).map by8) from shows32 _ (bsum k) _) (seen1 2 rfl ⟨[], trivial⟩) rfl rfl rfl (by omega) rfl ?_
  refine Qn<|Qs<|Qp<|(Qd 1) ?_
  refine e_as (congrArg Value.agg (arr_congr (fit_at hmk hkle rfl))) ?_
  refine (Qt 0)<|Qn<|Qr ?_
  exact ⟨_, rfl, .cell (i := 0) rfl rfl (Uu 268) rfl (Uz 268) (arr_size _ _ _)⟩
set_option maxHeartbeats 2000000 in
theorem dfit_short (v : Value) (k : List Nat) (hv : Shows (DOR :: G) 1 v k.length (k.map by8)) (hkl : ¬ 64 < k.length) : Fn Tryz.prog (DOR :: G) 227 #[v] (.agg (arr .u8 64 (fun j => (mpad k).getD j 0))) := by
  have hmk : mkey k = k := if_neg hkl
  have hkle := mkey_le k
  rw [hmk] at hkle
  refine Qf1 Tryz.func227 ?_
  refine Qs<|Qp<|(QH 0) fun r1=>Qn<|Qs<|Qp<|(QH 1) fun r2=>Qn<|Qs<|Qs<|Qp<|(Qm)<|(QC hv)<|(QG)<|(Qaf)<|Qn<|(Qcf)<|Qk<|Qs<|Qp ?_
  refine e_sliceA 0 64 (Uu 268) (Uz 5) rfl rfl rfl rfl rfl (by omega) (by omega) (by omega) rfl ?_
  refine (Qm) ?_
  refine e_copyB (i := 1) (Uu 22) (Uz 5) hv seenG rfl rfl rfl (by omega) rfl ?_
  refine Qn<|Qs<|Qp<|(Qd 1) ?_
  refine e_as (congrArg Value.agg (arr_congr (fit_at hmk hkle rfl))) ?_
  refine (Qt 0)<|Qn<|Qr ?_
  exact ⟨_, rfl, .cell (i := 0) rfl rfl (Uu 268) rfl (Uz 268) (arr_size _ _ _)⟩
end Go.Proofs.YthljakcegoohlaaGreatDoor
namespace Go.Proofs.YthljakcegoohlaaGreatDoor
open Go Go.RowKit
theorem djoined2 {G : Mem} (r : Nat) (v1 v2 : Value) (a b : List Nat) (h1 : Shows G 1 v1 a.length (a.map by8)) (h2 : Shows G 1 v2 b.length (b.map by8)) (hr : (⟨r, [v1, v2].toArray, 22⟩ : Blk) ∈ G) (hm : a.length + b.length ≤ 1099511627776) :
    Fx Tryz.prog G [] 179 #[.slice (some ⟨r, 0, none⟩) 2 2] (fun v l1 nw => l1 = [] ∧ ∃ v', v = v' ∧ OwnS 5 1 v' (a ++ b).length ((a ++ b).map by8) nw) := by
  have h := djoined_fn (G := G) (.slice (some ⟨r, 0, none⟩) 2 2) [v1, v2] [a, b] ((shows_new (r := r) (len := 2) (z := 1) [v1, v2].toArray 22 rfl).mono (fun x hx => by simp at hx; subst hx; exact hr)) (showsL_cons h1 (showsL_cons h2 (showsL_nil _))) (Nat.le_of_ble_eq_true rfl) (by simp; omega)
  have e : [a, b].flatten = a ++ b := by simp
  rw [e] at h
  exact h
theorem dfit_fn {G : Mem} (v : Value) (k : List Nat) (hv : Shows (DOR :: G) 1 v k.length (k.map by8)) (hb : ∀ b ∈ k, b < 256) (hz : k.length ≤ 1073741824) : Fn Tryz.prog (DOR :: G) 227 #[v] (.agg (arr .u8 64 (fun j => (mpad k).getD j 0))) := by
  by_cases h : 64 < k.length
  · exact dfit_long v k hv hb hz h
  · exact dfit_short v k hv h
theorem dsum7 {G X : Mem} (v : Value) (l : List Nat) (hv : Shows X 1 v l.length (l.map by8)) (hlb : ∀ b ∈ l, b < 256) (hz : l.length ≤ 1073741824) : Fn Tryz.prog ((DOR :: G) ++ X) 91 #[v] (.agg (arr .u8 32 (bsum l))) :=
  dsum6_fn (G := G ++ X) v l (hv.mono fun _ h => List.mem_cons_of_mem _ (List.mem_append_right _ h)) hlb hz
theorem xap_lt {p s : List Nat} {c : Nat} (h : ∀ b ∈ s, b < 256) : ∀ b ∈ xorl p c ++ s, b < 256 := fun b hb => (List.mem_append.1 hb).elim (xorl_lt p c b) (h b)
variable {G : Mem}
set_option maxHeartbeats 4000000 in
theorem dmac7_fn (vk vs : Value) (k s : List Nat) (hvk : Shows (DOR :: G) 1 vk k.length (k.map by8)) (hvs : Shows (DOR :: G) 1 vs s.length (s.map by8)) (hk : ∀ b ∈ k, b < 256) (hb : ∀ b ∈ s, b < 256) (hkm : k.length ≤ 1073741824) (hs : s.length ≤ 1073741760) : Fn Tryz.prog (DOR :: G) 178 #[vk, vs] (.agg (arr .u8 32 (mac k s))) := by
  obtain ⟨P, hPe⟩ : ∃ P, P = mpad k := ⟨_, rfl⟩
  have hP : P.length = 64 := by rw [hPe]; exact mpad_len k
  have hFit := dfit_fn (G := G) vk k hvk hk hkm
  rw [← hPe] at hFit
  obtain ⟨g, hg⟩ : ∃ g, g = bsum (xorl P 54 ++ s) := ⟨_, rfl⟩
  have hgl : bsl (xorl P 54 ++ s) = (List.range 32).map g := by rw [hg]; rfl
  have hmc : bsum (xorl P 92 ++ (List.range 32).map g) = mac k s := by rw [← hgl, hPe]; rfl
  have hgb : ∀ b ∈ (List.range 32).map g, b < 256 := by rw [← hgl]; exact bsl_lt _
  have hg32 : ((List.range 32).map g).length = 32 := by simp
  have hx5 := xorl_len P 54
  have hx9 := xorl_len P 92
  refine Qf1 Tryz.func178 ?_
  refine Qs<|Qp<|(QH 0) fun r1=>Qn<|Qs<|Qp<|(Qm) ?_
  refine e_call rfl (Un 227) hFit rfl rfl ?_
  refine (QH 1) fun r2=>(Qt 1)<|Qn<|Qs<|QR ⟨[], 4, [], none⟩<|(Qd 1) ?_
  refine e_callN 2 (fun v => v) rfl rfl (Un 228) seenG (dturned_fn P 54 hP) (by decide) (by rw [List.length_map, xorl_len, hP]) rfl rfl fun v1_1 oz1_1 ho1_1 => ?_
  refine (Qm) ?_
  refine e_buildSl 3 [v1_1, vs].toArray (Uu 198 rfl) (Uz 22 rfl) (Ub 22 rfl) (by decide) (by decide) rfl (fill_ones [v1_1, vs] 0 _ (by intro v hv; simp only [List.mem_cons, List.not_mem_nil, or_false] at hv; rcases hv with rfl | rfl; exact (shows_one ho1_1.shows); exact (shows_one hvs)) (by simp)) rfl fun r4 => ?_
  refine e_callN 4 (fun v => v) rfl rfl (Un 179) (seen_app seenG (seen_app (seenM 2 rfl ⟨[], trivial⟩) (seen1 3 rfl ⟨[], trivial⟩))) (djoined2 (G := ((DOR :: G) ++ (oz1_1.toList ++ [(⟨r4, [v1_1, vs].toArray, 22⟩ : Blk)]))) r4 v1_1 vs (xorl P 54) s (Shows.mono (own_bytes ho1_1) (fun x h => (List.mem_append_right _ (List.mem_append_left _ h)))) (Shows.mono hvs (fun x h => (List.mem_append_left _ h))) (List.mem_append_right _ (List.mem_append_right _ (List.mem_singleton.2 rfl))) (by rw [xorl_len]; omega)) (by rw [List.length_append]; simp only [maxLen]; omega) (by rw [List.length_map, Nat.mul_one]) rfl rfl fun v1_2 oz1_2 ho1_2 => ?_
  refine e_callS rfl rfl (Un 91) (seen_app seenG (seenM 4 rfl ⟨[], trivial⟩)) (dsum7 (G := G) (X := oz1_2.toList) v1_2 (xorl P 54 ++ s) (own_bytes ho1_2) (xap_lt hb) (by rw [List.length_append, xorl_len]; omega)) rfl rfl ?_
  refine e_as (congrArg (fun f => Value.agg (arr .u8 32 f)) hg.symm) ?_
  refine (QH 5) fun r6=>(Qt 5)<|Qn<|Qs<|(Qq ⟨[], 4, [], none⟩)<|(Qd 1) ?_
  refine e_callN 6 (fun v => v) rfl rfl (Un 228) seenG (dturned_fn P 92 hP) (by decide) (by rw [List.length_map, xorl_len, hP]) rfl rfl fun v1_3 oz1_3 ho1_3 => ?_
  refine e_sliceA 0 32 (Uu 30) (Uz 5) rfl rfl rfl rfl rfl (by omega) (by omega) (by omega) rfl ?_
  refine e_buildSl 7 [v1_3, (.slice (some ⟨r6, 0, none⟩) 32 32)].toArray (Uu 198 rfl) (Uz 22 rfl) (Ub 22 rfl) (by decide) (by decide) rfl (fill_ones [v1_3, (.slice (some ⟨r6, 0, none⟩) 32 32)] 0 _ (by intro v hv; simp only [List.mem_cons, List.not_mem_nil, or_false] at hv; rcases hv with rfl | rfl; exact (shows_one ho1_3.shows); exact rfl) (by simp)) rfl fun r8 => ?_
  refine e_callN 8 (fun v => v) rfl rfl (Un 179) (seen_app seenG (seen_app (seenM 6 rfl ⟨[], trivial⟩) (seen_app (seen1 5 rfl ⟨[], trivial⟩) (seen1 7 rfl ⟨[], trivial⟩)))) (djoined2 (G := ((DOR :: G) ++ (oz1_3.toList ++ ([(⟨r6, arr .u8 32 g, 30⟩ : Blk)] ++ [(⟨r8, [v1_3, (.slice (some ⟨r6, 0, none⟩) 32 32)].toArray, 22⟩ : Blk)])))) r8 v1_3 (.slice (some ⟨r6, 0, none⟩) 32 32) (xorl P 92) ((List.range 32).map g) (Shows.mono (own_bytes ho1_3) (fun x h => (List.mem_append_right _ (List.mem_append_left _ h)))) (Shows.mono (shows32 r6 g 30) (fun x h => (List.mem_append_right _ (List.mem_append_right _ (List.mem_append_left _ h))))) (List.mem_append_right _ (List.mem_append_right _ (List.mem_append_right _ (List.mem_singleton.2 rfl)))) (by rw [xorl_len]; omega)) (by rw [List.length_append]; simp only [maxLen]; omega) (by rw [List.length_map, Nat.mul_one]) rfl rfl fun v1_4 oz1_4 ho1_4 => ?_
  refine e_callS rfl rfl (Un 91) (seen_app seenG (seenM 8 rfl ⟨[], trivial⟩)) (dsum7 (G := G) (X := oz1_4.toList) v1_4 (xorl P 92 ++ (List.range 32).map g) (own_bytes ho1_4) (xap_lt hgb) (by rw [List.length_append, xorl_len]; omega)) rfl rfl ?_
  refine e_as (congrArg (fun f => Value.agg (arr .u8 32 f)) hmc) ?_
  refine (Qt 0)<|Qn<|Qr ?_
  exact ⟨_, rfl, .cell (i := 0) rfl rfl (Uu 30) rfl (Uz 30) (arr_size _ _ _)⟩
end Go.Proofs.YthljakcegoohlaaGreatDoor
namespace Go.Proofs.YthljakcegoohlaaGreatDoor
open Go Go.RowKit
variable {G : Mem}
end Go.Proofs.YthljakcegoohlaaGreatDoor
namespace Go.Proofs.YthljakcegoohlaaGreatDoor
open Go Go.RowKit
variable {G : Mem}
end Go.Proofs.YthljakcegoohlaaGreatDoor
namespace Go.Proofs.YthljakcegoohlaaGreatDoor
open Go Go.RowKit
variable {G : Mem}
end Go.Proofs.YthljakcegoohlaaGreatDoor
namespace Go.Proofs.YthljakcegoohlaaGreatDoor
open Go Go.RowKit
variable {G : Mem}
end Go.Proofs.YthljakcegoohlaaGreatDoor
namespace Go.Proofs.YthljakcegoohlaaGreatDoor
open Go Go.RowKit
variable {G : Mem}
end Go.Proofs.YthljakcegoohlaaGreatDoor
namespace Go.Proofs.YthljakcegoohlaaGreatDoor
open Go Go.RowKit
variable {G : Mem}
end Go.Proofs.YthljakcegoohlaaGreatDoor
namespace Go.Proofs.YthljakcegoohlaaGreatDoor
open Go Go.RowKit
variable {G : Mem}
end Go.Proofs.YthljakcegoohlaaGreatDoor
namespace Go.Proofs.YthljakcegoohlaaGreatDoor
open Go Go.RowKit
variable {G : Mem}
end Go.Proofs.YthljakcegoohlaaGreatDoor
namespace Go.Proofs.YthljakcegoohlaaGreatDoor
open Go Go.RowKit
variable {G : Mem}
end Go.Proofs.YthljakcegoohlaaGreatDoor
namespace Go.Proofs.YthljakcegoohlaaGreatDoor
open Go Go.RowKit
variable {G : Mem}
end Go.Proofs.YthljakcegoohlaaGreatDoor
namespace Go.Proofs.YthljakcegoohlaaGreatDoor
open Go Go.RowKit
variable {G : Mem}
end Go.Proofs.YthljakcegoohlaaGreatDoor
namespace Go.Proofs.YthljakcegoohlaaGreatDoor
open Go Go.RowKit
variable {G : Mem}
end Go.Proofs.YthljakcegoohlaaGreatDoor
namespace Go.Proofs.YthljakcegoohlaaGreatDoor
open Go Go.RowKit
variable {G : Mem}
end Go.Proofs.YthljakcegoohlaaGreatDoor
namespace Go.Proofs.YthljakcegoohlaaGreatDoor
open Go Go.RowKit
variable {G : Mem}
end Go.Proofs.YthljakcegoohlaaGreatDoor
namespace Go.Proofs.YthljakcegoohlaaGreatDoor
open Go Go.RowKit
theorem fill_three (a b c : Nat → Nat) : Instr.fill (fun i => some (i * 32, 32)) (arr .u8 96 fun _ => 0) [(0, .agg (arr .u8 32 a)), (1, .agg (arr .u8 32 b)), (2, .agg (arr .u8 32 c))] = some (arr .u8 96 (thr3 a b c)) := by kernel_rfl
variable {G : Mem}
end Go.Proofs.YthljakcegoohlaaGreatDoor
