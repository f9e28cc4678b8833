import Derived.Test.YtmhpifphohcfmaaK6
namespace Go.Proofs.Ytmhpifphohcfmaa
open Go Go.RowKit
variable {G : Mem}
set_option maxHeartbeats 400000 in
theorem dprime_fn : Fn Try.prog G 80 #[] (f3 QQ) := by
  refine Qf1 Try.func80 ?_
  refine Qs<|Qp<|(QH 0) fun r1=>Qn<|Qs<|Qp ?_
  refine e_build (arr .u64 3 (wd QQ)) (Ub 106) (Uu 106) (Uz 24) rfl (by kernel_rfl) rfl ?_
  refine (Qt 0)<|Qn<|Qr ?_
  exact ⟨_, rfl, .cell (i := 0) rfl rfl (Uu 106) rfl (Uz 106) (arr_size _ _ _)⟩
set_option maxHeartbeats 400000 in
theorem dpair_fn (f : Nat → Nat) (hf : L8 16 f) : Fn Try.prog G 65 #[.agg (arr .u8 16 f)] (f2 (vb f 16)) := by
  refine Qf1 Try.func65 ?_
  refine Qs<|Qp<|(Qh 0) fun r1=>(QH 1) fun r2=>Qn<|Qs<|Qp<|(QH 2) fun r3=>Qn<|Qs<|Qs<|Qp<|(Qd 0)<|(Qm)<|Qn<|Qb ?_
  refine QzK [(2, _), (3, _), (6, _)] [(0, _), (1, _)] (fun kk E m => ∃ (k : Nat) (s : Nat → Nat), kk = 16 - k ∧ E = [(7, ii k)] ∧ m = [(2, some ⟨r3, arr .u64 2 s, 78⟩)] ∧ (k ≤ 16) ∧ (∀ j, j < 4 → s j = wd (vb f k) j)) ⟨0, fun _ => 0, rfl, rfl, rfl, by omega, fun j _ => by simp [vb, wd]⟩ ⟨rfl, rfl, rfl, rfl, trivial⟩ ⟨rfl, rfl, rfl, trivial⟩ ?_
  rintro kk E m ⟨k, s, rfl, rfl, rfl, hf0_0, hf0_1⟩
  simp only [catE, catL]
  refine Qs<|Qp<|(Ql)<|Qn<|Qs ?_
  refine e_cond rfl ?_ ?_
  · intro hc0
    have hc0 : k < 16 := by have := of_decide_eq_true hc0; omega
    refine Qk<|Qs<|Qb<|Qs<|Qp<|(Qm)<|(QX)<|(Qa)<|(Qa)<|Qn<|(Qg)<|(Qm)<|(Q5 8)<|(Qi)<|(Q1 2)<|(Qm) ?_
    refine e_conv_u (Uu 5) (Uu 24) rfl rfl rfl ?_
    refine (Qm)<|(Q4 8)<|(Q6 8) ?_
    refine e_shl_u rfl rfl rfl (by omega) ?_
    refine e_or_u rfl rfl rfl  ?_
    refine (Qi)<|(Qu 2)<|Qn<|Qp<|(Q2 1)<|(Qm)<|Qn ?_
    refine QzL ⟨k + 1, upd s (k / 8) _, rfl, rfl, rfl, by omega, pair_step (by omega) hf hf0_1⟩ ⟨rfl, rfl, rfl, rfl, trivial⟩ ⟨rfl, rfl, rfl, trivial⟩ ?_
    omega
  · intro hc0
    have hc0 := of_decide_eq_false hc0
    have hz0 : k = 16 := by omega
    subst hz0
    refine Qe<|Qs<|Qp<|(Qd 2)<|(Qt 1)<|Qn<|Qr ?_
    rw [f2_of (fun j hj => hf0_1 j (by omega))]
    exact ⟨_, rfl, .cell (i := 1) rfl rfl (Uu 78) rfl (Uz 78) (arr_size _ _ _)⟩
set_option maxHeartbeats 400000 in
theorem dclamped_fn (r : Nat → Nat) : Fn Try.prog G 66 #[.agg (arr .u64 2 r)] (.agg (arr .u64 2 (clf r))) := by
  refine Qf1 Try.func66 ?_
  refine Qs<|Qp<|(Qh 0) fun r1=>(QH 1) fun r2=>Qn<|Qs<|Qp<|(Qj 0)<|(Q1 0)<|(Q9 1152921487695413247)<|(Qj 1)<|(Q1 0)<|(Q9 1152921487695413244) ?_
  refine e_build (arr .u64 2 (clf r)) (Ub 78) (Uu 78) (Uz 24) rfl rfl rfl ?_
  refine (Qt 1)<|Qn<|Qr ?_
  exact ⟨_, rfl, .cell (i := 1) rfl rfl (Uu 78) rfl (Uz 78) (arr_size _ _ _)⟩
set_option maxHeartbeats 400000 in
theorem dplus_fn (a b : Nat) : Fn Try.prog G 74 #[f3 a, f3 b] (f3 (a + b)) := by
  refine Qf1 Try.func74 ?_
  refine Qs<|Qp<|(Qh 0) fun r1=>(Qh 1) fun r2=>(QH 2) fun r3=>Qn<|Qs<|Qp<|(QH 3) fun r4=>Qn<|Qs<|Qp<|(Qa)<|Qn<|Qs<|Qs<|Qp<|(Qm)<|Qn<|Qb ?_
  refine QzK [(2, _), (3, _), (4, _), (5, _)] [(0, _), (1, _), (2, _)] (fun kk E m => ∃ (k : Nat) (s : Nat → Nat), kk = 3 - k ∧ E = [(6, u (car a b k)), (8, ii k)] ∧ m = [(3, some ⟨r4, arr .u64 3 s, 106⟩)] ∧ (k ≤ 3) ∧ (∀ j, j < k → s j = wd (a + b) j)) ⟨0, fun _ => 0, rfl, rfl, rfl, by omega, fun j hj => absurd hj (Nat.not_lt_zero j)⟩ ⟨by rw [car_zero]; rfl, rfl, rfl, rfl, rfl, rfl, trivial⟩ ⟨rfl, rfl, rfl, rfl, trivial⟩ ?_
  rintro kk E m ⟨k, s, rfl, rfl, rfl, hf0_0, hf0_1⟩
  simp only [catE, catL]
  have hcl := car_le a b k
  refine Qs<|Qp<|(Ql)<|Qn<|Qs ?_
  refine e_cond rfl ?_ ?_
  · intro hc0
    have hc0 : k < 3 := by have := of_decide_eq_true hc0; omega
    refine Qk<|Qs<|Qb<|Qs<|Qp<|(Qm)<|(Qa)<|Qn<|(Qq ⟨[r4], 1, [], none⟩)<|(Qm)<|(Qm)<|(Qi) ?_
    refine e_load1 (i := 0) (Uu 24) rfl rfl rfl (arr_get (by omega)) rfl ⟨[3], rfl, rfl, trivial⟩ ?_
    refine (Qm)<|(Qi) ?_
    refine e_load1 (i := 1) (Uu 24) rfl rfl rfl (arr_get (by omega)) rfl ⟨[3], rfl, rfl, trivial⟩ ?_
    refine (Qm) ?_
    refine e_callE rfl (fun w => add64 _ _ _ (by omega) w) rfl rfl ?_
    refine (Qm)<|(Qx)<|(Qx)<|(Qi) ?_
    refine e_storeN (i := 3) (Uz 24) rfl rfl rfl (by omega) (.inr (by simp)) ?_
    refine (Qa)<|Qn<|Qp<|(Q2 1)<|(Qm)<|Qn ?_
    refine QzL ⟨k + 1, upd s k _, rfl, rfl, rfl, by omega, upd_lt hf0_1 (car_word a b k)⟩ ⟨by rw [← car_next]; rfl, rfl, rfl, rfl, rfl, rfl, trivial⟩ ⟨rfl, rfl, rfl, rfl, trivial⟩ ?_
    omega
  · intro hc0
    have hc0 := of_decide_eq_false hc0
    have hz0 : k = 3 := by omega
    subst hz0
    refine Qe<|Qs<|Qp<|(Qd 3)<|(Qt 2)<|Qn<|Qr ?_
    rw [f3_of hf0_1]
    exact ⟨_, rfl, .cell (i := 2) rfl rfl (Uu 106) rfl (Uz 106) (arr_size _ _ _)⟩
set_option maxHeartbeats 400000 in
theorem dminus_fn (a b : Nat) (ha : a < 2 ^ 192) (hb : b < 2 ^ 192) : Fn Try.prog G 79 #[f3 a, f3 b] (.tuple #[f3 (a + 2 ^ 256 - b), u (if a < b then 1 else 0)]) := by
  have hfin : bor a b 3 = if a < b then 1 else 0 := by
    unfold bor
    rw [Nat.mod_eq_of_lt (show a < 2 ^ (64 * 3) from ha), Nat.mod_eq_of_lt (show b < 2 ^ (64 * 3) from hb)]
  refine Qf2 Try.func79 ?_
  refine Qs<|Qp<|(Qh 0) fun r1=>(Qh 1) fun r2=>(QH 2) fun r3=>(Qa)<|Qn<|Qs<|Qp<|(QH 3) fun r4=>Qn<|Qs<|Qp<|(Qa)<|Qn<|Qs<|Qs<|Qp<|(Qm)<|Qn<|Qb ?_
  refine QzK [(2, _), (3, _), (4, _), (5, _), (6, _)] [(0, _), (1, _), (2, _)] (fun kk E m => ∃ (k : Nat) (s : Nat → Nat), kk = 3 - k ∧ E = [(7, u (bor a b k)), (9, ii k)] ∧ m = [(3, some ⟨r4, arr .u64 3 s, 106⟩)] ∧ (k ≤ 3) ∧ (∀ j, j < k → s j = wd (a + 2 ^ 256 - b) j)) ⟨0, fun _ => 0, rfl, rfl, rfl, by omega, fun j hj => absurd hj (Nat.not_lt_zero j)⟩ ⟨by rw [bor_zero]; rfl, rfl, rfl, rfl, rfl, rfl, rfl, trivial⟩ ⟨rfl, rfl, rfl, rfl, trivial⟩ ?_
  rintro kk E m ⟨k, s, rfl, rfl, rfl, hf0_0, hf0_1⟩
  simp only [catE, catL]
  have hcl := bor_le a b k
  have hwl := wd_lt b k
  refine Qs<|Qp<|(Ql)<|Qn<|Qs ?_
  refine e_cond rfl ?_ ?_
  · intro hc0
    have hc0 : k < 3 := by have := of_decide_eq_true hc0; omega
    refine Qk<|Qs<|Qb<|Qs<|Qp<|(Qm)<|(Qa)<|Qn<|(Qq ⟨[r4], 1, [], none⟩)<|(Qm)<|(Qm)<|(Qi) ?_
    refine e_load1 (i := 0) (Uu 24) rfl rfl rfl (arr_get (by omega)) rfl ⟨[3], rfl, rfl, trivial⟩ ?_
    refine (Qm)<|(Qi) ?_
    refine e_load1 (i := 1) (Uu 24) rfl rfl rfl (arr_get (by omega)) rfl ⟨[3], rfl, rfl, trivial⟩ ?_
    refine (Qm) ?_
    refine e_callE rfl (fun w => sub64 _ _ _ (by omega) (by omega) w) rfl rfl ?_
    refine (Qm)<|(Qx)<|(Qx)<|(Qi) ?_
    refine e_storeN (i := 3) (Uz 24) rfl rfl rfl (by omega) (.inr (by simp)) ?_
    refine (Qa)<|Qn<|Qp<|(Q2 1)<|(Qm)<|Qn ?_
    refine QzL ⟨k + 1, upd s k _, rfl, rfl, rfl, by omega, upd_lt hf0_1 (bor_word a b k (by omega) (by omega))⟩ ⟨by rw [← bor_next]; rfl, rfl, rfl, rfl, rfl, rfl, rfl, trivial⟩ ⟨rfl, rfl, rfl, rfl, trivial⟩ ?_
    omega
  · intro hc0
    have hc0 := of_decide_eq_false hc0
    have hz0 : k = 3 := by omega
    subst hz0
    refine Qe<|Qs<|Qp<|(Qd 3)<|(Qm)<|(Qt 2)<|(Qa)<|Qn<|Qr ?_
    rw [← hfin, f3_of hf0_1]
    exact ⟨_, _, rfl, .cell (i := 2) rfl rfl (Uu 106) rfl (Uz 106) (arr_size _ _ _), .tmp rfl⟩
set_option maxHeartbeats 400000 in
theorem dbelow_fn (a : Nat) (ha : a < 2 ^ 192) : Fn Try.prog G 72 #[f3 a] (.bool (decide (a < QQ))) := by
  have hQQ := QQ_eq
  refine Qf1 Try.func72 ?_
  refine Qs<|Qp<|(Qh 0) fun r1=>(Qa)<|Qn<|Qs<|(Qg)<|(Qd 0) ?_
  refine e_call rfl (Un 80) dprime_fn rfl rfl ?_
  refine e_call rfl (Un 79) (dminus_fn _ _ (by omega) (by omega)) rfl rfl ?_
  refine (Qm)<|(Qx)<|(Qx)<|(QH 1) fun r2=>(Qt 1)<|(Qa)<|Qn<|Qs<|Qp<|(Qm)<|(Qc) ?_
  refine e_as (lt_bool _ _) ?_
  refine (Qa)<|Qn<|Qr ?_
  exact ⟨_, rfl, .tmp rfl⟩
set_option maxHeartbeats 400000 in
theorem dtimes_fn (a n : Nat) (hn : n ≤ 1) : Fn Try.prog G 83 #[f3 a, u n] (f3 (a * n)) := by
  refine Qf1 Try.func83 ?_
  refine Qs<|Qp<|(Qh 0) fun r1=>(QH 1) fun r2=>Qn<|Qs<|Qs<|Qp<|(Qm)<|Qn<|Qb ?_
  refine QzK [(1, _), (2, _), (4, _)] [(1, _)] (fun kk E m => ∃ (k : Nat) (s : Nat → Nat), kk = 3 - k ∧ E = [(6, ii k)] ∧ m = [(0, some ⟨r1, arr .u64 3 s, 106⟩)] ∧ (k ≤ 3) ∧ (∀ j, j < k → s j = wd (a * n) j) ∧ (∀ j, k ≤ j → s j = wd a j)) ⟨0, wd a, rfl, rfl, rfl, by omega, fun j hj => absurd hj (Nat.not_lt_zero j), fun j _ => rfl⟩ ⟨rfl, rfl, rfl, rfl, trivial⟩ ⟨rfl, rfl, trivial⟩ ?_
  rintro kk E m ⟨k, s, rfl, rfl, rfl, hf0_0, hf0_1, hf0_2⟩
  simp only [catE, catL]
  refine Qs<|Qp<|(Ql)<|Qn<|Qs ?_
  refine e_cond rfl ?_ ?_
  · intro hc0
    have hc0 : k < 3 := by have := of_decide_eq_true hc0; omega
    refine Qk<|Qs<|Qb<|Qs<|Qp<|(Qm)<|(Qa)<|Qn<|Qp<|(Qm)<|(Qi)<|(Q1 0)<|(Qm) ?_
    refine e_neg_u rfl rfl (by omega) ?_
    refine e_and_u rfl rfl rfl  ?_
    refine (Qi)<|(Qu 0)<|Qn<|Qp<|(Q2 1)<|(Qm)<|Qn ?_
    refine QzL ⟨k + 1, upd s k _, rfl, rfl, rfl, by omega, upd_lt hf0_1 (by rw [hf0_2 k (Nat.le_refl k)]; exact wd_mul01 a n k hn), upd_ge hf0_2⟩ ⟨rfl, rfl, rfl, rfl, trivial⟩ ⟨rfl, rfl, trivial⟩ ?_
    omega
  · intro hc0
    have hc0 := of_decide_eq_false hc0
    have hz0 : k = 3 := by omega
    subst hz0
    refine Qe<|Qs<|Qp<|(Qd 0)<|(Qt 1)<|Qn<|Qr ?_
    rw [f3_of hf0_1]
    exact ⟨_, rfl, .cell (i := 1) rfl rfl (Uu 106) rfl (Uz 106) (arr_size _ _ _)⟩
set_option maxHeartbeats 400000 in
theorem mul64_fn (x y : Nat) (hx : x < 18446744073709551616) (hy : y < 18446744073709551616) : Fn Try.prog G 86 #[u x, u y] (.tuple #[u (x * y / 18446744073709551616), u (x * y % 18446744073709551616)]) := by
  refine Qf2 Try.func86 ?_
  refine Qs<|Qp<|(Qa)<|(Qa)<|Qn<|Qs<|Qp<|(Qm)<|(Q9 4294967295)<|(Qa)<|Qn<|Qs<|Qp<|(Qm)<|(Q8 32)<|(Qa)<|Qn<|Qs<|Qp<|(Qm)<|(Q9 4294967295)<|(Qa)<|Qn<|Qs<|Qp<|(Qm)<|(Q8 32)<|(Qa)<|Qn<|Qs<|Qp<|(Qm)<|(Qm) ?_
  refine e_mul_u rfl rfl rfl  ?_
  refine (Qa)<|Qn<|Qs<|Qp<|(Qm)<|(Qm) ?_
  refine e_mul_u rfl rfl rfl  ?_
  refine (Qm)<|(Q8 32) ?_
  refine e_add_u rfl rfl rfl  ?_
  refine (Qa)<|Qn<|Qs<|Qp<|(Qm)<|(Q9 4294967295)<|(Qa)<|Qn<|Qs<|Qp<|(Qm)<|(Q8 32)<|(Qa)<|Qn<|Qs<|Qp<|(Qm)<|(Qm)<|(Qm) ?_
  refine e_mul_u rfl rfl rfl  ?_
  refine e_add_u rfl rfl rfl  ?_
  refine (Qa)<|Qn<|Qs<|Qp<|(Qm)<|(Qm) ?_
  refine e_mul_u rfl rfl rfl  ?_
  refine (Qm) ?_
  refine e_add_u rfl rfl rfl  ?_
  refine (Qm)<|(Q8 32) ?_
  refine e_add_u rfl rfl rfl  ?_
  refine (Qa)<|Qn<|Qs<|Qp<|(Qm)<|(Qm) ?_
  refine e_mul_u rfl rfl rfl  ?_
  refine (Qa)<|Qn<|Qr ?_
  rw [← mul64_hi x y hx hy]
  exact ⟨_, _, rfl, .tmp rfl, .tmp rfl⟩
set_option maxHeartbeats 400000 in
theorem dstep_fn (a b c d : Nat) (ha : a < 18446744073709551616) (hb : b < 18446744073709551616) (hc : c < 18446744073709551616) (hd : d < 18446744073709551616) : Fn Try.prog G 82 #[u a, u b, u c, u d] (.tuple #[u ((a * b + c + d) % 18446744073709551616), u ((a * b + c + d) / 18446744073709551616)]) := by
  have hp := prod_lt ha hb
  refine Qf2 Try.func82 ?_
  refine Qs<|Qp<|(Qa)<|(Qa)<|Qn<|Qs<|Qp<|(Qm)<|(Qm) ?_
  refine e_call rfl (Un 86) (mul64_fn _ _ (by omega) (by omega)) rfl rfl ?_
  refine (Qm)<|(Qx)<|(Qx)<|(Qa)<|(Qa)<|Qn<|Qs<|Qp<|(Qm)<|(Qm) ?_
  refine e_callE rfl (fun w => add64 _ _ 0 (by omega) w) rfl rfl ?_
  refine (Qm)<|(Qx)<|(Qx)<|(Qa)<|(Qa)<|Qn<|Qs<|Qp<|(Qm)<|(Qm) ?_
  refine e_add_u rfl rfl rfl  ?_
  refine (Qa)<|Qn<|Qs<|Qp<|(Qm)<|(Qm) ?_
  refine e_callE rfl (fun w => add64 _ _ 0 (by omega) w) rfl rfl ?_
  refine (Qm)<|(Qx)<|(Qx)<|(Qa)<|(Qa)<|Qn<|Qs<|Qp<|(Qm)<|(Qm)<|(Qm) ?_
  refine e_add_u rfl rfl rfl  ?_
  refine (Qa)<|(Qa)<|Qn<|Qr ?_
  rw [← step_lo, ← step_hi _ _ _ hp hc hd]
  exact ⟨_, _, rfl, .tmp rfl, .tmp rfl⟩
set_option maxHeartbeats 400000 in
theorem dwide_fn (a b : Nat) (ha : a < 2 ^ 192) (hb : b < 2 ^ 128) : Fn Try.prog G 81 #[f3 a, f2 b] (.agg (arr .u64 5 (wd (a * b)))) := by
  refine Qf1 Try.func81 ?_
  refine Qs<|Qp<|(Qh 0) fun r1=>(Qh 1) fun r2=>(QH 2) fun r3=>Qn<|Qs<|Qp<|(QH 3) fun r4=>Qn<|Qs<|Qs<|Qp<|(Qm)<|Qn<|Qb ?_
  refine QzK [(2, _), (3, _), (4, _), (5, _)] [(0, _), (1, _), (2, _)] (fun kk E m => ∃ (k : Nat) (s : Nat → Nat), kk = 3 - k ∧ E = [(9, ii k)] ∧ m = [(3, some ⟨r4, arr .u64 5 s, 109⟩)] ∧ (k ≤ 3) ∧ (∀ t, t < 5 → s t = wd (a % 2 ^ (64 * k) * b) t)) ⟨0, fun _ => 0, rfl, rfl, rfl, by omega, fun t _ => by simp [Nat.mod_one, wd]⟩ ⟨rfl, rfl, rfl, rfl, rfl, trivial⟩ ⟨rfl, rfl, rfl, rfl, trivial⟩ ?_
  rintro kk E m ⟨k, s, rfl, rfl, rfl, hf0_0, hf0_1⟩
  simp only [catE, catL]
  refine Qs<|Qp<|(Ql)<|Qn<|Qs ?_
  refine e_cond rfl ?_ ?_
  · intro hc0
    have hc0 : k < 3 := by have := of_decide_eq_true hc0; omega
    refine Qk<|Qs<|Qb<|Qs<|Qp<|(Qm)<|(Qa)<|Qn<|Qs<|Qp<|(Qa)<|Qn<|Qs<|Qs<|Qp<|(Qm)<|Qn<|Qb ?_
    refine QzK [(2, _), (3, _), (4, _), (5, _), (6, _), (9, _)] [(0, _), (1, _), (2, _)] (fun kk E m => ∃ (j : Nat) (s2 : Nat → Nat), kk = 2 - j ∧ E = [(7, u (wO a b k j)), (12, ii j)] ∧ m = [(3, some ⟨r4, arr .u64 5 s2, 109⟩)] ∧ (j ≤ 2) ∧ (∀ t, t < k + j → s2 t = wd (wS a b k j) t) ∧ (∀ t, k + j ≤ t → t < 5 → s2 t = wd (a % 2 ^ (64 * k) * b) t)) ⟨0, s, rfl, rfl, rfl, by omega, fun t ht => (hf0_1 t (by omega)).trans (wS_zero a b k t (by omega)).symm, fun t _ ht => hf0_1 t ht⟩ ⟨by rw [wO_zero]; rfl, rfl, rfl, rfl, rfl, rfl, rfl, rfl, trivial⟩ ⟨rfl, rfl, rfl, rfl, trivial⟩ ?_
    rintro kk E m ⟨j, s2, rfl, rfl, rfl, hf1_0, hf1_1, hf1_2⟩
    simp only [catE, catL]
    have ha1 := wd_lt a k
    have hb1 := wd_lt b j
    have ho1 := wO_lt a b k j (by omega)
    have hs2 : j < 2 → s2 (k + j) = wd (a % 2 ^ (64 * k) * b) (k + j) := fun h => hf1_2 (k + j) (by omega) (by omega)
    refine Qs<|Qp<|(Ql)<|Qn<|Qs ?_
    refine e_cond rfl ?_ ?_
    · intro hc1
      have hc1 : j < 2 := by have := of_decide_eq_true hc1; omega
      refine Qk<|Qs<|Qb<|Qs<|Qp<|(Qm)<|(Qa)<|Qn<|(Qg)<|(Qm)<|(Qm)<|(Q3)<|(Qm)<|(Qi)<|(Q1 0)<|(Qm)<|(Qi)<|(Q1 1)<|(Qm)<|(Qm)<|(Q3)<|(Qi)<|(Q1 3)<|(Qm) ?_
      have hs3 := wd_lt (a % 2 ^ (64 * k) * b) (k + j); have hs4 := hs2 hc1
      refine e_call rfl (Un 82) (dstep_fn _ _ _ _ (by omega) (by omega) (by omega) (by omega)) rfl rfl ?_
      refine (Qm)<|(Qx)<|(Qx)<|(Qi)<|(Qu 3)<|(Qa)<|Qn<|Qp<|(Q2 1)<|(Qm)<|Qn ?_
      refine QzL ⟨j + 1, upd s2 (k + j) _, rfl, rfl, rfl, by omega, by rw [hs2 hc1]; exact inner_low hf1_1, fun t h1 h2 => by rw [← hf1_2 t (by omega) h2]; unfold upd; rw [if_neg (by omega)]⟩ ⟨by rw [← wide_hi, ← hs2 hc1]; rfl, rfl, rfl, rfl, rfl, rfl, rfl, rfl, trivial⟩ ⟨rfl, rfl, rfl, rfl, trivial⟩ ?_
      omega
    · intro hc1
      have hc1 := of_decide_eq_false hc1
      have hz1 : j = 2 := by omega
      subst hz1
      refine Qe<|Qp<|(Qm)<|(Q2 2)<|(Qm)<|(Qi)<|(Qu 3)<|Qn<|Qp<|(Q2 1)<|(Qm)<|Qn ?_
      refine QzL ⟨k + 1, upd s2 (k + 2) _, rfl, rfl, rfl, by omega, outer_row2 hb hf1_1 hf1_2⟩ ⟨rfl, rfl, rfl, rfl, rfl, trivial⟩ ⟨rfl, rfl, rfl, rfl, trivial⟩ ?_
      omega
  · intro hc0
    have hc0 := of_decide_eq_false hc0
    have hz0 : k = 3 := by omega
    subst hz0
    refine Qe<|Qs<|Qp<|(Qd 3)<|(Qt 2)<|Qn<|Qr ?_
    rw [Nat.mod_eq_of_lt (show a < 2 ^ (64 * 3) from ha)] at hf0_1
    rw [← arr_congr hf0_1]
    exact ⟨_, rfl, .cell (i := 2) rfl rfl (Uu 109) rfl (Uz 109) (arr_size _ _ _)⟩
end Go.Proofs.Ytmhpifphohcfmaa
namespace Go.Proofs.Ytmhpifphohcfmaa
open Go Go.RowKit
variable {G : Mem}
set_option maxHeartbeats 2000000 in
theorem dproduct_fn (a b : Nat) (ha : a < 2 ^ 131) (hb : b < 2 ^ 124) : Fn Try.prog G 73 #[f3 a, f2 b] (f3 (a * b % QQ)) := by
  obtain ⟨x, hx⟩ : ∃ x, x = a * b := ⟨_, rfl⟩
  have hx2 : x < 2 ^ 255 := by rw [hx]; exact Nat.lt_of_le_of_lt (Nat.mul_le_mul (Nat.le_of_lt_succ ha) (Nat.le_of_lt hb)) (by decide)
  obtain ⟨L, hL⟩ : ∃ L, L = x % 2 ^ 130 := ⟨_, rfl⟩
  obtain ⟨H, hH⟩ : ∃ H, H = x / 2 ^ 130 := ⟨_, rfl⟩
  have hL2 : L < 2 ^ 130 := by rw [hL]; exact Nat.mod_lt _ (by decide)
  have hH2 : H < 2 ^ 125 := by omega
  have hQQ := QQ_eq
  obtain ⟨S, hS⟩ : ∃ S, S = L + 5 * H := ⟨_, rfl⟩
  have hS2 : S < 2 ^ 192 := by omega
  obtain ⟨t, ht⟩ : ∃ t, t = (if S < QQ then 1 else 0) := ⟨_, rfl⟩
  have ht1 : t ≤ 1 := by rw [ht]; split <;> omega
  refine Qf1 Try.func73 ?_
  refine Qs<|Qp<|(Qh 0) fun r1=>(Qh 1) fun r2=>(QH 2) fun r3=>Qn<|Qs<|Qp<|(Qd 0)<|(Qd 1) ?_
  refine e_call rfl (Un 81) (dwide_fn a b (by omega) (by omega)) rfl rfl ?_
  refine e_as (congrArg (fun z => Value.agg (arr .u64 5 (wd z))) hx.symm) ?_
  refine (QH 3) fun r4=>(Qt 3)<|Qn<|Qs<|Qp<|(Qj 2)<|(Q1 3)<|(Q8 2)<|(Qj 3)<|(Q1 3) ?_
  refine e_shl_u (s := 62) rfl rfl rfl (by omega) ?_
  refine e_or_u rfl rfl rfl  ?_
  refine e_as (congrArg u ((hi0 x).trans (by rw [← hH]))) ?_
  refine (Qj 3)<|(Q1 3)<|(Q8 2) ?_
  refine e_as (congrArg u ((hi1 hx2).trans (by rw [← hH]))) ?_
  refine e_build (arr .u64 2 (wd H)) (Ub 78) (Uu 78) (Uz 24) rfl rfl rfl ?_
  refine (QH 4) fun r5=>(Qt 4)<|Qn<|Qs<|Qp<|(Qj 0)<|(Q1 3) ?_
  refine e_as (congrArg u ((lo0 x).trans (by rw [← hL]))) ?_
  refine (Qj 1)<|(Q1 3) ?_
  refine e_as (congrArg u ((lo1 x).trans (by rw [← hL]))) ?_
  refine (Qj 2)<|(Q1 3)<|(Q9 3) ?_
  refine e_as (congrArg u ((lo2 x).trans (by rw [← hL]))) ?_
  refine e_build (arr .u64 3 (wd L)) (Ub 106) (Uu 106) (Uz 24) rfl rfl rfl ?_
  refine (QH 5) fun r6=>(Qt 5)<|Qn<|Qs<|Qp<|(Qa)<|Qn<|Qs<|Qs<|Qp<|(Qm)<|Qn<|Qb ?_
  refine QzK [(4, _), (6, _), (7, _)] [(0, _), (1, _), (2, _), (3, _), (4, _)] (fun kk E m => ∃ (k : Nat) (s : Nat → Nat), kk = 2 - k ∧ E = [(8, u (qS L H k / 2 ^ (64 * k))), (34, ii k)] ∧ m = [(5, some ⟨r6, arr .u64 3 s, 106⟩)] ∧ (k ≤ 2) ∧ (∀ t, t < k → s t = wd (qS L H k) t) ∧ (∀ t, k ≤ t → s t = wd L t)) ⟨0, wd L, rfl, rfl, rfl, by omega, fun t ht => absurd ht (Nat.not_lt_zero t), fun t _ => rfl⟩ ⟨by rw [qS_zero]; rfl, rfl, rfl, rfl, rfl, trivial⟩ ⟨rfl, rfl, rfl, rfl, rfl, rfl, trivial⟩ ?_
  rintro kk E m ⟨k, s, rfl, rfl, rfl, hf0_0, hf0_1, hf0_2⟩
  simp only [catE, catL]
  have hw1 := wd_lt H k
  have hw2 := wd_lt L k
  have hov := qS_lt L H k
  have hsk := hf0_2 k (Nat.le_refl k)
  refine Qs<|Qp<|(Ql)<|Qn<|Qs ?_
  refine e_cond rfl ?_ ?_
  · intro hc0
    have hc0 : k < 2 := by have := of_decide_eq_true hc0; omega
    refine Qk<|Qs<|Qb<|Qs<|Qp<|(Qm)<|(Qa)<|Qn<|(Qg)<|(Qm)<|(Qm)<|(Qi)<|(Q1 4)<|(Qm)<|(Qi)<|(Q1 5)<|(Qm) ?_
    refine e_call rfl (Un 82) (dstep_fn _ 5 _ _ (by omega) (by omega) (by omega) (by omega)) rfl rfl ?_
    refine (Qm)<|(Qx)<|(Qx)<|(Qi)<|(Qu 5)<|(Qa)<|Qn<|Qp<|(Q2 1)<|(Qm)<|Qn ?_
    refine QzL ⟨k + 1, upd s k _, rfl, rfl, rfl, by omega, qS_low (hf0_2 k (Nat.le_refl k)) hf0_1, upd_ge hf0_2⟩ ⟨by rw [← qS_hi, ← hsk]; rfl, rfl, rfl, rfl, rfl, trivial⟩ ⟨rfl, rfl, rfl, rfl, rfl, rfl, trivial⟩ ?_
    omega
  · intro hc0
    have hc0 := of_decide_eq_false hc0
    have hz0 : k = 2 := by omega
    subst hz0
    refine Qe<|Qs<|Qp<|(Qj 2)<|(Q1 5)<|(Qm) ?_
    refine e_add_u rfl rfl rfl  ?_
    refine e_as (congrArg u (Nat.mod_eq_of_lt (show s 2 + qS L H 2 / 2 ^ (64 * 2) < 18446744073709551616 by have := hf0_2 2 (Nat.le_refl 2); have h4 : wd L 2 < 4 := wd2_lt hL2; omega))) ?_
    refine (Qj 2)<|(Qu 5)<|Qn<|Qs<|(Qg)<|(Qd 5) ?_
    refine e_as (show _ = f3 S by rw [hS]; exact (f3_of (qS_end hL2 hH2 hf0_1 hf0_2)).symm) ?_
    refine e_call rfl (Un 80) dprime_fn rfl rfl ?_
    refine e_call rfl (Un 79) (dminus_fn _ _ (by omega) (by omega)) rfl rfl ?_
    refine (Qm)<|(Qx)<|(Qx) ?_
    refine e_as (congrArg u ht.symm) ?_
    refine (QH 6) fun r7=>(Qt 6)<|(Qa)<|Qn<|Qs<|(Qg)<|(Qd 6) ?_
    refine e_call rfl (Un 80) dprime_fn rfl rfl ?_
    refine (Qm) ?_
    refine e_call rfl (Un 83) (dtimes_fn _ _ (by omega)) rfl rfl ?_
    refine e_call rfl (Un 74) (dplus_fn _ _) rfl rfl ?_
    refine (Qt 2)<|Qn<|Qr ?_
    rw [ht, ← hx, f3_of (prod5_fin (S := S) hx2 (by rw [hS, hL, hH]))]
    exact ⟨_, rfl, .cell (i := 2) rfl rfl (Uu 106) rfl (Uz 106) (arr_size _ _ _)⟩
end Go.Proofs.Ytmhpifphohcfmaa
namespace Go.Proofs.Ytmhpifphohcfmaa
open Go Go.RowKit
variable {G : Mem}
set_option maxHeartbeats 2000000 in
theorem dtake_fn (r p : Nat → Nat) (A : Nat) (h : Nat → Nat) (n : Nat) (hr0 : r 0 < 18446744073709551616) (hr1 : r 1 < 18446744073709551616) (hR : k3 r < 2 ^ 124) (hA : A < 2 ^ 130) (hn : n ≤ 16) (hh : L8 16 h) (hz : ∀ j, n ≤ j → j < 16 → h j = 0) : Fn Try.prog G 64 #[PV r p (wd A) h n] (PV r p (wd (pst (k3 r) A ((List.range n).map h))) (fun _ => 0) ((0 : Nat) : Int)) := by
  obtain ⟨V, hV⟩ : ∃ V, V = vb h 16 := ⟨_, rfl⟩
  obtain ⟨B, hB⟩ : ∃ B, B = leN ((List.range n).map h ++ [1]) := ⟨_, rfl⟩
  have hB2 : B < 2 * 2 ^ 128 := by rw [hB]; exact bl_small (fun b hb => by obtain ⟨j, hj, rfl⟩ := List.mem_map.1 hb; exact hh j (by have := List.mem_range.1 hj; omega)) (by simp; exact hn)
  have hps : (A + B) * k3 r % QQ = pst (k3 r) A ((List.range n).map h) := by unfold pst; rw [← hB, Nat.mod_mul_mod]
  refine Qf1 Try.func64 ?_
  refine Qs<|Qp<|(Qh 0) fun r1=>(QH 1) fun r2=>Qn<|Qs<|Qp<|(Qf 7)<|(Qv 3 0) ?_
  refine e_call rfl (Un 65) (dpair_fn h hh) rfl rfl ?_
  refine e_as (congrArg f2 hV.symm) ?_
  refine (QH 2) fun r3=>(Qt 2)<|Qn<|Qs<|Qp<|(Qj 0)<|(Q1 2)<|(Qj 1)<|(Q1 2) ?_
  refine e_build (arr .u64 3 (upd (wd V) 2 0)) (Ub 106) (Uu 106) (Uz 24) rfl rfl rfl ?_
  refine (QH 3) fun r4=>(Qt 3)<|Qn<|Qs<|(Qg)<|(Qf 23)<|(QV 4 0)<|(Q5 8)<|(Qi)<|(Q1 3)<|(Qf 23)<|(QV 4 0)<|(Q4 8)<|(Q6 8) ?_
  refine e_shl_u (p := 1) rfl rfl rfl (by omega) ?_
  refine e_or_u rfl rfl rfl  ?_
  refine (Qi)<|(Qu 3)<|Qn<|Qs<|(Qg)<|(Qf 4)<|(Qv 2 0)<|(Qd 3) ?_
  refine e_as (show _ = f3 B from (f3_of (held_one hh hz hn hV hB)).symm) ?_
  refine e_call rfl (Un 74) (dplus_fn _ _) rfl rfl ?_
  refine (Qf 0)<|(Qv 0 0) ?_
  refine e_as (f2_of (wd_k3 hr0 hr1)).symm ?_
  refine e_call rfl (Un 73) (dproduct_fn (A + B) (k3 r) (by omega) hR) rfl rfl ?_
  refine e_as (congrArg f3 hps) ?_
  refine (Qf 4) ?_
  refine e_stC (i := 0) 2 (Uz 79) rfl rfl rfl rfl (by decide) (.inl rfl) ?_
  refine Qn<|Qs<|Qp ?_
  refine e_build0 (Ub 59) (Uu 59) sis5 rfl ?_
  refine (Qf 7) ?_
  refine e_stC (i := 0) 3 (Uz 59) rfl rfl rfl rfl (by decide) (.inl rfl) ?_
  refine (Qf 23) ?_
  refine e_stV (i := 0) 4 (Uz 3) rfl rfl rfl rfl rfl (by decide) (.inl rfl) ?_
  refine Qn<|Qs<|Qp<|(QD 0) ?_
  refine e_as (show _ = PV r p (wd (pst (k3 r) A ((List.range n).map h))) (fun _ => 0) ((0 : Nat) : Int) from rfl) ?_
  refine e_storeA (i := 1) (Uz 81) rfl rfl (arrv_size _ _) (cells_one ⟨fun _ => rfl, fun _ => rfl, fun _ => rfl, fun _ => rfl, fun _ => rfl, trivial⟩) rfl cells_sz (.inl rfl) ?_
  refine Qn<|Qr ?_
  exact ⟨_, rfl, .cell (i := 1) rfl rfl (Uu 81) rfl (Uz 81) (arrv_size _ _)⟩
set_option maxHeartbeats 2000000 in
theorem dpad_fn (r p : Nat → Nat) (A : Nat) (h : Nat → Nat) (n : Int) (hp0 : p 0 < 18446744073709551616) (hp1 : p 1 < 18446744073709551616) : Fn Try.prog G 67 #[PV r p (wd A) h n] (.agg (arr .u8 16 (tgn (k3 (wd A)) (k3 p)))) := by
  obtain ⟨X, hX⟩ : ∃ X, X = A + k3 p := ⟨_, rfl⟩
  have hE : ∀ s : Nat → Nat, (∀ j, j < 16 → s j = bt X j) → arr .u8 16 s = arr .u8 16 (tgn (k3 (wd A)) (k3 p)) := fun s h => arr_congr fun j hj => (h j hj).trans (by rw [hX]; exact bt_tgn A (k3 p) hj)
  refine Qf1 Try.func67 ?_
  refine Qs<|Qp<|(Qh 0) fun r1=>(QH 1) fun r2=>Qn<|Qs<|Qp<|(Qf 4)<|(Qv 2 0)<|(Qf 2)<|(QA 2 0)<|(QI 1 0 0)<|(Qf 2)<|(QA 3 1)<|(QI 1 1 0) ?_
  refine e_build (arr .u64 3 (upd p 2 0)) (Ub 106) (Uu 106) (Uz 24) rfl rfl rfl ?_
  refine e_as (show _ = f3 (k3 p) from (f3_of (k3_three hp0 hp1)).symm) ?_
  refine e_call rfl (Un 74) (dplus_fn _ _) rfl rfl ?_
  refine e_as (congrArg f3 hX.symm) ?_
  refine (QH 2) fun r3=>(Qt 2)<|Qn<|Qs<|Qp<|(QH 3) fun r4=>Qn<|Qs<|Qs<|Qp<|(Qm)<|Qn<|Qb ?_
  refine QzK [(2, _), (3, _), (4, _)] [(0, _), (1, _), (2, _)] (fun kk E m => ∃ (i : Nat) (s : Nat → Nat), kk = 16 - i ∧ E = [(16, ii i)] ∧ m = [(3, some ⟨r4, arr .u8 16 s, 59⟩)] ∧ (i ≤ 16) ∧ (∀ j, j < i → s j = bt X j)) ⟨0, fun _ => 0, rfl, rfl, rfl, by omega, fun j hj => absurd hj (Nat.not_lt_zero j)⟩ ⟨rfl, rfl, rfl, rfl, trivial⟩ ⟨rfl, rfl, rfl, rfl, trivial⟩ ?_
  rintro kk E m ⟨i, s, rfl, rfl, rfl, hf0_0, hf0_1⟩
  simp only [catE, catL]
  refine Qs<|Qp<|(Ql)<|Qn<|Qs ?_
  refine e_cond rfl ?_ ?_
  · intro hc0
    have hc0 : i < 16 := by have := of_decide_eq_true hc0; omega
    refine Qk<|Qs<|Qb<|Qs<|Qp<|(Qm)<|(Qa)<|Qn<|Qp<|(Qm)<|(Qm)<|(Q5 8)<|(Qi)<|(Q1 2)<|(Qm)<|(Q4 8)<|(Q6 8) ?_
    refine e_shr_u rfl rfl rfl (by omega) ?_
    refine e_conv_u8 (Uu 24) (Uu 5) rfl rfl rfl ?_
    refine (Qi)<|(Qu 3)<|Qn<|Qp<|(Q2 1)<|(Qm)<|Qn ?_
    refine QzL ⟨i + 1, upd s i _, rfl, rfl, rfl, by omega, upd_lt hf0_1 (bt_word X i)⟩ ⟨rfl, rfl, rfl, rfl, trivial⟩ ⟨rfl, rfl, rfl, rfl, trivial⟩ ?_
    omega
  · intro hc0
    have hc0 := of_decide_eq_false hc0
    have hz0 : i = 16 := by omega
    subst hz0
    refine Qe<|Qs<|Qp<|(Qd 3)<|(Qt 1)<|Qn<|Qr ?_
    rw [← hE _ hf0_1]
    exact ⟨_, rfl, .cell (i := 1) rfl rfl (Uu 59) rfl (Uz 59) (arr_size _ _ _)⟩
end Go.Proofs.Ytmhpifphohcfmaa
namespace Go.Proofs.Ytmhpifphohcfmaa
open Go Go.RowKit
variable {G : Mem}
set_option maxHeartbeats 2000000 in
theorem dbegin_fn (f : Nat → Nat) (hf : L8 32 f) : Fn Try.prog G 50 #[.agg (arr .u8 32 f)] (PV (w8 (bL f)) (fun j => w8 (bL f) (j + 2)) (fun _ => 0) (fun _ => 0) 0) := by
  refine Qf1 Try.func50 ?_
  refine Qs<|Qp<|(Qh 0) fun r1=>(QH 1) fun r2=>Qn<|Qs<|(Qg) ?_
  refine e_sliceA 0 16 (Uu 23) (Uz 5) rfl rfl rfl rfl ⟨_, rfl⟩ (by omega) (by omega) (by omega) rfl ?_
  refine e_toArr (Uu 59) rfl (by omega) rfl ?_
  refine e_loadS (i := 0) (Uu 59) rfl (Uz 59) rfl rfl (by omega) rfl ⟨[], trivial⟩ ?_
  refine e_as (congrArg Value.agg (arr_congr (fun j _ => congrArg f (Nat.zero_add j)))) ?_
  refine e_call rfl (Un 65) (dpair_fn f (fun j hj => hf j (by omega))) rfl rfl ?_
  refine e_sliceA 16 32 (Uu 23) (Uz 5) rfl rfl rfl ⟨_, rfl⟩ rfl (by omega) (by omega) (by omega) rfl ?_
  refine e_toArr (Uu 59) rfl (by omega) rfl ?_
  refine e_loadS (i := 0) (Uu 59) rfl (Uz 59) rfl rfl (by omega) rfl ⟨[], trivial⟩ ?_
  refine e_call rfl (Un 65) (dpair_fn (fun t => f (16 + t)) (fun j hj => hf _ (by omega))) rfl rfl ?_
  refine e_as (congrArg Value.agg (arr_congr (pad_key hf))) ?_
  refine (QH 2) fun r3=>(QH 3) fun r4=>(Qt 2)<|(Qt 3)<|Qn<|Qs<|(Qg)<|(Qd 2) ?_
  refine e_call rfl (Un 66) (dclamped_fn _) rfl rfl ?_
  refine e_as (congrArg Value.agg (arr_congr (clamp_key hf))) ?_
  refine (Qd 3) ?_
  refine e_buildS (cells 24 [pI .u64 2 (w8 (bL f)), pI .u64 2 (fun j => w8 (bL f) (j + 2)), pI .u64 3 (fun _ => 0), pI .u8 16 (fun _ => 0), pV (.int .i64 0)]) (Ub 81) (Uu 81) pls81 rfl rfl rfl ?_
  refine e_storeA (i := 1) (Uz 81) rfl rfl (arrv_size _ _) (cells_one ⟨fun _ => rfl, fun _ => rfl, fun _ => rfl, fun _ => rfl, fun _ => rfl, trivial⟩) rfl cells_sz (.inl rfl) ?_
  refine Qn<|Qr ?_
  exact ⟨_, rfl, .cell (i := 1) rfl rfl (Uu 81) rfl (Uz 81) (arrv_size _ _)⟩
set_option maxHeartbeats 4000000 in
theorem dcheck_fn (r p a h : Nat → Nat) (n : Int) (ha0 : a 0 < 18446744073709551616) (ha1 : a 1 < 18446744073709551616) (ha2 : a 2 < 18446744073709551616) (hr0 : r 0 < 18446744073709551616) (hr1 : r 1 < 18446744073709551616) : Fn Try.prog G 63 #[PV r p a h n] (ii (if (okcd r a n && okh n h 16) = true then 0 else 9)) := by
  refine Qf1 Try.func63 ?_
  refine Qs<|Qp<|(Qh 0) fun r1=>(Qa)<|Qn<|Qs<|Qs ?_
  rcases dcases (n := n) hr0 hr1 ha0 ha1 ha2 with ⟨hk0, hko⟩ | ⟨hk0, hk1, hko⟩ | ⟨hk0, hk1, hk2, hko⟩ | ⟨hk0, hk1, hk2, hk3, hko⟩ | ⟨hk0, hk1, k, rfl, hk3, hko⟩
  · skip
    refine (Qg)<|(Qf 0)<|(Qv 0 0) ?_
    refine e_call rfl (Un 66) (dclamped_fn _) rfl rfl ?_
    refine (Qf 0)<|(Qv 0 0) ?_
    refine e_neA (Uu 78) (Uu 24) (Uz 24) eqg78 rfl rfl rfl ?_
    refine e_as (congrArg (fun z => Value.bool (!z)) hk0) ?_
    refine (Qm)<|(Qo)<|(Qo)<|(Qo)<|(Qo)<|(QT)<|(Qm)<|(Qo)<|(Qo)<|(Qo)<|(QT)<|(Qm)<|(Qo)<|(Qo)<|(Qo)<|(QT)<|Qn ?_
    refine e_cond rfl ?_ ?_
    · intro hc0
      have hfin := ok_no (d := okh n h 16) hko
      refine Qs<|Qp<|(Qa)<|Qn<|Qr ?_
      first | rw [if_pos hfin] | rw [if_neg hfin]
      exact ⟨_, rfl, .tmp rfl⟩
    · intro hc0
      exact absurd hc0 (by decide)
  · skip
    refine (Qg)<|(Qf 0)<|(Qv 0 0) ?_
    refine e_call rfl (Un 66) (dclamped_fn _) rfl rfl ?_
    refine (Qf 0)<|(Qv 0 0) ?_
    refine e_neA (Uu 78) (Uu 24) (Uz 24) eqg78 rfl rfl rfl ?_
    refine e_as (congrArg (fun z => Value.bool (!z)) hk0) ?_
    refine (Qm)<|(Qy)<|(Qf 4)<|(Qy)<|(Qv 2 0) ?_
    refine e_as (f3_of (w3_words ha0 ha1 ha2)).symm ?_
    refine (Qy) ?_
    refine e_call rfl (Un 72) (dbelow_fn (w3 a) (w3_lt192 ha0 ha1 ha2)) rfl rfl ?_
    refine (Qy)<|(Q0) ?_
    refine e_as (congrArg (fun z => Value.bool (!z)) (decide_eq_false hk1)) ?_
    refine (QF)<|(Qm)<|(Qo)<|(Qo)<|(Qo)<|(QT)<|(Qm)<|(Qo)<|(Qo)<|(Qo)<|(QT)<|Qn ?_
    refine e_cond rfl ?_ ?_
    · intro hc0
      have hfin := ok_no (d := okh n h 16) hko
      refine Qs<|Qp<|(Qa)<|Qn<|Qr ?_
      first | rw [if_pos hfin] | rw [if_neg hfin]
      exact ⟨_, rfl, .tmp rfl⟩
    · intro hc0
      exact absurd hc0 (by decide)
  · skip
    refine (Qg)<|(Qf 0)<|(Qv 0 0) ?_
    refine e_call rfl (Un 66) (dclamped_fn _) rfl rfl ?_
    refine (Qf 0)<|(Qv 0 0) ?_
    refine e_neA (Uu 78) (Uu 24) (Uz 24) eqg78 rfl rfl rfl ?_
    refine e_as (congrArg (fun z => Value.bool (!z)) hk0) ?_
    refine (Qm)<|(Qy)<|(Qf 4)<|(Qy)<|(Qv 2 0) ?_
    refine e_as (f3_of (w3_words ha0 ha1 ha2)).symm ?_
    refine (Qy) ?_
    refine e_call rfl (Un 72) (dbelow_fn (w3 a) (w3_lt192 ha0 ha1 ha2)) rfl rfl ?_
    refine (Qy)<|(Q0) ?_
    refine e_as (congrArg (fun z => Value.bool (!z)) (decide_eq_true hk1)) ?_
    refine (QF)<|(Qm)<|(Qy)<|(Qf 23)<|(Qy)<|(QV 4 0)<|(Qy)<|(Ql)<|(Qat)<|(QF)<|(Qm)<|(Qo)<|(Qo)<|(Qo)<|(QT)<|Qn ?_
    refine e_cond rfl ?_ ?_
    · intro hc0
      have hfin := ok_no (d := okh n h 16) hko
      refine Qs<|Qp<|(Qa)<|Qn<|Qr ?_
      first | rw [if_pos hfin] | rw [if_neg hfin]
      exact ⟨_, rfl, .tmp rfl⟩
    · intro hc0
      exact absurd hc0 (by decide)
  · skip
    refine (Qg)<|(Qf 0)<|(Qv 0 0) ?_
    refine e_call rfl (Un 66) (dclamped_fn _) rfl rfl ?_
    refine (Qf 0)<|(Qv 0 0) ?_
    refine e_neA (Uu 78) (Uu 24) (Uz 24) eqg78 rfl rfl rfl ?_
    refine e_as (congrArg (fun z => Value.bool (!z)) hk0) ?_
    refine (Qm)<|(Qy)<|(Qf 4)<|(Qy)<|(Qv 2 0) ?_
    refine e_as (f3_of (w3_words ha0 ha1 ha2)).symm ?_
    refine (Qy) ?_
    refine e_call rfl (Un 72) (dbelow_fn (w3 a) (w3_lt192 ha0 ha1 ha2)) rfl rfl ?_
    refine (Qy)<|(Q0) ?_
    refine e_as (congrArg (fun z => Value.bool (!z)) (decide_eq_true hk1)) ?_
    refine (QF)<|(Qm)<|(Qy)<|(Qf 23)<|(Qy)<|(QV 4 0)<|(Qy)<|(Ql)<|(Qaf)<|(QF)<|(Qm)<|(Qy)<|(Qf 23)<|(Qy)<|(QV 4 0)<|(Qy)<|(QE)<|(Qat)<|(QF)<|Qn ?_
    refine e_cond rfl ?_ ?_
    · intro hc0
      have hfin := ok_no (d := okh n h 16) hko
      refine Qs<|Qp<|(Qa)<|Qn<|Qr ?_
      first | rw [if_pos hfin] | rw [if_neg hfin]
      exact ⟨_, rfl, .tmp rfl⟩
    · intro hc0
      exact absurd hc0 (by decide)
  · skip
    refine (Qg)<|(Qf 0)<|(Qv 0 0) ?_
    refine e_call rfl (Un 66) (dclamped_fn _) rfl rfl ?_
    refine (Qf 0)<|(Qv 0 0) ?_
    refine e_neA (Uu 78) (Uu 24) (Uz 24) eqg78 rfl rfl rfl ?_
    refine e_as (congrArg (fun z => Value.bool (!z)) hk0) ?_
    refine (Qm)<|(Qy)<|(Qf 4)<|(Qy)<|(Qv 2 0) ?_
    refine e_as (f3_of (w3_words ha0 ha1 ha2)).symm ?_
    refine (Qy) ?_
    refine e_call rfl (Un 72) (dbelow_fn (w3 a) (w3_lt192 ha0 ha1 ha2)) rfl rfl ?_
    refine (Qy)<|(Q0) ?_
    refine e_as (congrArg (fun z => Value.bool (!z)) (decide_eq_true hk1)) ?_
    refine (QF)<|(Qm)<|(Qy)<|(Qf 23)<|(Qy)<|(QV 4 0)<|(Qy)<|(Ql)<|(Qaf)<|(QF)<|(Qm)<|(Qy)<|(Qf 23)<|(Qy)<|(QV 4 0)<|(Qy)<|(QE)<|(Qaf)<|(QF)<|Qn ?_
    refine e_cond rfl ?_ ?_
    · intro hc0
      exact absurd hc0 (by decide)
    · intro hc0
      refine Qk<|Qs<|Qs<|Qp<|(Qf 7)<|(Qf 23)<|(QV 4 0) ?_
      refine e_sliceA k 16 (Uu 59) (Uz 5) rfl rfl rfl ⟨_, rfl⟩ rfl (by omega) (by omega) (by omega) rfl ?_
      refine e_lenSl (Uu 31) rfl rfl rfl ?_
      refine (Qm)<|Qn<|Qb ?_
      refine QzK [(30, _), (31, _)] [(0, _)] (fun kk E m => ∃ (i : Nat), kk = 16 - k - i ∧ E = [(32, ii i)] ∧ m = [] ∧ (i ≤ 16 - k) ∧ (∀ j, j < i → h (k + j) = 0)) ⟨0, rfl, rfl, rfl, by omega, fun j hj => absurd hj (Nat.not_lt_zero j)⟩ ⟨rfl, rfl, rfl, trivial⟩ ⟨rfl, trivial⟩ ?_
      rintro kk E m ⟨i, rfl, rfl, rfl, hf0_0, hf0_1⟩
      simp only [catE, catL]
      refine Qs<|Qp<|(Ql)<|Qn<|Qs ?_
      refine e_cond rfl ?_ ?_
      · intro hc1
        have hc1 : i < 16 - k := by have := of_decide_eq_true hc1; omega
        refine Qk<|Qs<|Qb<|Qs<|Qp ?_
        refine e_atSl (7 + (k + i)) (Uu 31) (Uz 5) rfl rfl (by omega) (by omega) rfl ?_
        refine e_ldI (i := 0) 3 (k + i) (Uu 5) rfl rfl rfl rfl (by first | rfl | omega) (by omega) (by omega) rfl ⟨[], trivial⟩ ?_
        refine (Qa)<|Qn<|Qs<|Qp<|(Qm)<|(QN)<|Qn ?_
        refine e_cond rfl ?_ ?_
        · intro hc2
          have hc2 := of_decide_eq_true hc2
          have hfin : ¬ (okcd r a (k : Int) && okh (k : Int) h 16) = true := by rw [okh_not hc1 (fun e => hc2 (by rw [e]; rfl))]; simp
          refine Qs<|Qp<|(Qa)<|Qn<|Qr ?_
          first | rw [if_pos hfin] | rw [if_neg hfin]
          exact ⟨_, rfl, .tmp rfl⟩
        · intro hc2
          have hc2 := of_decide_eq_false hc2
          have hcz : h (k + i) = 0 := by omega
          refine Qk<|Qp<|(Q2 1)<|(Qm)<|Qn ?_
          refine QzL ⟨i + 1, rfl, rfl, rfl, by omega, fun j hj => by by_cases e : j = i; exact e ▸ hcz; exact hf0_1 j (by omega)⟩ ⟨rfl, rfl, rfl, trivial⟩ ⟨rfl, trivial⟩ ?_
          omega
      · intro hc1
        have hc1 := of_decide_eq_false hc1
        have hz0 : i = 16 - k := by omega
        have hfin : (okcd r a (k : Int) && okh (k : Int) h 16) = true := by rw [hko, okh_all (by rw [← hz0]; exact hf0_1)]; rfl
        refine Qe<|Qs<|Qp<|(Qa)<|Qn<|Qr ?_
        first | rw [if_pos hfin] | rw [if_neg hfin]
        exact ⟨_, rfl, .tmp rfl⟩
end Go.Proofs.Ytmhpifphohcfmaa
namespace Go.Proofs.Ytmhpifphohcfmaa
open Go Go.RowKit
variable {G : Mem}
set_option maxHeartbeats 4000000 in
theorem dadd_ok (r p : Nat → Nat) (A : Nat) (h : Nat → Nat) (n : Nat) (v : Value) (l : List Nat) (hv : Sh G v l) (hlb : ∀ b ∈ l, b < 256) (hA : A < 2 ^ 130) (hr0 : r 0 < 18446744073709551616) (hr1 : r 1 < 18446744073709551616) (hR : k3 r < 2 ^ 124) (hn : n < 16) (hh : L8 16 h) (hz : ∀ j, n ≤ j → j < 16 → h j = 0) (hok : (okcd r (wd A) n && okh n h 16) = true) (hlen : l.length + 16 ≤ 9223372036854775807) : Fn Try.prog G 49 #[PV r p (wd A) h n, v] (.tuple #[PV r p (wd (accs (k3 r) A (sS h n l) ((sS h n l).length / 16))) (fun i => ((sS h n l).drop (16 * ((sS h n l).length / 16))).getD i 0) (((sS h n l).drop (16 * ((sS h n l).length / 16))).length : Int), ii 0]) := by
  have hSl := sS_len h n l
  have hSb := sS_lt (n := n) (fun j hj => hh j (by omega)) hlb
  have hwA := wd_lt A
  refine Qf2 Try.func49 ?_
  refine Qs<|Qp<|(Qh 0) fun r1=>(QH 1) fun r2=>(Qa)<|Qn<|Qs<|Qs<|Qp<|(QD 0) ?_
  refine e_call rfl (Un 63) (dcheck_fn r p (wd A) h n (hwA 0) (hwA 1) (hwA 2) hr0 hr1) rfl rfl ?_
  refine e_as (congrArg ii (if_pos hok)) ?_
  refine (Qa)<|Qn<|Qs<|Qp<|(Qm)<|(QN)<|Qn ?_
  refine e_cond rfl ?_ ?_
  · intro hc0
    exact absurd hc0 (by decide)
  · intro hc0
    refine Qk<|Qs<|Qs<|Qp<|(Qm)<|(QC hv)<|(Qm)<|Qn<|Qb ?_
    refine QzK [(2, _), (4, _), (5, _), (15, _), (16, _)] [(1, _)] (fun kk E m => ∃ (i : Nat) (ac : Nat) (g : Nat → Nat) (c : Nat), kk = l.length - i ∧ E = [(17, ii i)] ∧ m = [(0, some ⟨r1, cells 24 [pI .u64 2 r, pI .u64 2 p, pI .u64 3 (wd ac), pI .u8 16 g, pV (.int .i64 ((c : Nat) : Int))], 81⟩)] ∧ (i ≤ l.length) ∧ (ac = accs (k3 r) A (sS h n l) ((n + i) / 16)) ∧ (c = (n + i) % 16) ∧ (∀ j, j < 16 → g j = hold (sS h n l) (n + i) j)) ⟨0, A, h, n, rfl, rfl, rfl, by omega, by rw [show (n + 0) / 16 = 0 by omega]; rfl, by omega, hold_first hn hz⟩ ⟨rfl, rfl, rfl, rfl, rfl, rfl, trivial⟩ ⟨rfl, rfl, trivial⟩ ?_
    rintro kk E m ⟨i, ac, g, c, rfl, rfl, rfl, hf0_0, hf0_1, hf0_2, hf0_3⟩
    simp only [catE, catL]
    have hac : ac < 2 ^ 130 := by rw [hf0_1]; exact accs_lt hA _
    refine Qs<|Qp<|(Ql)<|Qn<|Qs ?_
    refine e_cond rfl ?_ ?_
    · intro hc1
      have hc1 : i < l.length := by have := of_decide_eq_true hc1; omega
      refine Qk<|Qs<|Qb<|Qs<|Qp ?_
      refine e_atV hv (Uu 31) (Uz 5) rfl rfl (by omega) rfl ?_
      refine (QS) ?_
      refine e_loadV hv seenG (Uu 5) rfl rfl (nth_by8 hc1) rfl ?_
      refine (Qa)<|Qn<|Qs<|Qp<|(Qf 23)<|(QV 4 0)<|(Qm)<|(Qf 7)<|(QB (7 + c)) ?_
      refine e_stI (i := 0) 3 (c) (Uz 5) rfl rfl rfl rfl (by first | rfl | omega) (by omega) (by omega) (.inl rfl) ?_
      refine Qn<|Qs<|Qp<|(Qf 23)<|(QV 4 0)<|(Q2 1)<|(Qf 23) ?_
      refine e_stV (i := 0) 4 (Uz 3) rfl rfl rfl rfl rfl (by decide) (.inl rfl) ?_
      refine Qn<|Qs<|Qp<|(Qf 23)<|(QV 4 0)<|(Qc)<|Qn ?_
      refine e_cond rfl ?_ ?_
      · intro hc2
        have hc2 := of_decide_eq_true hc2
        have hc16 : c + 1 = 16 := by omega
        refine Qp<|(QD 0) ?_
        refine e_as (show _ = PV r p (wd ac) (upd g c l[i]) ((c + 1 : Nat) : Int) from rfl) ?_
        refine e_call rfl (Un 64) (dtake_fn r p ac (upd g c l[i]) (c + 1) hr0 hr1 hR hac (by omega) (fun j hj => by unfold upd; split; exact hlb _ (List.getElem_mem hc1); rw [hf0_3 j hj]; exact hold_lt hSb _ _) (fun j h1 h2 => absurd h2 (by omega))) rfl rfl ?_
        refine e_storeA (i := 0) (Uz 81) rfl rfl (arrv_size _ _) (cells_one ⟨fun _ => rfl, fun _ => rfl, fun _ => rfl, fun _ => rfl, fun _ => rfl, trivial⟩) rfl cells_sz (.inl rfl) ?_
        refine Qn<|Qp<|(Q2 1)<|(Qm)<|Qn ?_
        refine QzL ⟨i + 1, _, _, _, rfl, rfl, rfl, by omega, (by first | exact accs_stay (T := n + i) (by omega) hf0_1 | exact accs_step (T := n + i) (by omega) hf0_1 (by rw [hc16, hf0_2]; exact hold_full (T := n + i) (by omega) (by omega) (sS_at hc1) hf0_3)), by omega, (by first | exact hold_zero (T := n + i) (by omega) | (rw [hf0_2]; exact hold_next (T := n + i) (by omega) (sS_at hc1) hf0_3))⟩ ⟨rfl, rfl, rfl, rfl, rfl, rfl, trivial⟩ ⟨rfl, rfl, trivial⟩ ?_
        omega
      · intro hc2
        have hc2 := of_decide_eq_false hc2
        refine Qk<|Qp<|(Q2 1)<|(Qm)<|Qn ?_
        refine QzL ⟨i + 1, _, _, _, rfl, rfl, rfl, by omega, (by first | exact accs_stay (T := n + i) (by omega) hf0_1 | exact accs_step (T := n + i) (by omega) hf0_1 (by rw [hc16, hf0_2]; exact hold_full (T := n + i) (by omega) (by omega) (sS_at hc1) hf0_3)), by omega, (by first | exact hold_zero (T := n + i) (by omega) | (rw [hf0_2]; exact hold_next (T := n + i) (by omega) (sS_at hc1) hf0_3))⟩ ⟨rfl, rfl, rfl, rfl, rfl, rfl, trivial⟩ ⟨rfl, rfl, trivial⟩ ?_
        omega
    · intro hc1
      have hc1 := of_decide_eq_false hc1
      have hz0 : i = l.length := by omega
      refine Qe<|Qs<|Qp<|(QD 0) ?_
      refine e_as (Eq.trans (show _ = PV r p (wd ac) g ((c : Nat) : Int) from rfl) (show _ = PV r p (wd (accs (k3 r) A (sS h n l) ((sS h n l).length / 16))) (fun i => ((sS h n l).drop (16 * ((sS h n l).length / 16))).getD i 0) (((sS h n l).drop (16 * ((sS h n l).length / 16))).length : Int) from PV_congr (fun _ _ => rfl) (fun _ _ => rfl) (fun _ _ => by rw [hf0_1, hSl, hz0]) (hold_end (by rw [hSl, ← hz0]; exact hf0_3)) (by rw [List.length_drop]; omega))) ?_
      refine e_storeA (i := 1) (Uz 81) rfl rfl (arrv_size _ _) (cells_one ⟨fun _ => rfl, fun _ => rfl, fun _ => rfl, fun _ => rfl, fun _ => rfl, trivial⟩) rfl cells_sz (.inl rfl) ?_
      refine (Qa)<|Qn<|Qr ?_
      exact ⟨_, _, rfl, .cell (i := 1) rfl rfl (Uu 81) rfl (Uz 81) (arrv_size _ _), .tmp rfl⟩
set_option maxHeartbeats 4000000 in
theorem dend_zero (r p : Nat → Nat) (A : Nat) (h : Nat → Nat) (n : Nat) (hr0 : r 0 < 18446744073709551616) (hr1 : r 1 < 18446744073709551616) (hp0 : p 0 < 18446744073709551616) (hp1 : p 1 < 18446744073709551616) (hn : n = 0) (hok : (okcd r (wd A) n && okh n h 16) = true) : Fn Try.prog G 51 #[PV r p (wd A) h n] (.tuple #[.agg (arr .u8 16 (tgn (k3 (wd A)) (k3 p))), ii 0]) := by
  have hwA := wd_lt A
  refine Qf2 Try.func51 ?_
  refine Qs<|Qp<|(Qh 0) fun r1=>(QH 1) fun r2=>(Qa)<|Qn<|Qs<|Qs<|Qp<|(QD 0) ?_
  refine e_call rfl (Un 63) (dcheck_fn r p (wd A) h n (hwA 0) (hwA 1) (hwA 2) hr0 hr1) rfl rfl ?_
  refine e_as (congrArg ii (if_pos hok)) ?_
  refine (Qa)<|Qn<|Qs<|Qp<|(Qm)<|(QN)<|Qn ?_
  refine e_cond rfl ?_ ?_
  · intro hc0
    exact absurd hc0 (by decide)
  · intro hc0
    refine Qk<|Qs<|Qs<|Qp<|(Qf 23)<|(QV 4 0)<|(QG)<|Qn ?_
    refine e_cond rfl ?_ ?_
    · intro hc1
      exact absurd (of_decide_eq_true hc1) (by omega)
    · intro hc1
      refine Qk<|Qs<|Qp<|(QD 0) ?_
      refine e_call rfl (Un 67) (dpad_fn r p A h n hp0 hp1) rfl rfl ?_
      refine (Qt 1)<|(Qa)<|Qn<|Qr ?_
      exact ⟨_, _, rfl, .cell (i := 1) rfl rfl (Uu 59) rfl (Uz 59) (arr_size _ _ _), .tmp rfl⟩
set_option maxHeartbeats 4000000 in
theorem dend_some (r p : Nat → Nat) (A : Nat) (h : Nat → Nat) (n : Nat) (hr0 : r 0 < 18446744073709551616) (hr1 : r 1 < 18446744073709551616) (hp0 : p 0 < 18446744073709551616) (hp1 : p 1 < 18446744073709551616) (hR : k3 r < 2 ^ 124) (hA : A < 2 ^ 130) (hh : L8 16 h) (hz : ∀ j, n ≤ j → j < 16 → h j = 0) (hn : 0 < n) (hn2 : n < 16) (hok : (okcd r (wd A) n && okh n h 16) = true) : Fn Try.prog G 51 #[PV r p (wd A) h n] (.tuple #[.agg (arr .u8 16 (tgn (k3 (wd (pst (k3 r) A ((List.range n).map h)))) (k3 p))), ii 0]) := by
  have hwA := wd_lt A
  refine Qf2 Try.func51 ?_
  refine Qs<|Qp<|(Qh 0) fun r1=>(QH 1) fun r2=>(Qa)<|Qn<|Qs<|Qs<|Qp<|(QD 0) ?_
  refine e_call rfl (Un 63) (dcheck_fn r p (wd A) h n (hwA 0) (hwA 1) (hwA 2) hr0 hr1) rfl rfl ?_
  refine e_as (congrArg ii (if_pos hok)) ?_
  refine (Qa)<|Qn<|Qs<|Qp<|(Qm)<|(QN)<|Qn ?_
  refine e_cond rfl ?_ ?_
  · intro hc0
    exact absurd hc0 (by decide)
  · intro hc0
    refine Qk<|Qs<|Qs<|Qp<|(Qf 23)<|(QV 4 0)<|(QG)<|Qn ?_
    refine e_cond rfl ?_ ?_
    · intro hc1
      refine Qp<|(QD 0) ?_
      refine e_call rfl (Un 64) (dtake_fn r p A h n hr0 hr1 hR hA (by omega) hh hz) rfl rfl ?_
      refine e_storeA (i := 0) (Uz 81) rfl rfl (arrv_size _ _) (cells_one ⟨fun _ => rfl, fun _ => rfl, fun _ => rfl, fun _ => rfl, fun _ => rfl, trivial⟩) rfl cells_sz (.inl rfl) ?_
      refine Qn<|Qs<|Qp<|(QD 0) ?_
      refine e_call rfl (Un 67) (dpad_fn r p (pst (k3 r) A ((List.range n).map h)) (fun _ => 0) ((0 : Nat) : Int) hp0 hp1) rfl rfl ?_
      refine (Qt 1)<|(Qa)<|Qn<|Qr ?_
      exact ⟨_, _, rfl, .cell (i := 1) rfl rfl (Uu 59) rfl (Uz 59) (arr_size _ _ _), .tmp rfl⟩
    · intro hc1
      exact absurd (of_decide_eq_false hc1) (by omega)
end Go.Proofs.Ytmhpifphohcfmaa
namespace Go.Proofs.Ytmhpifphohcfmaa
open Go Go.RowKit
theorem dbegin_msg {G : Mem} (f : Nat → Nat) (hf : ∀ j, j < 32 → f j < 256) : Fn Try.prog G 50 #[.agg (arr .u8 32 f)] (stP f []) := by
  rw [← stP_nil f]; exact dbegin_fn f hf
theorem heldF_zero (m : List Nat) : ∀ j, (rem16 m).length ≤ j → j < 16 → heldF m j = 0 := fun j h1 _ => by
  unfold heldF
  rw [List.getD_eq_getElem?_getD, List.getElem?_eq_none h1]; rfl
theorem dadded_msg {G : Mem} (f : Nat → Nat) (m : List Nat) (v : Value) (l : List Nat) (hf : ∀ j, j < 32 → f j < 256) (hm : ∀ b ∈ m, b < 256) (hv : Shows G 1 v l.length (l.map by8)) (hlb : ∀ b ∈ l, b < 256) (hlen : l.length + 16 ≤ 9223372036854775807) :
    Fn Try.prog G 49 #[stP f m, v] (.tuple #[stP f (m ++ l), ii 0]) := by
  have hb := bL_lt hf
  have h := dadd_ok (G := G) (w8 (bL f)) (fun j => w8 (bL f) (j + 2)) (acc0 (k3 (w8 (bL f))) m) (heldF m) (rem16 m).length v l hv hlb (Nat.lt_trans (acc0_lt _ _) QQ_lt) (w8_lt hb 0) (w8_lt hb 1) (k3_small (w8_lt hb 0) (w8_lt hb 1) (okR_begun hf)) (by rw [rem16_len]; omega) (fun j _ => heldF_lt hm j) (heldF_zero m) (ok_heldF (okR_begun hf) _ m) hlen
  rw [sS_held, acc0_app, rem16_app] at h
  exact h
theorem dended_msg {G : Mem} (f : Nat → Nat) (m : List Nat) (hf : ∀ j, j < 32 → f j < 256) (hm : ∀ b ∈ m, b < 256) : Fn Try.prog G 51 #[stP f m] (.tuple #[.agg (arr .u8 16 (ptg f m)), ii 0]) := by
  have hb := bL_lt hf
  have hok := ok_heldF (okR_begun hf) (k3 (w8 (bL f))) m
  by_cases h0 : (rem16 m).length = 0
  · have h := dend_zero (G := G) (w8 (bL f)) (fun j => w8 (bL f) (j + 2)) (acc0 (k3 (w8 (bL f))) m) (heldF m) (rem16 m).length (w8_lt hb 0) (w8_lt hb 1) (w8_lt hb 2) (w8_lt hb 3) h0 hok
    unfold stP cP
    rw [show acc0 (k3 (w8 (bL f))) m = accE (k3 (w8 (bL f))) m from (if_pos h0).symm] at h ⊢
    exact h
  · have h := dend_some (G := G) (w8 (bL f)) (fun j => w8 (bL f) (j + 2)) (acc0 (k3 (w8 (bL f))) m) (heldF m) (rem16 m).length (w8_lt hb 0) (w8_lt hb 1) (w8_lt hb 2) (w8_lt hb 3) (k3_small (w8_lt hb 0) (w8_lt hb 1) (okR_begun hf)) (Nat.lt_trans (acc0_lt _ _) QQ_lt) (fun j _ => heldF_lt hm j) (heldF_zero m) (by omega) (by rw [rem16_len]; omega) hok
    rw [held_list, show pst (k3 (w8 (bL f))) (acc0 (k3 (w8 (bL f))) m) (rem16 m) = accE (k3 (w8 (bL f))) m from (if_neg h0).symm] at h
    exact h
variable {G : Mem}
set_option maxHeartbeats 2000000 in
theorem dtag_fn (f : Nat → Nat) (v : Value) (l : List Nat) (hf : L8 32 f) (hb : ∀ b ∈ l, b < 256) (hl : l.length ≤ 140737488351232) (hv : Sh G v l) : Fn Try.prog G 40 #[.agg (arr .u8 32 f), v] (.agg (arr .u8 16 (ptg f l))) := by
  have hl2 : l.length + 16 ≤ 9223372036854775807 := by omega
  refine Qf1 Try.func40 ?_
  refine Qs<|Qp<|(Qh 0) fun r1=>(QH 1) fun r2=>Qn<|Qs<|Qp<|(Qd 0) ?_
  refine e_call rfl (Un 50) (dbegin_msg f hf) rfl rfl ?_
  refine (Qm) ?_
  refine e_call rfl (Un 49) (dadded_msg f [] v l hf (by simp) hv hb hl2) rfl rfl ?_
  refine e_as (show _ = Value.tuple #[stP f l, ii 0] from rfl) ?_
  refine (Qm)<|(Qx)<|(Qx)<|(QH 2) fun r3=>?_
  refine e_storeA (i := 2) (Uz 81) rfl rfl (arrv_size _ _) (cells_one ⟨fun _ => rfl, fun _ => rfl, fun _ => rfl, fun _ => rfl, fun _ => rfl, trivial⟩) rfl cells_sz (.inl rfl) ?_
  refine (Qa)<|Qn<|Qs<|Qp<|(QD 2) ?_
  refine e_call rfl (Un 51) (dended_msg f l hf hb) rfl rfl ?_
  refine (Qm)<|(Qx)<|(Qx)<|(QH 3) fun r4=>(Qt 3)<|(Qa)<|Qn<|Qs<|Qp<|(Qd 3)<|(Qt 1)<|Qn<|Qr ?_
  exact ⟨_, rfl, .cell (i := 1) rfl rfl (Uu 59) rfl (Uz 59) (arr_size _ _ _)⟩
end Go.Proofs.Ytmhpifphohcfmaa
namespace Go.Proofs.Ytmhpifphohcfmaa
open Go Go.RowKit
variable {G : Mem}
set_option maxHeartbeats 400000 in
theorem grow_zero (n : Nat) (hn : n = 0) : Fx Try.prog G [] 68 #[nilS, ii n] (fun v l1 nw => l1 = [] ∧ ∃ v', v = v' ∧ OwnS 5 1 v' 0 [] nw) := by
  refine QfN Try.func68 ?_
  refine Qs<|Qp<|(Qa)<|Qn<|Qs<|Qs<|Qp<|(Qm)<|(Ql)<|(Qaf)<|Qn<|(Qcf)<|Qk<|Qs<|Qs<|Qp<|(Qm)<|(Qm) ?_
  refine e_capSl (Uu 31) rfl rfl rfl ?_
  refine (Qm)<|(QC (shows_nil [] 1)) ?_
  refine e_sub_in rfl rfl rfl (by omega) (by omega) ?_
  refine e_as (show _ = ii 0 from rfl) ?_
  refine e_sub_in rfl rfl rfl (by omega) (by omega) ?_
  refine e_as (show _ = ii n from rfl) ?_
  refine (Qa)<|Qn<|Qs<|Qp<|(Qm)<|(QG)<|(Qaf)<|Qn<|(Qcf)<|Qk<|Qs<|Qp<|(Qm)<|(Qa)<|Qn<|Qr ?_
  exact ⟨_, _, _, 99, rfl, .tmp rfl, (own_nil _ _), rfl⟩
set_option maxHeartbeats 400000 in
theorem grow_some (n : Nat) (hn : 0 < n) (hm : n ≤ 1099511627776) : Fx Try.prog G [] 68 #[nilS, ii n] (fun v l1 nw => l1 = [] ∧ ∃ v', v = v' ∧ OwnS 5 1 v' 0 [] nw) := by
  refine QfN Try.func68 ?_
  refine Qs<|Qp<|(Qa)<|Qn<|Qs<|Qs<|Qp<|(Qm)<|(Ql)<|(Qaf)<|Qn<|(Qcf)<|Qk<|Qs<|Qs<|Qp<|(Qm)<|(Qm) ?_
  refine e_capSl (Uu 31) rfl rfl rfl ?_
  refine (Qm)<|(QC (shows_nil [] 1)) ?_
  refine e_sub_in rfl rfl rfl (by omega) (by omega) ?_
  refine e_as (show _ = ii 0 from rfl) ?_
  refine e_sub_in rfl rfl rfl (by omega) (by omega) ?_
  refine e_as (show _ = ii n from rfl) ?_
  refine (Qa)<|Qn<|Qs<|Qp<|(Qm)<|(QG)<|(Qat)<|Qn<|(Qct)<|Qp<|(Qm)<|(Qm) ?_
  refine e_capSl (Uu 31) rfl rfl rfl ?_
  refine e_sliceV 0 0 (shows_nil [] 1) (Uu 31) (Uz 5) rfl rfl rfl rfl ⟨_, rfl⟩ (by omega) (by omega) rfl ?_
  refine (Qm) ?_
  refine e_appendZ 0 (Uu 31) (Uu 3) (Uz 5) (Uy 5) (Ub 5) rfl rfl rfl (by omega) (by simp only [maxLen]; omega) (by omega) rfl fun v3_1 oz3_1 xs3_1 ho3_1 => ?_
  refine (Qm)<|(QC (shows_nil [] 1)) ?_
  refine e_sliceV 0 0 ho3_1.shows (Uu 31) (Uz 5) rfl rfl rfl rfl ⟨_, rfl⟩ (by omega) (by omega) rfl ?_
  refine (Qa)<|Qn<|Qs<|Qp<|(Qm)<|(Qa)<|Qn<|Qr ?_
  exact ⟨_, _, _, 0, rfl, .tmp rfl, (own_fix (OwnS.cut ho3_1 (Nat.zero_le _)) rfl rfl), rfl⟩
end Go.Proofs.Ytmhpifphohcfmaa
namespace Go.Proofs.Ytmhpifphohcfmaa
open Go Go.RowKit
theorem grow_fn {G : Mem} (n : Nat) (hm : n ≤ 1099511627776) : Fx Try.prog G [] 68 #[nilS, ii n] (fun v l1 nw => l1 = [] ∧ ∃ v', v = v' ∧ OwnS 5 1 v' 0 [] nw) := by
  by_cases h : n = 0
  · exact grow_zero n h
  · exact grow_some n (by omega) hm
variable {G : Mem}
set_option maxHeartbeats 2000000 in
theorem concat_fn (v : Value) (vs : List Value) (ls : List (List Nat)) (hv : Shows G 1 v vs.length vs) (hL : ShowsL G vs ls) (hn : vs.length ≤ 1099511627776) (hm : ls.flatten.length ≤ 1099511627776) : Fx Try.prog G [] 52 #[v] (fun v l1 nw => l1 = [] ∧ ∃ v', v = v' ∧ OwnS 5 1 v' ls.flatten.length (ls.flatten.map by8) nw) := by
  have hvl := hL.1
  have hup := upto_le ls
  refine QfN Try.func52 ?_
  refine Qs<|Qp<|(Qa)<|Qn<|Qs<|Qp<|(Qa)<|Qn<|Qs<|Qs<|Qp<|(Qm)<|(QC hv)<|(Qm)<|Qn<|Qb ?_
  refine QzK [(0, _), (2, _), (9, _), (10, _)] [] (fun kk E m => ∃ (i : Nat) (s : Nat), kk = vs.length - i ∧ E = [(3, ii s), (11, ii i)] ∧ m = [] ∧ (i ≤ vs.length) ∧ (s = (upto ls i).length)) ⟨0, 0, rfl, rfl, rfl, by omega, rfl⟩ ⟨rfl, rfl, rfl, rfl, rfl, rfl, trivial⟩ trivial ?_
  rintro kk E m ⟨i, s, rfl, rfl, rfl, hf0_0, hf0_1⟩
  simp only [catE, catL]
  have hs1 := hup (i + 1)
  have hs2 : i < ls.length → (upto ls (i + 1)).length = (upto ls i).length + (ls.getD i []).length := fun h => by rw [upto_next h, List.length_append]
  refine Qs<|Qp<|(Ql)<|Qn<|Qs ?_
  refine e_cond rfl ?_ ?_
  · intro hc0
    have hc0 : i < vs.length := by have := of_decide_eq_true hc0; omega
    refine Qk<|Qs<|Qb<|Qs<|Qp ?_
    refine e_atV hv (Uu 101) (Uz 31) rfl rfl (by omega) rfl ?_
    refine (QS) ?_
    refine e_loadV hv seenG (Uu 31) rfl rfl (get_getD (by omega)) rfl ?_
    refine (Qa)<|Qn<|Qs<|Qp<|(Qm)<|(Qm)<|(QC (hL.2 i (by omega))) ?_
    refine e_add_i rfl rfl rfl (by have := hs2 (by omega); omega) ?_
    refine (Qa)<|Qn<|Qs<|Qp<|(Qm)<|(Ql)<|(Qaf)<|Qn<|(Qcf)<|Qk<|Qp<|(Q2 1)<|(Qm)<|Qn ?_
    refine QzL ⟨i + 1, _, rfl, rfl, rfl, by omega, (by rw [upto_next (by omega), List.length_append, hf0_1])⟩ ⟨rfl, rfl, rfl, rfl, rfl, rfl, trivial⟩ trivial ?_
    omega
  · intro hc0
    have hc0 := of_decide_eq_false hc0
    have hz0 : i = vs.length := by omega
    refine Qe<|Qs<|QR ⟨[], 4, [], none⟩<|(Qm) ?_
    refine e_callN 0 (fun v => v) rfl rfl (Un 68) seenG (grow_fn s (by have := hup i; omega)) (by decide) rfl rfl rfl fun v2_1 oz2_1 ho2_1 => ?_
    refine (Qa)<|Qn<|Qs<|Qs<|Qp<|(Qm)<|(QC hv)<|(Qm)<|Qn<|Qb ?_
    refine QzK [(0, _), (2, _), (3, _), (9, _), (10, _), (11, _), (25, _), (26, _)] [] (fun kk E m => ∃ (j : Nat) (w : Value) (oz : Option Blk), kk = vs.length - j ∧ E = [(6, w), (27, ii j)] ∧ m = [(0, oz)] ∧ (j ≤ vs.length) ∧ (OwnS 5 1 w (upto ls j).length ((upto ls j).map by8) (Option.toList oz))) ⟨0, v2_1, oz2_1, rfl, rfl, rfl, by omega, ho2_1⟩ ⟨rfl, rfl, rfl, rfl, rfl, rfl, rfl, rfl, rfl, rfl, trivial⟩ ⟨rfl, trivial⟩ ?_
    rintro kk E m ⟨j, w, oz, rfl, rfl, rfl, hf1_0, hf1_1⟩
    simp only [catE, catL]
    have hs3 := hup (j + 1)
    have hs4 : j < ls.length → (upto ls (j + 1)).length = (upto ls j).length + (ls.getD j []).length := fun h => by rw [upto_next h, List.length_append]
    refine Qs<|Qp<|(Ql)<|Qn<|Qs ?_
    refine e_cond rfl ?_ ?_
    · intro hc2
      have hc2 : j < vs.length := by have := of_decide_eq_true hc2; omega
      refine Qk<|Qs<|Qb<|Qs<|Qp ?_
      refine e_atV hv (Uu 101) (Uz 31) rfl rfl (by omega) rfl ?_
      refine (QS) ?_
      refine e_loadV hv seenG (Uu 31) rfl rfl (get_getD (by omega)) rfl ?_
      refine (Qa)<|Qn<|Qp<|(Qm)<|(Qm) ?_
      refine e_append 0 hf1_1 (hL.2 j (by omega)) rfl seenG (Uu 31) (Uz 5) (Uy 5) (Ub 5) (by rfl) rfl rfl by8_one (by have := hs4 (by omega); simp only [maxLen]; omega) (by have := hs4 (by omega); omega) rfl fun v3_2 oz3_2 ho3_2 => ?_
      refine (Qa)<|Qn<|Qp<|(Q2 1)<|(Qm)<|Qn ?_
      refine QzL ⟨j + 1, _, _, rfl, rfl, rfl, by omega, (own_fix ho3_2 (by rw [upto_next (by omega), List.length_append]) (by rw [upto_next (by omega), List.map_append]))⟩ ⟨rfl, rfl, rfl, rfl, rfl, rfl, rfl, rfl, rfl, rfl, trivial⟩ ⟨rfl, trivial⟩ ?_
      omega
    · intro hc2
      have hc2 := of_decide_eq_false hc2
      have hz1 : j = vs.length := by omega
      refine Qe<|Qs<|Qp<|(Qm)<|(Qa)<|Qn<|Qr ?_
      exact ⟨_, _, _, 0, rfl, .tmp rfl, (own_fix hf1_1 (by rw [hz1, hvl, upto_all]) (by rw [hz1, hvl, upto_all])), rfl⟩
set_option maxHeartbeats 400000 in
theorem dfill_fn (n : Nat) : Fx Try.prog G [] 53 #[ii n] (fun v l1 nw => l1 = [] ∧ ∃ v', v = v' ∧ OwnS 5 1 v' ((16 - n % 16) % 16) ((zrs ((16 - n % 16) % 16)).map by8) nw) := by
  refine QfN Try.func53 ?_
  refine Qs<|Qp<|(Qa)<|Qn<|Qs<|Qp<|(Qm)<|(Q4 16) ?_
  refine e_sub_in (p := 16) rfl rfl rfl (by omega) (by omega) ?_
  refine (Q4 16) ?_
  refine e_make 0 (Uu 31) (Uz 5) (Uy 5) (Ub 5) rfl rfl rfl (by omega) (by omega) rfl fun r1 => ?_
  refine (Qa)<|Qn<|Qr ?_
  exact ⟨_, _, _, 0, rfl, .tmp rfl, (own_made (zrs_len _) (by simp only [maxLen]; omega) (fun j hj => zrs_at hj)), rfl⟩
set_option maxHeartbeats 2000000 in
theorem deight_fn (n : Nat) : Fx Try.prog G [] 54 #[ii n] (fun v l1 nw => l1 = [] ∧ ∃ v', v = v' ∧ OwnS 5 1 v' 8 ((lowl n 8).map by8) nw) := by
  refine QfN Try.func54 ?_
  refine Qs<|Qp<|(Qa)<|Qn<|Qs<|Qp ?_
  refine e_make 0 (l := 8) (Uu 31) (Uz 5) (Uy 5) (Ub 5) rfl rfl rfl (by omega) (by omega) rfl fun r1 => ?_
  refine (Qa)<|Qn<|Qs<|Qs<|Qp<|(Qm) ?_
  refine e_lenSl (Uu 31) rfl rfl rfl ?_
  refine (Qm)<|Qn<|Qb ?_
  refine QzK [(0, _), (2, _), (3, _), (7, _)] [] (fun kk E m => ∃ (i : Nat) (s : Nat → Nat), kk = 8 - i ∧ E = [(8, ii i)] ∧ m = [(0, some ⟨r1, arr .u8 8 s, 5⟩)] ∧ (i ≤ 8) ∧ (∀ t, t < i → s t = (lowl n 8).getD t 0)) ⟨0, fun _ => 0, rfl, rfl, rfl, by omega, fun t ht => absurd ht (Nat.not_lt_zero t)⟩ ⟨rfl, rfl, rfl, rfl, rfl, trivial⟩ ⟨rfl, trivial⟩ ?_
  rintro kk E m ⟨i, s, rfl, rfl, rfl, hf0_0, hf0_1⟩
  simp only [catE, catL]
  refine Qs<|Qp<|(Ql)<|Qn<|Qs ?_
  refine e_cond rfl ?_ ?_
  · intro hc0
    have hc0 : i < 8 := by have := of_decide_eq_true hc0; omega
    refine Qk<|Qs<|Qb<|Qs<|Qp<|(Qm)<|(Qa)<|Qn<|Qp<|(Qm)<|(Qm)<|(Qm)<|(Qm)<|(Q7 8) ?_
    refine e_shr_i rfl rfl rfl (by omega) ?_
    refine e_conv_u8 (Uu 3) (Uu 5) rfl rfl rfl ?_
    refine e_atSl (i) (Uu 31) (Uz 5) rfl rfl (by omega) (by omega) rfl ?_
    refine (Qu 0)<|Qn<|Qp<|(Q2 1)<|(Qm)<|Qn ?_
    refine QzL ⟨i + 1, upd s i _, rfl, rfl, rfl, by omega, upd_lt hf0_1 (low_at n (by omega))⟩ ⟨rfl, rfl, rfl, rfl, rfl, trivial⟩ ⟨rfl, trivial⟩ ?_
    omega
  · intro hc0
    have hc0 := of_decide_eq_false hc0
    have hz0 : i = 8 := by omega
    subst hz0
    refine Qe<|Qs<|Qp<|(Qm)<|(Qa)<|Qn<|Qr ?_
    exact ⟨_, _, _, 0, rfl, .tmp rfl, (own_made (lowl_len n 8) (by decide) hf0_1), rfl⟩
end Go.Proofs.Ytmhpifphohcfmaa
namespace Go.Proofs.Ytmhpifphohcfmaa
open Go Go.RowKit
variable {G : Mem}
set_option maxHeartbeats 4000000 in
theorem dsummed_fn (va vt : Value) (ad tx : List Nat) (hva : Sh G va ad) (hvt : Sh G vt tx) (hal : ad.length ≤ 10000) (htl : tx.length ≤ 10000) : Fx Try.prog G [] 41 #[va, vt] (fun v l1 nw => l1 = [] ∧ ∃ v', v = v' ∧ OwnS 5 1 v' (macIn ad tx).length ((macIn ad tx).map by8) nw) := by
  have hml := macIn_len ad tx
  have hse := summed_eq ad tx
  refine QfN Try.func41 ?_
  refine Qs<|Qp<|(Qa)<|Qn<|Qs<|QR ⟨[], 4, [], none⟩<|(Qm)<|(Qm)<|(QC hva) ?_
  refine e_callN 0 (fun v => v) rfl rfl (Un 53) seenG (dfill_fn ad.length) (by simp only [maxLen]; omega) (by rw [List.length_map, zrs_len, Nat.mul_one]) rfl rfl fun v1_1 oz1_1 ho1_1 => ?_
  refine (Qm)<|(Qm)<|(QC hvt) ?_
  refine e_callN 1 (fun v => v) rfl rfl (Un 53) seenG (dfill_fn tx.length) (by simp only [maxLen]; omega) (by rw [List.length_map, zrs_len, Nat.mul_one]) rfl rfl fun v1_2 oz1_2 ho1_2 => ?_
  refine (Qm)<|(QC hva) ?_
  refine e_callN 2 (fun v => v) rfl rfl (Un 54) seenG (deight_fn ad.length) (by simp only [maxLen]; omega) (by rw [List.length_map, lowl_len]) rfl rfl fun v1_3 oz1_3 ho1_3 => ?_
  refine (Qm)<|(QC hvt) ?_
  refine e_callN 3 (fun v => v) rfl rfl (Un 54) seenG (deight_fn tx.length) (by simp only [maxLen]; omega) (by rw [List.length_map, lowl_len]) rfl rfl fun v1_4 oz1_4 ho1_4 => ?_
  refine e_buildSl 4 [va, v1_1, vt, v1_2, v1_3, v1_4].toArray (Uu 101) (Uz 31) (Ub 31) (by decide) (by decide) rfl (fill_ones [va, v1_1, vt, v1_2, v1_3, v1_4] 0 _ (by intro v hv; simp only [List.mem_cons, List.not_mem_nil, or_false] at hv; rcases hv with rfl | rfl | rfl | rfl | rfl | rfl; exact shows_one hva; exact shows_one ho1_1.shows; exact shows_one hvt; exact shows_one ho1_2.shows; exact shows_one ho1_3.shows; exact shows_one ho1_4.shows) (by simp)) rfl fun r5 => ?_
  refine e_callN 5 (fun v => v) rfl rfl (Un 52) (seen_app seenG (seen_app (seenM 0 rfl ⟨[], trivial⟩) (seen_app (seenM 1 rfl ⟨[], trivial⟩) (seen_app (seenM 2 rfl ⟨[], trivial⟩) (seen_app (seenM 3 rfl ⟨[], trivial⟩) (seen1 4 rfl ⟨[], trivial⟩)))))) (concat_fn (G := (G ++ (oz1_1.toList ++ (oz1_2.toList ++ (oz1_3.toList ++ (oz1_4.toList ++ [(⟨r5, [va, v1_1, vt, v1_2, v1_3, v1_4].toArray, 31⟩ : Blk)])))))) (.slice (some ⟨r5, 0, none⟩) 6 6) [va, v1_1, vt, v1_2, v1_3, v1_4] [ad, zrs ((16 - ad.length % 16) % 16), tx, zrs ((16 - tx.length % 16) % 16), lowl ad.length 8, lowl tx.length 8] (Shows.mono (shows_new (r := r5) (len := 6) (z := 1) [va, v1_1, vt, v1_2, v1_3, v1_4].toArray 31 rfl) (fun x h => (List.mem_append_right _ (List.mem_append_right _ (List.mem_append_right _ (List.mem_append_right _ (List.mem_append_right _ h))))))) (showsL_cons (hva.mono (fun x h => (List.mem_append_left _ h))) (showsL_cons (Shows.mono (OwnS.shows (own_fix ho1_1 (zrs_len _).symm rfl)) (fun x h => (List.mem_append_right _ (List.mem_append_left _ h)))) (showsL_cons (hvt.mono (fun x h => (List.mem_append_left _ h))) (showsL_cons (Shows.mono (OwnS.shows (own_fix ho1_2 (zrs_len _).symm rfl)) (fun x h => (List.mem_append_right _ (List.mem_append_right _ (List.mem_append_left _ h))))) (showsL_cons (Shows.mono (OwnS.shows (own_fix ho1_3 (lowl_len ad.length 8).symm rfl)) (fun x h => (List.mem_append_right _ (List.mem_append_right _ (List.mem_append_right _ (List.mem_append_left _ h)))))) (showsL_cons (Shows.mono (OwnS.shows (own_fix ho1_4 (lowl_len tx.length 8).symm rfl)) (fun x h => (List.mem_append_right _ (List.mem_append_right _ (List.mem_append_right _ (List.mem_append_right _ (List.mem_append_left _ h))))))) (showsL_nil _))))))) (Nat.le_of_ble_eq_true rfl) (by rw [hse]; omega)) (by rw [hse]; simp only [maxLen]; omega) (by rw [List.length_map, Nat.mul_one]) rfl rfl fun v1_5 oz1_5 ho1_5 => ?_
  refine (Qa)<|Qn<|Qr ?_
  exact ⟨_, _, _, 5, rfl, .tmp rfl, (own_fix ho1_5 (by rw [hse]) (by rw [hse])), rfl⟩
set_option maxHeartbeats 400000 in
theorem dsame_fn (f g : Nat → Nat) : Fn Try.prog G 37 #[.agg (arr .u8 16 f), .agg (arr .u8 16 g)] (.bool (decide (agr f g 16 = 0))) := by
  refine Qf1 Try.func37 ?_
  refine Qs<|Qp<|(Qh 0) fun r1=>(Qh 1) fun r2=>(Qa)<|Qn<|Qs<|Qp<|(Qa)<|Qn<|Qs<|Qs<|Qp<|(Qm)<|Qn<|Qb ?_
  refine QzK [(2, _), (3, _), (4, _)] [(0, _), (1, _)] (fun kk E m => ∃ (i : Nat), kk = 16 - i ∧ E = [(5, by8 (agr f g i)), (7, ii i)] ∧ m = [] ∧ (i ≤ 16)) ⟨0, rfl, rfl, rfl, by omega⟩ ⟨rfl, rfl, rfl, rfl, rfl, trivial⟩ ⟨rfl, rfl, trivial⟩ ?_
  rintro kk E m ⟨i, rfl, rfl, rfl, hf0_0⟩
  simp only [catE, catL]
  refine Qs<|Qp<|(Ql)<|Qn<|Qs ?_
  refine e_cond rfl ?_ ?_
  · intro hc0
    have hc0 : i < 16 := by have := of_decide_eq_true hc0; omega
    refine Qk<|Qs<|Qb<|Qs<|Qp<|(Qm)<|(Qa)<|Qn<|(Qg)<|(Qm)<|(Qm)<|(Qi)<|(Q1 0)<|(Qm)<|(Qi)<|(Q1 1) ?_
    refine e_xor_b rfl rfl rfl  ?_
    refine e_or_b rfl rfl rfl  ?_
    refine (Qa)<|Qn<|Qp<|(Q2 1)<|(Qm)<|Qn ?_
    refine QzL ⟨i + 1, rfl, rfl, rfl, by omega⟩ ⟨rfl, rfl, rfl, rfl, rfl, trivial⟩ ⟨rfl, rfl, trivial⟩ ?_
    omega
  · intro hc0
    have hc0 := of_decide_eq_false hc0
    have hz0 : i = 16 := by omega
    subst hz0
    refine Qe<|Qs<|Qp<|(Qm)<|(Qc) ?_
    refine e_as (show _ = Value.bool (decide (agr f g 16 = 0)) from congrArg Value.bool (decide_eq_decide.2 (by omega))) ?_
    refine (Qa)<|Qn<|Qr ?_
    exact ⟨_, rfl, .tmp rfl⟩
set_option maxHeartbeats 400000 in
theorem dstream_fn (k nn : Nat → Nat) (v : Value) (l : List Nat) (hk : L8 32 k) (hn : L8 12 nn) (hv : Sh G v l) (hl : l.length ≤ 1600) : Fx Try.prog G [] 32 #[.agg (arr .u8 32 k), .agg (arr .u8 12 nn), v] (fun v l1 nw => l1 = [] ∧ ∃ v', v = v' ∧ OwnS 5 1 v' l.length ((strl k 1 nn l 0).map by8) nw) := by
  refine QfN Try.func32 ?_
  refine Qs<|Qp<|(Qh 0) fun r1=>(Qh 1) fun r2=>(Qa)<|Qn<|Qs<|QR ⟨[], 4, [], none⟩<|(Qd 0)<|(Qd 1)<|(Qm) ?_
  refine e_callN 2 (fun v => .tuple #[v, ii 0]) rfl rfl (Un 38) seenG (stream_ok k 1 nn v l hv hk hn (by decide) (by omega) (by omega)) (by simp only [maxLen]; omega) (by rw [List.length_map, strl_len, Nat.mul_one]) rfl rfl fun v1_1 oz1_1 ho1_1 => ?_
  refine (Qm)<|(Qx)<|(Qx)<|(Qa)<|(Qa)<|Qn<|Qs<|Qp<|(Qm)<|(Qa)<|Qn<|Qr ?_
  exact ⟨_, _, _, 2, rfl, .tmp rfl, ho1_1, rfl⟩
end Go.Proofs.Ytmhpifphohcfmaa
namespace Go.Proofs.Ytmhpifphohcfmaa
open Go Go.RowKit
variable {G : Mem}
set_option maxHeartbeats 4000000 in
theorem dtagOf_fn (k nn : Nat → Nat) (va vt : Value) (ad tx : List Nat) (hva : Sh G va ad) (hvt : Sh G vt tx) (hk : L8 32 k) (hn : L8 12 nn) (hab : (∀ b ∈ ad, b < 256)) (htb : (∀ b ∈ tx, b < 256)) (hal : ad.length ≤ 10000) (htl : tx.length ≤ 10000) : Fn Try.prog G 33 #[.agg (arr .u8 32 k), .agg (arr .u8 12 nn), va, vt] (.agg (arr .u8 16 (ptg (okey k nn) (macIn ad tx)))) := by
  have hml := macIn_len ad tx
  refine Qf1 Try.func33 ?_
  refine Qs<|Qp<|(Qh 0) fun r1=>(Qh 1) fun r2=>(QH 2) fun r3=>Qn<|Qs<|Qp<|(Qd 0)<|(Qd 1) ?_
  refine e_call rfl (Un 39) (block_fn k 0 nn hk hn (by decide)) rfl rfl ?_
  refine (QH 3) fun r4=>(Qt 3)<|Qn<|Qs<|(Qq ⟨[], 4, [], none⟩) ?_
  refine e_sliceA 0 32 (Uu 66) (Uz 5) rfl rfl rfl rfl ⟨_, rfl⟩ (by omega) (by omega) (by omega) rfl ?_
  refine e_toArr (Uu 23) rfl (by omega) rfl ?_
  refine e_loadS (i := 3) (Uu 23) rfl (Uz 23) rfl rfl (by omega) rfl ⟨[], trivial⟩ ?_
  refine e_as (congrArg Value.agg (arr_congr (fun j _ => show blkf k 0 nn (0 + j) = okey k nn j by rw [Nat.zero_add]; rfl))) ?_
  refine (Qm)<|(Qm) ?_
  refine e_callN 4 (fun v => v) rfl rfl (Un 41) seenG (dsummed_fn va vt ad tx hva hvt hal htl) (by simp only [maxLen]; omega) (by rw [List.length_map, Nat.mul_one]) rfl rfl fun v1_1 oz1_1 ho1_1 => ?_
  refine e_callV oz1_1.toList rfl rfl (Un 40) (subM_opt (i := 4) rfl) (dtag_fn (okey k nn) _ (macIn ad tx) (okey_lt k nn) (macIn_lt hab htb) (by omega) ho1_1.shows) rfl rfl rfl ?_
  refine (Qt 2)<|Qn<|Qr ?_
  exact ⟨_, rfl, .cell (i := 2) rfl rfl (Uu 59) rfl (Uz 59) (arr_size _ _ _)⟩
end Go.Proofs.Ytmhpifphohcfmaa
namespace Go.Proofs.Ytmhpifphohcfmaa
open Go Go.RowKit
variable {G : Mem}
set_option maxHeartbeats 400000 in
theorem dseal_big1 (k nn : Nat → Nat) (va vt : Value) (ad : List Nat) (hva : Sh G va ad) (h : 200 < ad.length) : Fn Try.prog G 22 #[.agg (arr .u8 32 k), .agg (arr .u8 12 nn), va, vt] (.tuple #[nilS, ii 1]) := by
  refine Qf2 Try.func22 ?_
  refine Qs<|Qp<|(Qh 0) fun r1=>(Qh 1) fun r2=>(Qa)<|(Qa)<|Qn<|Qs<|Qs<|Qp<|(Qm)<|(QC hva)<|(QG)<|(Qat)<|(Qm)<|(Qo)<|(Qo)<|(Qo)<|(QT)<|Qn<|(Qct)<|Qs<|Qp<|(Qa)<|(Qa)<|Qn<|Qr ?_
  exact ⟨_, _, rfl, .tmp rfl, .tmp rfl⟩
set_option maxHeartbeats 400000 in
theorem dseal_big2 (k nn : Nat → Nat) (va vt : Value) (ad tx : List Nat) (hva : Sh G va ad) (hvt : Sh G vt tx) (h : ad.length ≤ 200) (h2 : 800 < tx.length) : Fn Try.prog G 22 #[.agg (arr .u8 32 k), .agg (arr .u8 12 nn), va, vt] (.tuple #[nilS, ii 1]) := by
  refine Qf2 Try.func22 ?_
  refine Qs<|Qp<|(Qh 0) fun r1=>(Qh 1) fun r2=>(Qa)<|(Qa)<|Qn<|Qs<|Qs<|Qp<|(Qm)<|(QC hva)<|(QG)<|(Qaf)<|(Qm)<|(Qy)<|(Qm)<|(Qy)<|(QC hvt)<|(Qy)<|(QG)<|(Qat)<|(QF)<|Qn<|(Qct)<|Qs<|Qp<|(Qa)<|(Qa)<|Qn<|Qr ?_
  exact ⟨_, _, rfl, .tmp rfl, .tmp rfl⟩
set_option maxHeartbeats 4000000 in
theorem dseal_ok (k nn : Nat → Nat) (va vt : Value) (ad tx : List Nat) (hk : L8 32 k) (hn : L8 12 nn) (hva : Sh G va ad) (hvt : Sh G vt tx) (hab : (∀ b ∈ ad, b < 256)) (h : ad.length ≤ 200) (h2 : tx.length ≤ 800) : Fx Try.prog G [] 22 #[.agg (arr .u8 32 k), .agg (arr .u8 12 nn), va, vt] (fun v l1 nw => l1 = [] ∧ ∃ v', v = .tuple #[v', ii 0] ∧ OwnS 5 1 v' (sealL k nn ad tx).length ((sealL k nn ad tx).map by8) nw) := by
  have hsl := strl_len k 1 nn tx 0
  have hse := sealL_len k nn ad tx
  refine QfM Try.func22 ?_
  refine Qs<|Qp<|(Qh 0) fun r1=>(Qh 1) fun r2=>(Qa)<|(Qa)<|Qn<|Qs<|Qs<|Qp<|(Qm)<|(QC hva)<|(QG)<|(Qaf)<|(Qm)<|(Qy)<|(Qm)<|(Qy)<|(QC hvt)<|(Qy)<|(QG)<|(Qaf)<|(QF)<|Qn<|(Qcf)<|Qk<|Qs<|QR ⟨[], 4, [], none⟩<|(Qd 0)<|(Qd 1)<|(Qm) ?_
  refine e_callN 2 (fun v => v) rfl rfl (Un 32) seenG (dstream_fn k nn vt tx hk hn hvt (by omega)) (by simp only [maxLen]; omega) (by rw [List.length_map, strl_len, Nat.mul_one, Nat.sub_zero]) rfl rfl fun v2_1 oz2_1 ho2_1 => ?_
  refine (Qa)<|Qn<|Qs<|Qp<|(Qd 0)<|(Qd 1)<|(Qm)<|(Qm) ?_
  refine e_callS rfl rfl (Un 33) (seen_app seenG (seenM 2 rfl ⟨[], trivial⟩)) (dtagOf_fn (G := G ++ oz2_1.toList) k nn va _ ad (strl k 1 nn tx 0) (hva.mono (fun x h => List.mem_append_left _ h)) ((own_bytes ho2_1).mono (fun x h => List.mem_append_right _ h)) hk hn hab (strl_lt _ _ _ _ _) (by omega) (by omega)) rfl rfl ?_
  refine (QH 3) fun r4=>(Qt 3)<|Qn<|Qs<|Qp<|(Qm) ?_
  refine e_sliceA 0 16 (Uu 59) (Uz 5) rfl rfl rfl rfl rfl (by omega) (by omega) (by omega) rfl ?_
  refine e_append 2 ho2_1 (arr_shows r4 16 (ptg (okey k nn) (macIn ad (strl k 1 nn tx 0))) 59 0 16 16 (by decide) (by decide)) rfl (seen1 3 rfl ⟨[], trivial⟩) (Uu 31) (Uz 5) (Uy 5) (Ub 5) (by rfl) rfl rfl by8_one (by simp only [maxLen]; simp; omega) (by simp; omega) rfl fun v2_2 oz2_2 ho2_2 => ?_
  refine (Qa)<|(Qa)<|Qn<|Qr ?_
  exact ⟨_, _, _, _, 2, rfl, .tmp rfl, .tmp rfl, (own_fix ho2_2 (by rw [hse]; simp) (seal_cells k nn ad tx)), rfl⟩
set_option maxHeartbeats 400000 in
theorem dopen_big1 (k nn : Nat → Nat) (va vt : Value) (ad : List Nat) (hva : Sh G va ad) (h : 200 < ad.length) : Fn Try.prog G 26 #[.agg (arr .u8 32 k), .agg (arr .u8 12 nn), va, vt] (.tuple #[nilS, ii 1]) := by
  refine Qf2 Try.func26 ?_
  refine Qs<|Qp<|(Qh 0) fun r1=>(Qh 1) fun r2=>(Qa)<|(Qa)<|Qn<|Qs<|Qs<|Qp<|(Qm)<|(QC hva)<|(QG)<|(Qat)<|(Qm)<|(Qo)<|(Qo)<|(Qo)<|(QT)<|Qn<|(Qct)<|Qs<|Qp<|(Qa)<|(Qa)<|Qn<|Qr ?_
  exact ⟨_, _, rfl, .tmp rfl, .tmp rfl⟩
set_option maxHeartbeats 400000 in
theorem dopen_big2 (k nn : Nat → Nat) (va vt : Value) (ad tx : List Nat) (hva : Sh G va ad) (hvt : Sh G vt tx) (h : ad.length ≤ 200) (h2 : 816 < tx.length) : Fn Try.prog G 26 #[.agg (arr .u8 32 k), .agg (arr .u8 12 nn), va, vt] (.tuple #[nilS, ii 1]) := by
  refine Qf2 Try.func26 ?_
  refine Qs<|Qp<|(Qh 0) fun r1=>(Qh 1) fun r2=>(Qa)<|(Qa)<|Qn<|Qs<|Qs<|Qp<|(Qm)<|(QC hva)<|(QG)<|(Qaf)<|(Qm)<|(Qy)<|(Qm)<|(Qy)<|(QC hvt)<|(Qy)<|(QG)<|(Qat)<|(QF)<|Qn<|(Qct)<|Qs<|Qp<|(Qa)<|(Qa)<|Qn<|Qr ?_
  exact ⟨_, _, rfl, .tmp rfl, .tmp rfl⟩
set_option maxHeartbeats 400000 in
theorem dopen_short (k nn : Nat → Nat) (va vt : Value) (ad tx : List Nat) (hva : Sh G va ad) (hvt : Sh G vt tx) (h : ad.length ≤ 200) (h2 : tx.length < 16) : Fn Try.prog G 26 #[.agg (arr .u8 32 k), .agg (arr .u8 12 nn), va, vt] (.tuple #[nilS, ii 4]) := by
  refine Qf2 Try.func26 ?_
  refine Qs<|Qp<|(Qh 0) fun r1=>(Qh 1) fun r2=>(Qa)<|(Qa)<|Qn<|Qs<|Qs<|Qp<|(Qm)<|(QC hva)<|(QG)<|(Qaf)<|(Qm)<|(Qy)<|(Qm)<|(Qy)<|(QC hvt)<|(Qy)<|(QG)<|(Qaf)<|(QF)<|Qn<|(Qcf)<|Qk<|Qs<|Qs<|Qp<|(Qm)<|(QC hvt)<|(Ql)<|(Qat)<|Qn<|(Qct)<|Qs<|Qp<|(Qa)<|(Qa)<|Qn<|Qr ?_
  exact ⟨_, _, rfl, .tmp rfl, .tmp rfl⟩
set_option maxHeartbeats 4000000 in
theorem dopen_auth (k nn : Nat → Nat) (va vt : Value) (ad tx : List Nat) (hk : L8 32 k) (hn : L8 12 nn) (hva : Sh G va ad) (hvt : Sh G vt tx) (hab : (∀ b ∈ ad, b < 256)) (htb : (∀ b ∈ tx, b < 256)) (h : ad.length ≤ 200) (h2 : 16 ≤ tx.length) (h3 : tx.length ≤ 816) (ho : ¬ opensL k nn ad tx) : Fn Try.prog G 26 #[.agg (arr .u8 32 k), .agg (arr .u8 12 nn), va, vt] (.tuple #[nilS, ii 10]) := by
  have hv1 : Shows G 1 (slPart 1 vt 0 (tx.length - 16)) (tx.take (tx.length - 16)).length ((tx.take (tx.length - 16)).map by8) := hvt.cut (by omega) (by omega) (by simp)
  have hv2 : Shows G 1 (slPart 1 vt (tx.length - 16) tx.length) (tx.drop (tx.length - 16)).length ((tx.drop (tx.length - 16)).map by8) := hvt.cut (by omega) (by omega) (by rw [List.take_of_length_le (by simp)])
  refine Qf2 Try.func26 ?_
  refine Qs<|Qp<|(Qh 0) fun r1=>(Qh 1) fun r2=>(Qa)<|(Qa)<|Qn<|Qs<|Qs<|Qp<|(Qm)<|(QC hva)<|(QG)<|(Qaf)<|(Qm)<|(Qy)<|(Qm)<|(Qy)<|(QC hvt)<|(Qy)<|(QG)<|(Qaf)<|(QF)<|Qn<|(Qcf)<|Qk<|Qs<|Qs<|Qp<|(Qm)<|(QC hvt)<|(Ql)<|(Qaf)<|Qn<|(Qcf)<|Qk<|Qs<|Qp<|(Qm)<|(QC hvt) ?_
  refine e_sub_in (q := 16) rfl rfl rfl (by omega) (by omega) ?_
  refine (Qa)<|Qn<|Qs<|Qs<|(Qg)<|(Qm)<|(Qm) ?_
  refine e_sliceV (tx.length - 16) tx.length hvt (Uu 31) (Uz 5) rfl rfl rfl ⟨_, rfl⟩ rfl (by omega) (by omega) rfl ?_
  refine e_toArrV hv2 (Uu 59) rfl (by decide) (by rw [List.length_drop]; omega) rfl ?_
  refine e_loadVS hv2 seenG (Uu 59) rfl (Uz 59) rfl (by decide) (by simp; omega) rfl rfl ?_
  refine e_as (last_cells (by rw [List.length_drop]; omega)) ?_
  refine (Qd 0)<|(Qd 1)<|(Qm)<|(Qm)<|(Qm) ?_
  refine e_sliceV 0 (tx.length - 16) hvt (Uu 31) (Uz 5) rfl rfl rfl rfl ⟨_, rfl⟩ (by omega) (by omega) rfl ?_
  refine e_call rfl (Un 33) (dtagOf_fn k nn va _ ad (tx.take (tx.length - 16)) hva hv1 hk hn hab (fun x hx => htb x (List.mem_of_mem_take hx)) (by omega) (by simp; omega)) rfl rfl ?_
  refine e_call rfl (Un 37) (dsame_fn _ _) rfl rfl ?_
  refine e_as (congrArg Value.bool (decide_eq_false (fun e => ho ((opens_iff k nn h2 htb).1 e)))) ?_
  refine (Q0)<|Qn<|(Qct)<|Qs<|Qp<|(Qa)<|(Qa)<|Qn<|Qr ?_
  exact ⟨_, _, rfl, .tmp rfl, .tmp rfl⟩
set_option maxHeartbeats 4000000 in
theorem dopen_ok (k nn : Nat → Nat) (va vt : Value) (ad tx : List Nat) (hk : L8 32 k) (hn : L8 12 nn) (hva : Sh G va ad) (hvt : Sh G vt tx) (hab : (∀ b ∈ ad, b < 256)) (htb : (∀ b ∈ tx, b < 256)) (h : ad.length ≤ 200) (h2 : 16 ≤ tx.length) (h3 : tx.length ≤ 816) (ho : opensL k nn ad tx) : Fx Try.prog G [] 26 #[.agg (arr .u8 32 k), .agg (arr .u8 12 nn), va, vt] (fun v l1 nw => l1 = [] ∧ ∃ v', v = .tuple #[v', ii 0] ∧ OwnS 5 1 v' (openL k nn tx).length ((openL k nn tx).map by8) nw) := by
  have hv1 : Shows G 1 (slPart 1 vt 0 (tx.length - 16)) (tx.take (tx.length - 16)).length ((tx.take (tx.length - 16)).map by8) := hvt.cut (by omega) (by omega) (by simp)
  have hv2 : Shows G 1 (slPart 1 vt (tx.length - 16) tx.length) (tx.drop (tx.length - 16)).length ((tx.drop (tx.length - 16)).map by8) := hvt.cut (by omega) (by omega) (by rw [List.take_of_length_le (by simp)])
  have htl : (tx.take (tx.length - 16)).length = tx.length - 16 := by simp
  have hol := openL_len k nn tx
  refine QfM Try.func26 ?_
  refine Qs<|Qp<|(Qh 0) fun r1=>(Qh 1) fun r2=>(Qa)<|(Qa)<|Qn<|Qs<|Qs<|Qp<|(Qm)<|(QC hva)<|(QG)<|(Qaf)<|(Qm)<|(Qy)<|(Qm)<|(Qy)<|(QC hvt)<|(Qy)<|(QG)<|(Qaf)<|(QF)<|Qn<|(Qcf)<|Qk<|Qs<|Qs<|Qp<|(Qm)<|(QC hvt)<|(Ql)<|(Qaf)<|Qn<|(Qcf)<|Qk<|Qs<|Qp<|(Qm)<|(QC hvt) ?_
  refine e_sub_in (q := 16) rfl rfl rfl (by omega) (by omega) ?_
  refine (Qa)<|Qn<|Qs<|Qs<|(Qg)<|(Qm)<|(Qm) ?_
  refine e_sliceV (tx.length - 16) tx.length hvt (Uu 31) (Uz 5) rfl rfl rfl ⟨_, rfl⟩ rfl (by omega) (by omega) rfl ?_
  refine e_toArrV hv2 (Uu 59) rfl (by decide) (by rw [List.length_drop]; omega) rfl ?_
  refine e_loadVS hv2 seenG (Uu 59) rfl (Uz 59) rfl (by decide) (by simp; omega) rfl rfl ?_
  refine e_as (last_cells (by rw [List.length_drop]; omega)) ?_
  refine (Qd 0)<|(Qd 1)<|(Qm)<|(Qm)<|(Qm) ?_
  refine e_sliceV 0 (tx.length - 16) hvt (Uu 31) (Uz 5) rfl rfl rfl rfl ⟨_, rfl⟩ (by omega) (by omega) rfl ?_
  refine e_call rfl (Un 33) (dtagOf_fn k nn va _ ad (tx.take (tx.length - 16)) hva hv1 hk hn hab (fun x hx => htb x (List.mem_of_mem_take hx)) (by omega) (by simp; omega)) rfl rfl ?_
  refine e_call rfl (Un 37) (dsame_fn _ _) rfl rfl ?_
  refine e_as (congrArg Value.bool (decide_eq_true ((opens_iff k nn h2 htb).2 ho))) ?_
  refine (Q0)<|Qn<|(Qcf)<|Qk<|Qs<|(Qq ⟨[], 4, [], none⟩)<|(Qd 0)<|(Qd 1)<|(Qm)<|(Qm) ?_
  refine e_sliceV 0 (tx.length - 16) hvt (Uu 31) (Uz 5) rfl rfl rfl rfl ⟨_, rfl⟩ (by omega) (by omega) rfl ?_
  refine e_callN 2 (fun v => v) rfl rfl (Un 32) seenG (dstream_fn k nn _ (tx.take (tx.length - 16)) hk hn hv1 (by omega)) (by simp only [maxLen]; omega) (by rw [List.length_map, strl_len, Nat.mul_one, Nat.sub_zero]) rfl rfl fun v4_1 oz4_1 ho4_1 => ?_
  refine (Qa)<|(Qa)<|Qn<|Qr ?_
  exact ⟨_, _, _, _, 2, rfl, .tmp rfl, .tmp rfl, (own_fix ho4_1 (by rw [htl, hol]) rfl), rfl⟩
end Go.Proofs.Ytmhpifphohcfmaa
namespace Go.Proofs.Ytmhpifphohcfmaa
open Go Go.RowKit
theorem eqv26 {f0 g0 : Bool} {f1 g1 : Nat → Nat} {f2 g2 : Int} : Eqv Try.prog 10000 26 (.agg (cells 34 [pV (.bool f0), pI .u8 32 f1, pV (.int .u64 f2)])) (.agg (cells 34 [pV (.bool g0), pI .u8 32 g1, pV (.int .u64 g2)])) ([(f0 == g0), allEq 32 f1 g1, (f2 == g2)].all id) := eqv_struct s_und26 (by kernel_rfl) ⟨⟨by decide, _, _, shown_one (k := 0) s_und4 rfl rfl rfl (Nat.le_of_ble_eq_true rfl), shown_one (k := 0) s_und4 rfl rfl rfl (Nat.le_of_ble_eq_true rfl), eqv_bool s_und4⟩, ⟨by decide, _, _, shown_row (k := 1) s_und23 rfl s_siz23 rfl rfl (Nat.le_of_ble_eq_true rfl), shown_row (k := 1) s_und23 rfl s_siz23 rfl rfl (Nat.le_of_ble_eq_true rfl), eqv_arr s_und23 s_und5 s_siz5⟩, ⟨by decide, _, _, shown_one (k := 2) s_und24 rfl rfl rfl (Nat.le_of_ble_eq_true rfl), shown_one (k := 2) s_und24 rfl rfl rfl (Nat.le_of_ble_eq_true rfl), eqv_int s_und24⟩, trivial⟩
variable {G : Mem}
set_option maxHeartbeats 2000000 in
theorem dbeg8_fn (f : Nat → Nat) : Fn Try.prog G 9 #[.agg (arr .u8 32 f)] (CV true f 0) := by
  refine Qf1 Try.func9 ?_
  refine Qs<|Qp<|(Qh 0) fun r1=>(QH 1) fun r2=>Qn<|Qs<|Qp<|(Qd 0) ?_
  refine e_buildS (cells 34 [pV (.bool true), pI .u8 32 f, pV (u 0)]) (Ub 26) (Uu 26) pls26 rfl (by kernel_rfl) rfl ?_
  refine e_storeA (i := 1) (Uz 26) rfl rfl (arrv_size _ _) (cells_one ⟨fun _ => rfl, fun _ => rfl, fun _ => rfl, trivial⟩) rfl cells_sz (.inl rfl) ?_
  refine Qn<|Qr ?_
  exact ⟨_, rfl, .cell (i := 1) rfl rfl (Uu 26) rfl (Uz 26) (arrv_size _ _)⟩
set_option maxHeartbeats 2000000 in
theorem dchk8_fn (has : Bool) (k : Nat → Nat) (n : Nat) : Fn Try.prog G 10 #[CV has k n] (ii (if okC has k n = true then 0 else 9)) := by
  refine Qf1 Try.func10 ?_
  refine Qs<|Qp<|(Qh 0) fun r1=>(Qa)<|Qn<|Qs<|Qs ?_
  rcases ccases has k n with ⟨hk0, hko⟩ | ⟨hk0, hk1, hko⟩ | ⟨hk0, hk1, hk2, hko⟩ | ⟨hk0, hk1, hk2, hko⟩
  · skip
    refine Qp<|(Qf 0)<|(QV 0 0)<|(Q0) ?_
    refine e_as (congrArg (fun z => Value.bool (!z)) hk0) ?_
    refine (Qm)<|(Qo)<|(Qo)<|(Qo)<|(QF)<|Qn ?_
    refine e_cond rfl ?_ ?_
    · intro hc0
      exact absurd hc0 (by decide)
    · intro hc0
      refine Qk<|Qs<|Qp<|(Qa)<|Qn<|Qr ?_
      rw [hko]
      exact ⟨_, rfl, .tmp rfl⟩
  · skip
    refine Qp<|(Qf 0)<|(QV 0 0)<|(Q0) ?_
    refine e_as (congrArg (fun z => Value.bool (!z)) hk0) ?_
    refine (Qm)<|(Qy)<|(QD 0)<|(Qy) ?_
    refine e_buildS (cells 34 [pV (.bool false), pI .u8 32 (fun _ => 0), pV (.int .u64 0)]) (Ub 26) (Uu 26) pls26 rfl (by kernel_rfl) rfl ?_
    refine (Qy) ?_
    refine e_nev eqv26 eqg26 rfl rfl rfl ?_
    refine e_as (congrArg Value.bool (((congrArg (fun z => !([(z == false), allEq 32 k (fun _ => 0), ((n : Int) == 0)].all id)) hk0).trans (okC_ne k n)).trans (congrArg (fun z => !z) (hk0 ▸ hko)))) ?_
    refine (QT)<|Qn ?_
    refine e_cond rfl ?_ ?_
    · intro hc0
      refine Qs<|Qp<|(Qa)<|Qn<|Qr ?_
      rw [hko]
      exact ⟨_, rfl, .tmp rfl⟩
    · intro hc0
      exact absurd hc0 (by decide)
  · skip
    refine Qp<|(Qf 0)<|(QV 0 0)<|(Q0) ?_
    refine e_as (congrArg (fun z => Value.bool (!z)) hk0) ?_
    refine (Qm)<|(Qy)<|(QD 0)<|(Qy) ?_
    refine e_buildS (cells 34 [pV (.bool false), pI .u8 32 (fun _ => 0), pV (.int .u64 0)]) (Ub 26) (Uu 26) pls26 rfl (by kernel_rfl) rfl ?_
    refine (Qy) ?_
    refine e_nev eqv26 eqg26 rfl rfl rfl ?_
    refine e_as (congrArg Value.bool (((congrArg (fun z => !([(z == false), allEq 32 k (fun _ => 0), ((n : Int) == 0)].all id)) hk0).trans (okC_ne k n)).trans (congrArg (fun z => !z) (hk0 ▸ hko)))) ?_
    refine (QT)<|Qn ?_
    refine e_cond rfl ?_ ?_
    · intro hc0
      refine Qs<|Qp<|(Qa)<|Qn<|Qr ?_
      rw [hko]
      exact ⟨_, rfl, .tmp rfl⟩
    · intro hc0
      exact absurd hc0 (by decide)
  · skip
    refine Qp<|(Qf 0)<|(QV 0 0)<|(Q0) ?_
    refine e_as (congrArg (fun z => Value.bool (!z)) hk0) ?_
    refine (Qm)<|(Qy)<|(QD 0)<|(Qy) ?_
    refine e_buildS (cells 34 [pV (.bool false), pI .u8 32 (fun _ => 0), pV (.int .u64 0)]) (Ub 26) (Uu 26) pls26 rfl (by kernel_rfl) rfl ?_
    refine (Qy) ?_
    refine e_nev eqv26 eqg26 rfl rfl rfl ?_
    refine e_as (congrArg Value.bool (((congrArg (fun z => !([(z == false), allEq 32 k (fun _ => 0), ((n : Int) == 0)].all id)) hk0).trans (okC_ne k n)).trans (congrArg (fun z => !z) (hk0 ▸ hko)))) ?_
    refine (QT)<|Qn ?_
    refine e_cond rfl ?_ ?_
    · intro hc0
      exact absurd hc0 (by decide)
    · intro hc0
      refine Qk<|Qs<|Qp<|(Qa)<|Qn<|Qr ?_
      rw [hko]
      exact ⟨_, rfl, .tmp rfl⟩
set_option maxHeartbeats 2000000 in
theorem dnonce_fn (n : Nat) : Fn Try.prog G 31 #[u n] (.agg (arr .u8 12 (nonU n))) := by
  refine Qf1 Try.func31 ?_
  refine Qs<|Qp<|(QH 0) fun r1=>Qn<|Qs<|Qp<|(QH 1) fun r2=>Qn<|Qs<|Qs<|Qp<|(Qm)<|Qn<|Qb ?_
  refine QzK [(0, _), (2, _), (3, _)] [(0, _)] (fun kk E m => ∃ (i : Nat) (s : Nat → Nat), kk = 8 - i ∧ E = [(5, ii i)] ∧ m = [(1, some ⟨r2, arr .u8 12 s, 51⟩)] ∧ (i ≤ 8) ∧ (∀ t, t < 12 → s t = if t < 4 + i then nonU n t else 0)) ⟨0, fun _ => 0, rfl, rfl, rfl, by omega, (non_first n)⟩ ⟨rfl, rfl, rfl, rfl, trivial⟩ ⟨rfl, rfl, trivial⟩ ?_
  rintro kk E m ⟨i, s, rfl, rfl, rfl, hf0_0, hf0_1⟩
  simp only [catE, catL]
  refine Qs<|Qp<|(Ql)<|Qn<|Qs ?_
  refine e_cond rfl ?_ ?_
  · intro hc0
    have hc0 : i < 8 := by have := of_decide_eq_true hc0; omega
    refine Qk<|Qs<|Qb<|Qs<|Qp<|(Qm)<|(Qa)<|Qn<|Qp<|(Qm) ?_
    refine e_add_i (p := 4) rfl rfl rfl (by omega) ?_
    refine (Qm)<|(Qm)<|(Q7 8) ?_
    refine e_shr_u rfl rfl rfl (by omega) ?_
    refine e_conv_u8 (Uu 24) (Uu 5) rfl rfl rfl ?_
    refine (Qi)<|(Qu 1)<|Qn<|Qp<|(Q2 1)<|(Qm)<|Qn ?_
    refine QzL ⟨i + 1, upd s (4 + i) _, rfl, rfl, rfl, by omega, (non_next hf0_1 rfl)⟩ ⟨rfl, rfl, rfl, rfl, trivial⟩ ⟨rfl, rfl, trivial⟩ ?_
    omega
  · intro hc0
    have hc0 := of_decide_eq_false hc0
    have hz0 : i = 8 := by omega
    subst hz0
    refine Qe<|Qs<|Qp<|(Qd 1) ?_
    refine e_as (congrArg Value.agg (arr_congr (non_last rfl hf0_1))) ?_
    refine (Qt 0)<|Qn<|Qr ?_
    exact ⟨_, rfl, .cell (i := 0) rfl rfl (Uu 51) rfl (Uz 51) (arr_size _ _ _)⟩
set_option maxHeartbeats 2000000 in
theorem dplain_big (k : Nat → Nat) (n : Nat) (vt : Value) (tx : List Nat) (hvt : Sh G vt tx) (hl : 800 < tx.length) : Fn Try.prog G 30 #[CV false k n, vt] (.tuple #[CZ, nilS, ii 1]) := by
  refine Qf3 Try.func30 ?_
  refine Qs<|Qp<|(Qh 0) fun r1=>(QH 1) fun r2=>(Qa)<|(Qa)<|Qn<|Qs<|Qs<|Qp<|(Qm)<|(QC hvt)<|(QG)<|(Qat)<|Qn<|(Qct)<|Qs<|Qp ?_
  refine e_buildS (cells 34 [pV (.bool false), pI .u8 32 (fun _ => 0), pV (.int .u64 0)]) (Ub 26) (Uu 26) pls26 rfl (by kernel_rfl) rfl ?_
  refine e_storeA (i := 1) (Uz 26) rfl rfl (arrv_size _ _) (cells_one ⟨fun _ => rfl, fun _ => rfl, fun _ => rfl, trivial⟩) rfl cells_sz (.inl rfl) ?_
  refine (Qa)<|(Qa)<|Qn<|Qr ?_
  exact ⟨_, _, _, rfl, .cell (i := 1) rfl rfl (Uu 26) rfl (Uz 26) (arrv_size _ _), .tmp rfl, .tmp rfl⟩
set_option maxHeartbeats 2000000 in
theorem dplain_ok (k : Nat → Nat) (n : Nat) (vt : Value) (tx : List Nat) (hvt : Sh G vt tx) (hl : tx.length ≤ 800) : Fx Try.prog G [] 30 #[CV false k n, vt] (fun v l1 nw => l1 = [] ∧ ∃ v', v = .tuple #[CV false k n, v', ii 0] ∧ OwnS 5 1 v' tx.length (tx.map by8) nw) := by
  refine QfO Try.func30 ?_
  refine Qs<|Qp<|(Qh 0) fun r1=>(QH 1) fun r2=>(Qa)<|(Qa)<|Qn<|Qs<|Qs<|Qp<|(Qm)<|(QC hvt)<|(QG)<|(Qaf)<|Qn<|(Qcf)<|Qk<|Qs<|(Qq ⟨[r2], 1, [], (some [r1])⟩) ?_
  refine e_loadA (i := 0) (Uu 26) rfl (Uz 26) rfl rfl (arrv_size _ _) rfl ⟨[1], ⟨rfl, rfl, trivial⟩, _, rfl, by simp⟩ ?_
  refine e_buildSl0 2 (Uu 31) (Uz 5) rfl fun r3 => ?_
  refine (Qm) ?_
  refine e_appendL 2 own_none hvt rfl (fun q hq => .inl hq) ⟨[0], rfl, rfl, trivial⟩ (Uu 31) (Uz 5) (Uy 5) (Ub 5) (by rfl) rfl rfl by8_one (by simp only [maxLen]; omega) (by omega) rfl fun v2_1 oz2_1 ho2_1 => ?_
  refine e_storeA (i := 1) (Uz 26) rfl rfl (arrv_size _ _) (cells_one ⟨fun _ => rfl, fun _ => rfl, fun _ => rfl, trivial⟩) rfl cells_sz (.inr (by simp)) ?_
  refine (Qa)<|(Qa)<|Qn<|Qr ?_
  exact ⟨_, _, _, _, _, 2, rfl, .cell (i := 1) rfl rfl (Uu 26) rfl (Uz 26) (arrv_size _ _), .tmp rfl, .tmp rfl, (own_fix ho2_1 (by omega) rfl), rfl⟩
set_option maxHeartbeats 2000000 in
theorem dfollow_fn (k : Nat → Nat) (hk : L8 32 k) : Fn Try.prog G 27 #[.agg (arr .u8 32 k)] (.agg (arr .u8 32 (rek k))) := by
  have hsl : (sealL k (nonU 18446744073709551615) [] (zrs 32)).length = 48 := by rw [sealL_len, zrs_len]
  refine Qf1 Try.func27 ?_
  refine Qs<|Qp<|(Qh 0) fun r1=>(QH 1) fun r2=>Qn<|Qs<|Qp<|(QH 2) fun r3=>Qn<|Qs<|(Qq ⟨[], 4, [], none⟩)<|(Qd 0) ?_
  refine e_call rfl (Un 31) (dnonce_fn 18446744073709551615) rfl rfl ?_
  refine e_sliceA 0 32 (Uu 23) (Uz 5) rfl rfl rfl rfl rfl (by omega) (by omega) (by omega) rfl ?_
  refine e_callN 3 (fun v => .tuple #[v, ii 0]) rfl rfl (Un 22) (seen1 2 rfl ⟨[], trivial⟩) (dseal_ok (G := [(⟨r3, arr .u8 32 (fun _ => 0), 23⟩ : Blk)]) k (nonU 18446744073709551615) _ _ [] (zrs 32) hk (nonU_lt _) (NILG _) (made_shows r3 32 _) (by simp) (by decide) (by rw [zrs_len]; decide)) (by rw [hsl]; decide) (by rw [List.length_map, Nat.mul_one]) rfl rfl fun v1_1 oz1_1 ho1_1 => ?_
  refine (Qm)<|(Qx)<|(Qx)<|(Qa)<|(Qa)<|Qn<|Qs<|Qp<|(QH 4) fun r5=>Qn<|Qs<|Qp ?_
  refine e_sliceA 0 32 (Uu 23) (Uz 5) rfl rfl rfl rfl rfl (by omega) (by omega) (by omega) rfl ?_
  refine (Qm) ?_
  refine e_copyB (i := 4) (Uu 31) (Uz 5) ho1_1.shows (seenM 3 rfl ⟨[], trivial⟩) rfl rfl rfl (by omega) rfl ?_
  refine Qn<|Qs<|Qp<|(Qd 4) ?_
  refine e_as (congrArg Value.agg (arr_congr (rek_copy k))) ?_
  refine (Qt 1)<|Qn<|Qr ?_
  exact ⟨_, rfl, .cell (i := 1) rfl rfl (Uu 23) rfl (Uz 23) (arr_size _ _ _)⟩
end Go.Proofs.Ytmhpifphohcfmaa
namespace Go.Proofs.Ytmhpifphohcfmaa
open Go Go.RowKit
variable {G : Mem}
set_option maxHeartbeats 2000000 in
theorem drekey_bad (has : Bool) (k : Nat → Nat) (n : Nat) (hok : okC has k n = false) : Fn Try.prog G 16 #[CV has k n] (.tuple #[CZ, ii 9]) := by
  refine Qf2 Try.func16 ?_
  refine Qs<|Qp<|(Qh 0) fun r1=>(QH 1) fun r2=>(Qa)<|Qn<|Qs<|Qs<|Qp<|(QD 0) ?_
  refine e_call rfl (Un 10) (dchk8_fn has k n) rfl rfl ?_
  refine e_as (congrArg ii (show (if okC has k n = true then 0 else 9) = 9 by rw [hok]; rfl)) ?_
  refine (QN) ?_
  refine e_as (congrArg Value.bool (decide_eq_true (by decide))) ?_
  refine (Qm)<|(Qo)<|(Qo)<|(Qo)<|(QT)<|Qn ?_
  refine e_cond rfl ?_ ?_
  · intro hc0
    refine Qs<|Qp ?_
    refine e_buildS (cells 34 [pV (.bool false), pI .u8 32 (fun _ => 0), pV (.int .u64 0)]) (Ub 26) (Uu 26) pls26 rfl (by kernel_rfl) rfl ?_
    refine e_storeA (i := 1) (Uz 26) rfl rfl (arrv_size _ _) (cells_one ⟨fun _ => rfl, fun _ => rfl, fun _ => rfl, trivial⟩) rfl cells_sz (.inl rfl) ?_
    refine (Qa)<|Qn<|Qr ?_
    exact ⟨_, _, rfl, .cell (i := 1) rfl rfl (Uu 26) rfl (Uz 26) (arrv_size _ _), .tmp rfl⟩
  · intro hc0
    exact absurd hc0 (by decide)
set_option maxHeartbeats 2000000 in
theorem drekey_none (k : Nat → Nat) (n : Nat) (hok : okC false k n = true) : Fn Try.prog G 16 #[CV false k n] (.tuple #[CZ, ii 9]) := by
  refine Qf2 Try.func16 ?_
  refine Qs<|Qp<|(Qh 0) fun r1=>(QH 1) fun r2=>(Qa)<|Qn<|Qs<|Qs<|Qp<|(QD 0) ?_
  refine e_call rfl (Un 10) (dchk8_fn false k n) rfl rfl ?_
  refine e_as (congrArg ii (show (if okC false k n = true then 0 else 9) = 0 by rw [hok]; rfl)) ?_
  refine (QN) ?_
  refine e_as (congrArg Value.bool (decide_eq_false (fun h => h rfl))) ?_
  refine (Qm)<|(Qy)<|(Qf 0)<|(Qy)<|(QV 0 0)<|(Qy)<|(Q0)<|(QF)<|Qn ?_
  refine e_cond rfl ?_ ?_
  · intro hc0
    refine Qs<|Qp ?_
    refine e_buildS (cells 34 [pV (.bool false), pI .u8 32 (fun _ => 0), pV (.int .u64 0)]) (Ub 26) (Uu 26) pls26 rfl (by kernel_rfl) rfl ?_
    refine e_storeA (i := 1) (Uz 26) rfl rfl (arrv_size _ _) (cells_one ⟨fun _ => rfl, fun _ => rfl, fun _ => rfl, trivial⟩) rfl cells_sz (.inl rfl) ?_
    refine (Qa)<|Qn<|Qr ?_
    exact ⟨_, _, rfl, .cell (i := 1) rfl rfl (Uu 26) rfl (Uz 26) (arrv_size _ _), .tmp rfl⟩
  · intro hc0
    exact absurd hc0 (by decide)
set_option maxHeartbeats 2000000 in
theorem drekey_ok (k : Nat → Nat) (n : Nat) (hk : L8 32 k) : Fn Try.prog G 16 #[CV true k n] (.tuple #[CV true (rek k) n, ii 0]) := by
  have hok : okC true k n = true := rfl
  refine Qf2 Try.func16 ?_
  refine Qs<|Qp<|(Qh 0) fun r1=>(QH 1) fun r2=>(Qa)<|Qn<|Qs<|Qs<|Qp<|(QD 0) ?_
  refine e_call rfl (Un 10) (dchk8_fn true k n) rfl rfl ?_
  refine e_as (congrArg ii (show (if okC true k n = true then 0 else 9) = 0 by rw [hok]; rfl)) ?_
  refine (QN) ?_
  refine e_as (congrArg Value.bool (decide_eq_false (fun h => h rfl))) ?_
  refine (Qm)<|(Qy)<|(Qf 0)<|(Qy)<|(QV 0 0)<|(Qy)<|(Q0)<|(QF)<|Qn ?_
  refine e_cond rfl ?_ ?_
  · intro hc0
    exact absurd hc0 (by decide)
  · intro hc0
    refine Qk<|Qs<|Qp<|(Qf 1)<|(Qv 1 0) ?_
    refine e_call rfl (Un 27) (dfollow_fn k hk) rfl rfl ?_
    refine (Qf 1) ?_
    refine e_stC (i := 0) 1 (Uz 23) rfl rfl rfl rfl (by decide) (.inl rfl) ?_
    refine Qn<|Qs<|Qp<|(QD 0) ?_
    refine e_as (show _ = CV true (rek k) n from rfl) ?_
    refine e_storeA (i := 1) (Uz 26) rfl rfl (arrv_size _ _) (cells_one ⟨fun _ => rfl, fun _ => rfl, fun _ => rfl, trivial⟩) rfl cells_sz (.inl rfl) ?_
    refine (Qa)<|Qn<|Qr ?_
    exact ⟨_, _, rfl, .cell (i := 1) rfl rfl (Uu 26) rfl (Uz 26) (arrv_size _ _), .tmp rfl⟩
set_option maxHeartbeats 2000000 in
theorem dused_bad (has : Bool) (k : Nat → Nat) (n : Nat) (va vt : Value) (vf : Value) (hok : okC has k n = false) : Fn Try.prog G 21 #[CV has k n, va, vt, vf] (.tuple #[CZ, nilS, ii 9]) := by
  refine Qf3 Try.func21 ?_
  refine Qs<|Qp<|(Qh 0) fun r1=>(QH 1) fun r2=>(Qa)<|(Qa)<|Qn<|Qs<|Qs<|Qp<|(QD 0) ?_
  refine e_call rfl (Un 10) (dchk8_fn has k n) rfl rfl ?_
  refine e_as (congrArg ii (show (if okC has k n = true then 0 else 9) = 9 by rw [hok]; rfl)) ?_
  refine (Qa)<|Qn<|Qs<|Qp<|(Qm)<|(QN)<|Qn ?_
  refine e_cond rfl ?_ ?_
  · intro hc0
    refine Qs<|Qp ?_
    refine e_buildS (cells 34 [pV (.bool false), pI .u8 32 (fun _ => 0), pV (.int .u64 0)]) (Ub 26) (Uu 26) pls26 rfl (by kernel_rfl) rfl ?_
    refine (Qm) ?_
    refine e_storeA (i := 1) (Uz 26) rfl rfl (arrv_size _ _) (cells_one ⟨fun _ => rfl, fun _ => rfl, fun _ => rfl, trivial⟩) rfl cells_sz (.inl rfl) ?_
    refine (Qa)<|(Qa)<|Qn<|Qr ?_
    exact ⟨_, _, _, rfl, .cell (i := 1) rfl rfl (Uu 26) rfl (Uz 26) (arrv_size _ _), .tmp rfl, .tmp rfl⟩
  · intro hc0
    exact absurd hc0 (by decide)
set_option maxHeartbeats 2000000 in
theorem dused_pbig (k : Nat → Nat) (n : Nat) (va vt : Value) (vf : Value) (tx : List Nat) (hvt : Sh G vt tx) (hok : okC false k n = true) (hl : 800 < tx.length) : Fn Try.prog G 21 #[CV false k n, va, vt, vf] (.tuple #[CZ, nilS, ii 1]) := by
  refine Qf3 Try.func21 ?_
  refine Qs<|Qp<|(Qh 0) fun r1=>(QH 1) fun r2=>(Qa)<|(Qa)<|Qn<|Qs<|Qs<|Qp<|(QD 0) ?_
  refine e_call rfl (Un 10) (dchk8_fn false k n) rfl rfl ?_
  refine e_as (congrArg ii (show (if okC false k n = true then 0 else 9) = 0 by rw [hok]; rfl)) ?_
  refine (Qa)<|Qn<|Qs<|Qp<|(Qm)<|(QN)<|Qn ?_
  refine e_cond rfl ?_ ?_
  · intro hc0
    exact absurd hc0 (by decide)
  · intro hc0
    refine Qk<|Qs<|Qs<|Qp<|(Qf 0)<|(QV 0 0)<|(Q0)<|Qn ?_
    refine e_cond rfl ?_ ?_
    · intro hc1
      refine Qs<|Qp<|(QD 0)<|(Qm) ?_
      refine e_call rfl (Un 30) (dplain_big k n vt tx hvt hl) rfl rfl ?_
      refine (Qx)<|(Qx)<|(Qx) ?_
      refine e_storeA (i := 1) (Uz 26) rfl rfl (arrv_size _ _) (cells_one ⟨fun _ => rfl, fun _ => rfl, fun _ => rfl, trivial⟩) rfl cells_sz (.inl rfl) ?_
      refine (Qa)<|(Qa)<|Qn<|Qr ?_
      exact ⟨_, _, _, rfl, .cell (i := 1) rfl rfl (Uu 26) rfl (Uz 26) (arrv_size _ _), .tmp rfl, .tmp rfl⟩
    · intro hc1
      exact absurd hc1 (by decide)
set_option maxHeartbeats 2000000 in
theorem dused_plain (k : Nat → Nat) (n : Nat) (va vt : Value) (vf : Value) (tx : List Nat) (hvt : Sh G vt tx) (hok : okC false k n = true) (hl : tx.length ≤ 800) : Fx Try.prog G [] 21 #[CV false k n, va, vt, vf] (fun v l1 nw => l1 = [] ∧ ∃ v', v = .tuple #[CV false k n, v', ii 0] ∧ OwnS 5 1 v' tx.length (tx.map by8) nw) := by
  refine QfO Try.func21 ?_
  refine Qs<|Qp<|(Qh 0) fun r1=>(QH 1) fun r2=>(Qa)<|(Qa)<|Qn<|Qs<|Qs<|Qp<|(QD 0) ?_
  refine e_call rfl (Un 10) (dchk8_fn false k n) rfl rfl ?_
  refine e_as (congrArg ii (show (if okC false k n = true then 0 else 9) = 0 by rw [hok]; rfl)) ?_
  refine (Qa)<|Qn<|Qs<|Qp<|(Qm)<|(QN)<|Qn ?_
  refine e_cond rfl ?_ ?_
  · intro hc0
    exact absurd hc0 (by decide)
  · intro hc0
    refine Qk<|Qs<|Qs<|Qp<|(Qf 0)<|(QV 0 0)<|(Q0)<|Qn ?_
    refine e_cond rfl ?_ ?_
    · intro hc1
      refine Qs<|QR ⟨[], 4, [], none⟩<|(QD 0)<|(Qm) ?_
      refine e_callN 2 (fun v => .tuple #[CV false k n, v, ii 0]) rfl rfl (Un 30) seenG (dplain_ok k n vt tx hvt hl) (by simp only [maxLen]; omega) (by rw [List.length_map, Nat.mul_one]) rfl rfl fun v3_1 oz3_1 ho3_1 => ?_
      refine (Qx)<|(Qx)<|(Qx) ?_
      refine e_storeA (i := 1) (Uz 26) rfl rfl (arrv_size _ _) (cells_one ⟨fun _ => rfl, fun _ => rfl, fun _ => rfl, trivial⟩) rfl cells_sz (.inl rfl) ?_
      refine (Qa)<|(Qa)<|Qn<|Qr ?_
      exact ⟨_, _, _, _, _, 2, rfl, .cell (i := 1) rfl rfl (Uu 26) rfl (Uz 26) (arrv_size _ _), .tmp rfl, .tmp rfl, ho3_1, rfl⟩
    · intro hc1
      exact absurd hc1 (by decide)
set_option maxHeartbeats 2000000 in
theorem dused_over (k : Nat → Nat) (n : Nat) (va vt : Value) (vf : Value) (hn : n = 18446744073709551615) : Fn Try.prog G 21 #[CV true k n, va, vt, vf] (.tuple #[CZ, nilS, ii 11]) := by
  have hok : okC true k n = true := rfl
  refine Qf3 Try.func21 ?_
  refine Qs<|Qp<|(Qh 0) fun r1=>(QH 1) fun r2=>(Qa)<|(Qa)<|Qn<|Qs<|Qs<|Qp<|(QD 0) ?_
  refine e_call rfl (Un 10) (dchk8_fn true k n) rfl rfl ?_
  refine e_as (congrArg ii (show (if okC true k n = true then 0 else 9) = 0 by rw [hok]; rfl)) ?_
  refine (Qa)<|Qn<|Qs<|Qp<|(Qm)<|(QN)<|Qn ?_
  refine e_cond rfl ?_ ?_
  · intro hc0
    exact absurd hc0 (by decide)
  · intro hc0
    refine Qk<|Qs<|Qs<|Qp<|(Qf 0)<|(QV 0 0)<|(Q0)<|Qn ?_
    refine e_cond rfl ?_ ?_
    · intro hc1
      exact absurd hc1 (by decide)
    · intro hc1
      refine Qk<|Qs<|Qs<|Qp<|(Qf 33)<|(QV 2 0)<|(Qc) ?_
      refine e_as (congrArg Value.bool (decide_eq_true (by rw [hn]; decide))) ?_
      refine Qn ?_
      refine e_cond rfl ?_ ?_
      · intro hc2
        refine Qs<|Qp ?_
        refine e_buildS (cells 34 [pV (.bool false), pI .u8 32 (fun _ => 0), pV (.int .u64 0)]) (Ub 26) (Uu 26) pls26 rfl (by kernel_rfl) rfl ?_
        refine e_storeA (i := 1) (Uz 26) rfl rfl (arrv_size _ _) (cells_one ⟨fun _ => rfl, fun _ => rfl, fun _ => rfl, trivial⟩) rfl cells_sz (.inl rfl) ?_
        refine (Qa)<|(Qa)<|Qn<|Qr ?_
        exact ⟨_, _, _, rfl, .cell (i := 1) rfl rfl (Uu 26) rfl (Uz 26) (arrv_size _ _), .tmp rfl, .tmp rfl⟩
      · intro hc2
        exact absurd hc2 (by decide)
set_option maxHeartbeats 2000000 in
theorem dused_err_open (k : Nat → Nat) (n : Nat) (va vt : Value) (hn : n < 18446744073709551615) (e : Nat) (he : e ≠ 0) (hE : Fn Try.prog G 26 #[.agg (arr .u8 32 k), .agg (arr .u8 12 (nonU n)), va, vt] (.tuple #[nilS, ii e])) : Fn Try.prog G 21 #[CV true k n, va, vt, .func (.func 26) #[] #[]] (.tuple #[CZ, nilS, ii e]) := by
  have hok : okC true k n = true := rfl
  refine Qf3 Try.func21 ?_
  refine Qs<|Qp<|(Qh 0) fun r1=>(QH 1) fun r2=>(Qa)<|(Qa)<|Qn<|Qs<|Qs<|Qp<|(QD 0) ?_
  refine e_call rfl (Un 10) (dchk8_fn true k n) rfl rfl ?_
  refine e_as (congrArg ii (show (if okC true k n = true then 0 else 9) = 0 by rw [hok]; rfl)) ?_
  refine (Qa)<|Qn<|Qs<|Qp<|(Qm)<|(QN)<|Qn ?_
  refine e_cond rfl ?_ ?_
  · intro hc0
    exact absurd hc0 (by decide)
  · intro hc0
    refine Qk<|Qs<|Qs<|Qp<|(Qf 0)<|(QV 0 0)<|(Q0)<|Qn ?_
    refine e_cond rfl ?_ ?_
    · intro hc1
      exact absurd hc1 (by decide)
    · intro hc1
      refine Qk<|Qs<|Qs<|Qp<|(Qf 33)<|(QV 2 0)<|(Qc)<|(Qaf)<|Qn ?_
      refine e_cond rfl ?_ ?_
      · intro hc2
        exact absurd hc2 (by decide)
      · intro hc2
        refine Qk<|Qs<|(Qg)<|(Qm)<|(Qf 1)<|(Qv 1 0)<|(Qf 33)<|(QV 2 0) ?_
        refine e_call rfl (Un 31) (dnonce_fn n) rfl rfl ?_
        refine (Qm)<|(Qm) ?_
        refine e_callS rfl rfl (Un 26) seenG hE rfl rfl ?_
        refine (Qm)<|(Qx)<|(Qx)<|(Qa)<|(Qa)<|Qn<|Qs<|Qs<|Qp<|(Qm)<|(QN)<|(Qat)<|Qn ?_
        refine e_cond rfl ?_ ?_
        · intro hc3
          refine Qs<|Qp ?_
          refine e_buildS (cells 34 [pV (.bool false), pI .u8 32 (fun _ => 0), pV (.int .u64 0)]) (Ub 26) (Uu 26) pls26 rfl (by kernel_rfl) rfl ?_
          refine (Qm) ?_
          refine e_storeA (i := 1) (Uz 26) rfl rfl (arrv_size _ _) (cells_one ⟨fun _ => rfl, fun _ => rfl, fun _ => rfl, trivial⟩) rfl cells_sz (.inl rfl) ?_
          refine (Qa)<|(Qa)<|Qn<|Qr ?_
          exact ⟨_, _, _, rfl, .cell (i := 1) rfl rfl (Uu 26) rfl (Uz 26) (arrv_size _ _), .tmp rfl, .tmp rfl⟩
        · intro hc3
          exact absurd hc3 (by decide)
set_option maxHeartbeats 2000000 in
theorem dused_ok_open (k : Nat → Nat) (n : Nat) (va vt : Value) (hn : n < 18446744073709551615) (out : List Nat) (hm : out.length ≤ maxLen) (hE : Fx Try.prog G [] 26 #[.agg (arr .u8 32 k), .agg (arr .u8 12 (nonU n)), va, vt] (fun v l1 nw => l1 = [] ∧ ∃ v', v = .tuple #[v', ii 0] ∧ OwnS 5 1 v' out.length (out.map by8) nw)) : Fx Try.prog G [] 21 #[CV true k n, va, vt, .func (.func 26) #[] #[]] (fun v l1 nw => l1 = [] ∧ ∃ v', v = .tuple #[CV true k (n + 1), v', ii 0] ∧ OwnS 5 1 v' out.length (out.map by8) nw) := by
  have hok : okC true k n = true := rfl
  refine QfO Try.func21 ?_
  refine Qs<|Qp<|(Qh 0) fun r1=>(QH 1) fun r2=>(Qa)<|(Qa)<|Qn<|Qs<|Qs<|Qp<|(QD 0) ?_
  refine e_call rfl (Un 10) (dchk8_fn true k n) rfl rfl ?_
  refine e_as (congrArg ii (show (if okC true k n = true then 0 else 9) = 0 by rw [hok]; rfl)) ?_
  refine (Qa)<|Qn<|Qs<|Qp<|(Qm)<|(QN)<|Qn ?_
  refine e_cond rfl ?_ ?_
  · intro hc0
    exact absurd hc0 (by decide)
  · intro hc0
    refine Qk<|Qs<|Qs<|Qp<|(Qf 0)<|(QV 0 0)<|(Q0)<|Qn ?_
    refine e_cond rfl ?_ ?_
    · intro hc1
      exact absurd hc1 (by decide)
    · intro hc1
      refine Qk<|Qs<|Qs<|Qp<|(Qf 33)<|(QV 2 0)<|(Qc)<|(Qaf)<|Qn ?_
      refine e_cond rfl ?_ ?_
      · intro hc2
        exact absurd hc2 (by decide)
      · intro hc2
        refine Qk<|Qs<|(Qq ⟨[], 4, [], none⟩)<|(Qm)<|(Qf 1)<|(Qv 1 0)<|(Qf 33)<|(QV 2 0) ?_
        refine e_call rfl (Un 31) (dnonce_fn n) rfl rfl ?_
        refine (Qm)<|(Qm) ?_
        refine e_callN 2 (fun v => .tuple #[v, ii 0]) rfl rfl (Un 26) seenG hE hm (by rw [List.length_map, Nat.mul_one]) rfl rfl fun v4_1 oz4_1 ho4_1 => ?_
        refine (Qm)<|(Qx)<|(Qx)<|(Qa)<|(Qa)<|Qn<|Qs<|Qs<|Qp<|(Qm)<|(QN) ?_
        refine e_as (congrArg Value.bool (decide_eq_false (fun h => h rfl))) ?_
        refine Qn ?_
        refine e_cond rfl ?_ ?_
        · intro hc3
          exact absurd hc3 (by decide)
        · intro hc3
          refine Qk<|Qs<|Qp<|(Qf 33)<|(QV 2 0) ?_
          refine e_add_u (q := 1) rfl rfl rfl  ?_
          refine e_as (congrArg u (Nat.mod_eq_of_lt (show n + 1 < 18446744073709551616 by omega))) ?_
          refine (Qf 33) ?_
          refine e_stV (i := 0) 2 (Uz 24) rfl rfl rfl rfl rfl (by decide) (.inl rfl) ?_
          refine Qn<|Qs<|Qp<|(QD 0) ?_
          refine e_as (show _ = CV true k (n + 1) from rfl) ?_
          refine (Qm) ?_
          refine e_storeA (i := 1) (Uz 26) rfl rfl (arrv_size _ _) (cells_one ⟨fun _ => rfl, fun _ => rfl, fun _ => rfl, trivial⟩) rfl cells_sz (.inl rfl) ?_
          refine (Qa)<|(Qa)<|Qn<|Qr ?_
          exact ⟨_, _, _, _, _, 2, rfl, .cell (i := 1) rfl rfl (Uu 26) rfl (Uz 26) (arrv_size _ _), .tmp rfl, .tmp rfl, ho4_1, rfl⟩
set_option maxHeartbeats 2000000 in
theorem dused_err_seal (k : Nat → Nat) (n : Nat) (va vt : Value) (hn : n < 18446744073709551615) (e : Nat) (he : e ≠ 0) (hE : Fn Try.prog G 22 #[.agg (arr .u8 32 k), .agg (arr .u8 12 (nonU n)), va, vt] (.tuple #[nilS, ii e])) : Fn Try.prog G 21 #[CV true k n, va, vt, .func (.func 22) #[] #[]] (.tuple #[CZ, nilS, ii e]) := by
  have hok : okC true k n = true := rfl
  refine Qf3 Try.func21 ?_
  refine Qs<|Qp<|(Qh 0) fun r1=>(QH 1) fun r2=>(Qa)<|(Qa)<|Qn<|Qs<|Qs<|Qp<|(QD 0) ?_
  refine e_call rfl (Un 10) (dchk8_fn true k n) rfl rfl ?_
  refine e_as (congrArg ii (show (if okC true k n = true then 0 else 9) = 0 by rw [hok]; rfl)) ?_
  refine (Qa)<|Qn<|Qs<|Qp<|(Qm)<|(QN)<|Qn ?_
  refine e_cond rfl ?_ ?_
  · intro hc0
    exact absurd hc0 (by decide)
  · intro hc0
    refine Qk<|Qs<|Qs<|Qp<|(Qf 0)<|(QV 0 0)<|(Q0)<|Qn ?_
    refine e_cond rfl ?_ ?_
    · intro hc1
      exact absurd hc1 (by decide)
    · intro hc1
      refine Qk<|Qs<|Qs<|Qp<|(Qf 33)<|(QV 2 0)<|(Qc)<|(Qaf)<|Qn ?_
      refine e_cond rfl ?_ ?_
      · intro hc2
        exact absurd hc2 (by decide)
      · intro hc2
        refine Qk<|Qs<|(Qg)<|(Qm)<|(Qf 1)<|(Qv 1 0)<|(Qf 33)<|(QV 2 0) ?_
        refine e_call rfl (Un 31) (dnonce_fn n) rfl rfl ?_
        refine (Qm)<|(Qm) ?_
        refine e_callS rfl rfl (Un 22) seenG hE rfl rfl ?_
        refine (Qm)<|(Qx)<|(Qx)<|(Qa)<|(Qa)<|Qn<|Qs<|Qs<|Qp<|(Qm)<|(QN)<|(Qat)<|Qn ?_
        refine e_cond rfl ?_ ?_
        · intro hc3
          refine Qs<|Qp ?_
          refine e_buildS (cells 34 [pV (.bool false), pI .u8 32 (fun _ => 0), pV (.int .u64 0)]) (Ub 26) (Uu 26) pls26 rfl (by kernel_rfl) rfl ?_
          refine (Qm) ?_
          refine e_storeA (i := 1) (Uz 26) rfl rfl (arrv_size _ _) (cells_one ⟨fun _ => rfl, fun _ => rfl, fun _ => rfl, trivial⟩) rfl cells_sz (.inl rfl) ?_
          refine (Qa)<|(Qa)<|Qn<|Qr ?_
          exact ⟨_, _, _, rfl, .cell (i := 1) rfl rfl (Uu 26) rfl (Uz 26) (arrv_size _ _), .tmp rfl, .tmp rfl⟩
        · intro hc3
          exact absurd hc3 (by decide)
set_option maxHeartbeats 2000000 in
theorem dused_ok_seal (k : Nat → Nat) (n : Nat) (va vt : Value) (hn : n < 18446744073709551615) (out : List Nat) (hm : out.length ≤ maxLen) (hE : Fx Try.prog G [] 22 #[.agg (arr .u8 32 k), .agg (arr .u8 12 (nonU n)), va, vt] (fun v l1 nw => l1 = [] ∧ ∃ v', v = .tuple #[v', ii 0] ∧ OwnS 5 1 v' out.length (out.map by8) nw)) : Fx Try.prog G [] 21 #[CV true k n, va, vt, .func (.func 22) #[] #[]] (fun v l1 nw => l1 = [] ∧ ∃ v', v = .tuple #[CV true k (n + 1), v', ii 0] ∧ OwnS 5 1 v' out.length (out.map by8) nw) := by
  have hok : okC true k n = true := rfl
  refine QfO Try.func21 ?_
  refine Qs<|Qp<|(Qh 0) fun r1=>(QH 1) fun r2=>(Qa)<|(Qa)<|Qn<|Qs<|Qs<|Qp<|(QD 0) ?_
  refine e_call rfl (Un 10) (dchk8_fn true k n) rfl rfl ?_
  refine e_as (congrArg ii (show (if okC true k n = true then 0 else 9) = 0 by rw [hok]; rfl)) ?_
  refine (Qa)<|Qn<|Qs<|Qp<|(Qm)<|(QN)<|Qn ?_
  refine e_cond rfl ?_ ?_
  · intro hc0
    exact absurd hc0 (by decide)
  · intro hc0
    refine Qk<|Qs<|Qs<|Qp<|(Qf 0)<|(QV 0 0)<|(Q0)<|Qn ?_
    refine e_cond rfl ?_ ?_
    · intro hc1
      exact absurd hc1 (by decide)
    · intro hc1
      refine Qk<|Qs<|Qs<|Qp<|(Qf 33)<|(QV 2 0)<|(Qc)<|(Qaf)<|Qn ?_
      refine e_cond rfl ?_ ?_
      · intro hc2
        exact absurd hc2 (by decide)
      · intro hc2
        refine Qk<|Qs<|(Qq ⟨[], 4, [], none⟩)<|(Qm)<|(Qf 1)<|(Qv 1 0)<|(Qf 33)<|(QV 2 0) ?_
        refine e_call rfl (Un 31) (dnonce_fn n) rfl rfl ?_
        refine (Qm)<|(Qm) ?_
        refine e_callN 2 (fun v => .tuple #[v, ii 0]) rfl rfl (Un 22) seenG hE hm (by rw [List.length_map, Nat.mul_one]) rfl rfl fun v4_1 oz4_1 ho4_1 => ?_
        refine (Qm)<|(Qx)<|(Qx)<|(Qa)<|(Qa)<|Qn<|Qs<|Qs<|Qp<|(Qm)<|(QN) ?_
        refine e_as (congrArg Value.bool (decide_eq_false (fun h => h rfl))) ?_
        refine Qn ?_
        refine e_cond rfl ?_ ?_
        · intro hc3
          exact absurd hc3 (by decide)
        · intro hc3
          refine Qk<|Qs<|Qp<|(Qf 33)<|(QV 2 0) ?_
          refine e_add_u (q := 1) rfl rfl rfl  ?_
          refine e_as (congrArg u (Nat.mod_eq_of_lt (show n + 1 < 18446744073709551616 by omega))) ?_
          refine (Qf 33) ?_
          refine e_stV (i := 0) 2 (Uz 24) rfl rfl rfl rfl rfl (by decide) (.inl rfl) ?_
          refine Qn<|Qs<|Qp<|(QD 0) ?_
          refine e_as (show _ = CV true k (n + 1) from rfl) ?_
          refine (Qm) ?_
          refine e_storeA (i := 1) (Uz 26) rfl rfl (arrv_size _ _) (cells_one ⟨fun _ => rfl, fun _ => rfl, fun _ => rfl, trivial⟩) rfl cells_sz (.inl rfl) ?_
          refine (Qa)<|(Qa)<|Qn<|Qr ?_
          exact ⟨_, _, _, _, _, 2, rfl, .cell (i := 1) rfl rfl (Uu 26) rfl (Uz 26) (arrv_size _ _), .tmp rfl, .tmp rfl, ho4_1, rfl⟩
end Go.Proofs.Ytmhpifphohcfmaa
namespace Go.Proofs.Ytmhpifphohcfmaa
open Go Go.RowKit
variable {G : Mem}
set_option maxHeartbeats 2000000 in
theorem dcopen_err (has : Bool) (k : Nat → Nat) (n : Nat) (va vt : Value) (e : Nat) (hU : Fn Try.prog G 21 #[CV has k n, va, vt, .func (.func 26) #[] #[]] (.tuple #[CZ, nilS, ii e])) : Fn Try.prog G 15 #[CV has k n, va, vt] (.tuple #[CZ, nilS, ii e]) := by
  refine Qf3 Try.func15 ?_
  refine Qs<|Qp<|(Qh 0) fun r1=>(QH 1) fun r2=>(Qa)<|(Qa)<|Qn<|Qs<|Qp<|(QD 0)<|(Qm)<|(Qm) ?_
  refine e_call rfl (Un 21) hU rfl rfl ?_
  refine (Qx)<|(Qx)<|(Qx) ?_
  refine e_storeA (i := 1) (Uz 26) rfl rfl (arrv_size _ _) (cells_one ⟨fun _ => rfl, fun _ => rfl, fun _ => rfl, trivial⟩) rfl cells_sz (.inl rfl) ?_
  refine (Qa)<|(Qa)<|Qn<|Qr ?_
  exact ⟨_, _, _, rfl, .cell (i := 1) rfl rfl (Uu 26) rfl (Uz 26) (arrv_size _ _), .tmp rfl, .tmp rfl⟩
set_option maxHeartbeats 2000000 in
theorem dcopen_ok (has : Bool) (k : Nat → Nat) (n : Nat) (va vt : Value) (h2 : Bool) (k2 : Nat → Nat) (n2 : Nat) (out : List Nat) (hm : out.length ≤ maxLen) (hU : Fx Try.prog G [] 21 #[CV has k n, va, vt, .func (.func 26) #[] #[]] (fun v l1 nw => l1 = [] ∧ ∃ v', v = .tuple #[CV h2 k2 n2, v', ii 0] ∧ OwnS 5 1 v' out.length (out.map by8) nw)) : Fx Try.prog G [] 15 #[CV has k n, va, vt] (fun v l1 nw => l1 = [] ∧ ∃ v', v = .tuple #[CV h2 k2 n2, v', ii 0] ∧ OwnS 5 1 v' out.length (out.map by8) nw) := by
  refine QfO Try.func15 ?_
  refine Qs<|Qp<|(Qh 0) fun r1=>(QH 1) fun r2=>(Qa)<|(Qa)<|Qn<|Qs<|QR ⟨[], 4, [], none⟩<|(QD 0)<|(Qm)<|(Qm) ?_
  refine e_callN 2 (fun v => .tuple #[CV h2 k2 n2, v, ii 0]) rfl rfl (Un 21) seenG hU hm (by rw [List.length_map, Nat.mul_one]) rfl rfl fun v1_1 oz1_1 ho1_1 => ?_
  refine (Qx)<|(Qx)<|(Qx) ?_
  refine e_storeA (i := 1) (Uz 26) rfl rfl (arrv_size _ _) (cells_one ⟨fun _ => rfl, fun _ => rfl, fun _ => rfl, trivial⟩) rfl cells_sz (.inl rfl) ?_
  refine (Qa)<|(Qa)<|Qn<|Qr ?_
  exact ⟨_, _, _, _, _, 2, rfl, .cell (i := 1) rfl rfl (Uu 26) rfl (Uz 26) (arrv_size _ _), .tmp rfl, .tmp rfl, ho1_1, rfl⟩
set_option maxHeartbeats 2000000 in
theorem dcseal_err (has : Bool) (k : Nat → Nat) (n : Nat) (va vt : Value) (e : Nat) (hU : Fn Try.prog G 21 #[CV has k n, va, vt, .func (.func 22) #[] #[]] (.tuple #[CZ, nilS, ii e])) : Fn Try.prog G 12 #[CV has k n, va, vt] (.tuple #[CZ, nilS, ii e]) := by
  refine Qf3 Try.func12 ?_
  refine Qs<|Qp<|(Qh 0) fun r1=>(QH 1) fun r2=>(Qa)<|(Qa)<|Qn<|Qs<|Qp<|(QD 0)<|(Qm)<|(Qm) ?_
  refine e_call rfl (Un 21) hU rfl rfl ?_
  refine (Qx)<|(Qx)<|(Qx) ?_
  refine e_storeA (i := 1) (Uz 26) rfl rfl (arrv_size _ _) (cells_one ⟨fun _ => rfl, fun _ => rfl, fun _ => rfl, trivial⟩) rfl cells_sz (.inl rfl) ?_
  refine (Qa)<|(Qa)<|Qn<|Qr ?_
  exact ⟨_, _, _, rfl, .cell (i := 1) rfl rfl (Uu 26) rfl (Uz 26) (arrv_size _ _), .tmp rfl, .tmp rfl⟩
set_option maxHeartbeats 2000000 in
theorem dcseal_ok (has : Bool) (k : Nat → Nat) (n : Nat) (va vt : Value) (h2 : Bool) (k2 : Nat → Nat) (n2 : Nat) (out : List Nat) (hm : out.length ≤ maxLen) (hU : Fx Try.prog G [] 21 #[CV has k n, va, vt, .func (.func 22) #[] #[]] (fun v l1 nw => l1 = [] ∧ ∃ v', v = .tuple #[CV h2 k2 n2, v', ii 0] ∧ OwnS 5 1 v' out.length (out.map by8) nw)) : Fx Try.prog G [] 12 #[CV has k n, va, vt] (fun v l1 nw => l1 = [] ∧ ∃ v', v = .tuple #[CV h2 k2 n2, v', ii 0] ∧ OwnS 5 1 v' out.length (out.map by8) nw) := by
  refine QfO Try.func12 ?_
  refine Qs<|Qp<|(Qh 0) fun r1=>(QH 1) fun r2=>(Qa)<|(Qa)<|Qn<|Qs<|QR ⟨[], 4, [], none⟩<|(QD 0)<|(Qm)<|(Qm) ?_
  refine e_callN 2 (fun v => .tuple #[CV h2 k2 n2, v, ii 0]) rfl rfl (Un 21) seenG hU hm (by rw [List.length_map, Nat.mul_one]) rfl rfl fun v1_1 oz1_1 ho1_1 => ?_
  refine (Qx)<|(Qx)<|(Qx) ?_
  refine e_storeA (i := 1) (Uz 26) rfl rfl (arrv_size _ _) (cells_one ⟨fun _ => rfl, fun _ => rfl, fun _ => rfl, trivial⟩) rfl cells_sz (.inl rfl) ?_
  refine (Qa)<|(Qa)<|Qn<|Qr ?_
  exact ⟨_, _, _, _, _, 2, rfl, .cell (i := 1) rfl rfl (Uu 26) rfl (Uz 26) (arrv_size _ _), .tmp rfl, .tmp rfl, ho1_1, rfl⟩
end Go.Proofs.Ytmhpifphohcfmaa
namespace Go.Proofs.Ytmhpifphohcfmaa
open Go Go.RowKit
theorem dBg8 : ∀ (G : Mem) (f : Nat → Nat), Fn Try.prog G 9 #[.agg (arr .u8 32 f)] (CV true f 0) := fun _ f => dbeg8_fn f
theorem dSl8 : ∀ (G : Mem) (k : Nat → Nat) (n : Nat) (va vt : Value) (ad tx : List Nat), (∀ j, j < 32 → k j < 256) → n < 18446744073709551615 → Shows G 1 va ad.length (ad.map by8) → Shows G 1 vt tx.length (tx.map by8) → (∀ b ∈ ad, b < 256) → (∀ b ∈ tx, b < 256) → ad.length ≤ 200 → tx.length ≤ 800 → Fx Try.prog G [] 12 #[CV true k n, va, vt] (fun v l1 nw => l1 = [] ∧ ∃ v', v = .tuple #[CV true k (n + 1), v', ii 0] ∧ OwnS 5 1 v' (sealL k (nonU n) ad tx).length ((sealL k (nonU n) ad tx).map by8) nw) := fun _ k n va vt ad tx hk hn hva hvt hab _ ha ht => dcseal_ok true k n va vt true k (n + 1) _ (by rw [sealL_len]; simp only [maxLen]; omega) (dused_ok_seal k n va vt hn _ (by rw [sealL_len]; simp only [maxLen]; omega) (dseal_ok k (nonU n) va vt ad tx hk (nonU_lt n) hva hvt hab ha ht))
theorem dOp8 : ∀ (G : Mem) (k : Nat → Nat) (n : Nat) (va vt : Value) (ad tx : List Nat), (∀ j, j < 32 → k j < 256) → n < 18446744073709551615 → Shows G 1 va ad.length (ad.map by8) → Shows G 1 vt tx.length (tx.map by8) → (∀ b ∈ ad, b < 256) → (∀ b ∈ tx, b < 256) → ad.length ≤ 200 → 16 ≤ tx.length → tx.length ≤ 816 → opensL k (nonU n) ad tx → Fx Try.prog G [] 15 #[CV true k n, va, vt] (fun v l1 nw => l1 = [] ∧ ∃ v', v = .tuple #[CV true k (n + 1), v', ii 0] ∧ OwnS 5 1 v' (openL k (nonU n) tx).length ((openL k (nonU n) tx).map by8) nw) := fun _ k n va vt ad tx hk hn hva hvt hab htb ha h16 h816 ho => dcopen_ok true k n va vt true k (n + 1) _ (by rw [openL_len]; simp only [maxLen]; omega) (dused_ok_open k n va vt hn _ (by rw [openL_len]; simp only [maxLen]; omega) (dopen_ok k (nonU n) va vt ad tx hk (nonU_lt n) hva hvt hab htb ha h16 h816 ho))
theorem dRk8 : ∀ (G : Mem) (k : Nat → Nat) (n : Nat), (∀ j, j < 32 → k j < 256) → Fn Try.prog G 16 #[CV true k n] (.tuple #[CV true (rek k) n, ii 0]) := fun _ k n hk => drekey_ok k n hk
theorem dOv8 : ∀ (G : Mem) (k : Nat → Nat) (va vt : Value), Fn Try.prog G 12 #[CV true k 18446744073709551615, va, vt] (.tuple #[CZ, nilS, ii 11]) := fun _ k va vt => dcseal_err true k 18446744073709551615 va vt 11 (dused_over k 18446744073709551615 va vt _ rfl)
theorem dPl8 : ∀ (G : Mem) (va vt : Value) (tx : List Nat), Shows G 1 vt tx.length (tx.map by8) → (∀ b ∈ tx, b < 256) → tx.length ≤ 800 → Fx Try.prog G [] 12 #[CZ, va, vt] (fun v l1 nw => l1 = [] ∧ ∃ v', v = .tuple #[CZ, v', ii 0] ∧ OwnS 5 1 v' tx.length (tx.map by8) nw) := fun _ va vt tx hvt _ hl => dcseal_ok false (fun _ => 0) 0 va vt false (fun _ => 0) 0 tx (by simp only [maxLen]; omega) (dused_plain (fun _ => 0) 0 va vt _ tx hvt (by decide) hl)
theorem dBd8 : ∀ (G : Mem) (va vt : Value), Fn Try.prog G 12 #[CV false (fun _ => 0) 1, va, vt] (.tuple #[CZ, nilS, ii 9]) := fun _ va vt => dcseal_err false (fun _ => 0) 1 va vt 9 (dused_bad false (fun _ => 0) 1 va vt _ (by decide))
theorem dRn8 : ∀ (G : Mem), Fn Try.prog G 16 #[CZ] (.tuple #[CZ, ii 9]) := fun _ => drekey_none (fun _ => 0) 0 (by decide)
end Go.Proofs.Ytmhpifphohcfmaa
