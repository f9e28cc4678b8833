/-
  The developers' one-time sum, its states: what may be, what is held as bytes come.
-/
import Derived.Test.YtmnmhmpklknleaaPol8
namespace Go.Proofs.Ytmnmhmpklknleaa
open Go Go.RowKit

/-- Rows that show the same. -/
def catEq : List Part → List Part → Prop
  | [], [] => True
  | p :: ps, q :: qs => p.1 = q.1 ∧ (∀ i, i < p.1 → p.2 i = q.2 i) ∧ catEq ps qs
  | _, _ => False
theorem catF_congr : ∀ {ps qs : List Part}, catEq ps qs → ∀ i, catF ps i = catF qs i
  | [], [], _, _ => rfl
  | p :: ps, q :: qs, ⟨h1, h2, h3⟩, i => by
    simp only [catF]
    rw [← h1]
    by_cases h : i < p.1
    · rw [if_pos h, if_pos h, h2 i h]
    · rw [if_neg h, if_neg h, catF_congr h3]
theorem cells_congr {N : Nat} {ps qs : List Part} (h : catEq ps qs) : cells N ps = cells N qs := by
  unfold cells
  rw [funext (catF_congr h)]
theorem PV_congr {r r' p p' a a' h h' : Nat → Nat} {n n' : Int} (hr : ∀ j, j < 2 → r j = r' j) (hp : ∀ j, j < 2 → p j = p' j) (ha : ∀ j, j < 3 → a j = a' j) (hh : ∀ j, j < 16 → h j = h' j) (hn : n = n') : PV r p a h n = PV r' p' a' h' n' := by
  unfold PV
  congr 1
  exact cells_congr ⟨rfl, fun i hi => congrArg (fun z : Nat => Value.int .u64 (z : Int)) (hr i hi), rfl, fun i hi => congrArg (fun z : Nat => Value.int .u64 (z : Int)) (hp i hi), rfl, fun i hi => congrArg (fun z : Nat => Value.int .u64 (z : Int)) (ha i hi), rfl, fun i hi => congrArg (fun z : Nat => Value.int .u8 (z : Int)) (hh i hi), rfl, fun i _ => congrArg (Value.int .i64) hn, trivial⟩

/-! ### What may be -/
theorem w3_words {a : Nat → Nat} (h0 : a 0 < 18446744073709551616) (h1 : a 1 < 18446744073709551616) (h2 : a 2 < 18446744073709551616) : ∀ j, j < 3 → a j = wd (w3 a) j := by
  intro j hj
  have : j = 0 ∨ j = 1 ∨ j = 2 := by omega
  unfold wd w3
  rcases this with rfl | rfl | rfl
  · simp only [Nat.mul_zero, Nat.pow_zero, Nat.div_one]; omega
  · simp only [Nat.mul_one]; omega
  · simp only [Nat.reduceMul]; omega
theorem w3_lt192 {a : Nat → Nat} (h0 : a 0 < 18446744073709551616) (h1 : a 1 < 18446744073709551616) (h2 : a 2 < 18446744073709551616) : w3 a < 2 ^ 192 := by unfold w3; omega
theorem acc_ok {a : Nat → Nat} (h0 : a 0 < 18446744073709551616) (h1 : a 1 < 18446744073709551616) (h2 : a 2 < 18446744073709551616) : (decide (a 2 < 4) && allEq 3 (wd (w3 a % QQ)) a) = decide (w3 a < QQ) := by
  by_cases h : w3 a < QQ
  · have h4 : a 2 < 4 := by
      have := QQ_eq
      unfold w3 at h
      omega
    rw [decide_eq_true h, decide_eq_true h4, Nat.mod_eq_of_lt h, Bool.true_and, allEq_iff]
    exact fun j hj => (w3_words h0 h1 h2 j hj).symm
  · rw [decide_eq_false h, Bool.and_eq_false_iff]
    cases hb : allEq 3 (wd (w3 a % QQ)) a with
    | false => exact .inr rfl
    | true =>
      refine absurd ?_ h
      have q4 := allEq_iff.1 hb
      have hQ : w3 a % QQ < QQ := Nat.mod_lt _ QQ_pos
      have e2 : w3 (wd (w3 a % QQ)) = w3 a := by
        generalize w3 a % QQ = X at q4
        unfold w3
        rw [q4 0 (by decide), q4 1 (by decide), q4 2 (by decide)]
      have e : w3 a = w3 a % QQ := e2.symm.trans (w3_wd (Nat.lt_trans hQ QQ_lt))
      rw [e]; exact hQ
section
variable {r a : Nat → Nat} {n : Int} (hr0 : r 0 < 18446744073709551616) (hr1 : r 1 < 18446744073709551616) (h0 : a 0 < 18446744073709551616) (h1 : a 1 < 18446744073709551616) (h2 : a 2 < 18446744073709551616)
include hr0 hr1 h0 h1 h2
theorem okcd_eq : okcd r a n = (allEq 2 (clf r) r && (decide (0 ≤ n) && (decide (n < 16) && decide (w3 a < QQ)))) := by
  unfold okcd
  rw [acc_ok h0 h1 h2, allEq_congr (clamp_r hr0 hr1)]
theorem dcases : (allEq 2 (clf r) r = false ∧ okcd r a n = false) ∨ (allEq 2 (clf r) r = true ∧ ¬ w3 a < QQ ∧ okcd r a n = false) ∨ (allEq 2 (clf r) r = true ∧ w3 a < QQ ∧ n < 0 ∧ okcd r a n = false) ∨ (allEq 2 (clf r) r = true ∧ w3 a < QQ ∧ ¬ n < 0 ∧ n ≥ 16 ∧ okcd r a n = false)
    ∨ (allEq 2 (clf r) r = true ∧ w3 a < QQ ∧ ∃ k : Nat, n = (k : Int) ∧ k < 16 ∧ okcd r a n = true) := by
  rw [okcd_eq hr0 hr1 h0 h1 h2]
  cases allEq 2 (clf r) r
  · exact .inl ⟨rfl, rfl⟩
  · right
    by_cases e1 : w3 a < QQ
    · right
      by_cases e2 : n < 0
      · exact .inl ⟨rfl, e1, e2, by rw [decide_eq_false (show ¬ 0 ≤ n by omega)]; rfl⟩
      · right
        by_cases e3 : n < 16
        · exact .inr ⟨rfl, e1, n.toNat, by omega, by omega, by rw [decide_eq_true (show 0 ≤ n by omega), decide_eq_true e3, decide_eq_true e1]; rfl⟩
        · exact .inl ⟨rfl, e1, e2, by omega, by rw [decide_eq_false e3]; simp⟩
    · exact .inl ⟨rfl, e1, by rw [decide_eq_false e1]; simp⟩
end
theorem ok_no {c d : Bool} (h : c = false) : ¬ (c && d) = true := by rw [h]; simp
theorem okh_all {k : Nat} {h : Nat → Nat} (hz : ∀ j, j < 16 - k → h (k + j) = 0) : okh (k : Int) h 16 = true := by
  unfold okh
  rw [List.all_eq_true]
  intro j hj
  have hj := List.mem_range.1 hj
  by_cases hjn : j < k
  · simp [hjn]
  · have := hz (j - k) (by omega)
    rw [show k + (j - k) = j by omega] at this
    simp [this]
theorem okh_not {k i : Nat} {h : Nat → Nat} (hi : i < 16 - k) (hz : h (k + i) ≠ 0) : okh (k : Int) h 16 = false := by
  unfold okh
  rw [List.all_eq_false]
  exact ⟨k + i, List.mem_range.2 (by omega), by simp [hz]; omega⟩

/-! ### What is held -/
def hold (S : List Nat) (T j : Nat) : Nat := if j < T % 16 then S.getD (16 * (T / 16) + j) 0 else 0
theorem hold_lt {S : List Nat} (hS : ∀ b ∈ S, b < 256) (T j : Nat) : hold S T j < 256 := by
  unfold hold
  split
  · exact getD_lt hS _
  · decide
theorem hold_first {h : Nat → Nat} {n : Nat} {l : List Nat} (hn : n < 16) (hz : ∀ j, n ≤ j → j < 16 → h j = 0) : ∀ j, j < 16 → h j = hold (sS h n l) (n + 0) j := by
  intro j hj
  unfold hold sS
  rw [Nat.add_zero, Nat.mod_eq_of_lt hn, Nat.div_eq_of_lt hn]
  by_cases hjn : j < n
  · rw [if_pos hjn, List.getD_eq_getElem?_getD, List.getElem?_append_left (by simp; omega), List.getElem?_map, List.getElem?_range (by omega)]
    simp
  · rw [if_neg hjn]; exact hz j (by omega) hj
theorem hold_next {S : List Nat} {T x : Nat} {g : Nat → Nat} (hT : T % 16 + 1 ≠ 16) (hx : x = S.getD T 0) (hg : ∀ j, j < 16 → g j = hold S T j) : ∀ j, j < 16 → upd g (T % 16) x j = hold S (T + 1) j := by
  intro j hj
  have e1 : (T + 1) % 16 = T % 16 + 1 := by omega
  have e2 : (T + 1) / 16 = T / 16 := by omega
  unfold upd
  split
  · rename_i e
    unfold hold
    rw [e1, e2, if_pos (by omega), hx, e, show 16 * (T / 16) + T % 16 = T by omega]
  · rename_i e
    rw [hg j hj]
    unfold hold
    rw [e1, e2]
    by_cases h : j < T % 16
    · rw [if_pos h, if_pos (by omega)]
    · rw [if_neg h, if_neg (by omega)]
theorem hold_zero {S : List Nat} {T : Nat} (hT : T % 16 + 1 = 16) : ∀ j, j < 16 → 0 = hold S (T + 1) j := by
  intro j hj
  unfold hold
  rw [if_neg (by omega)]
theorem hold_full {S : List Nat} {T x : Nat} {g : Nat → Nat} (hT : T % 16 + 1 = 16) (hl : T < S.length) (hx : x = S.getD T 0) (hg : ∀ j, j < 16 → g j = hold S T j) : (List.range 16).map (upd g (T % 16) x) = (S.drop (16 * (T / 16))).take 16 := by
  apply List.ext_getElem
  · simp; omega
  · intro j h1 h2
    have hj : j < 16 := by simpa using h1
    have hin : 16 * (T / 16) + j < S.length := by omega
    have hv : S[16 * (T / 16) + j] = S.getD (16 * (T / 16) + j) 0 := by rw [List.getD_eq_getElem?_getD, List.getElem?_eq_getElem hin]; rfl
    simp only [List.getElem_map, List.getElem_range, List.getElem_take, List.getElem_drop]
    rw [hv]
    unfold upd
    split
    · rename_i e; rw [hx, e, show 16 * (T / 16) + T % 16 = T by omega]
    · rename_i e
      rw [hg j hj]
      unfold hold
      rw [if_pos (by omega)]
theorem accs_stay {R A : Nat} {S : List Nat} {T ac : Nat} (hT : T % 16 + 1 ≠ 16) (h : ac = accs R A S (T / 16)) : ac = accs R A S ((T + 1) / 16) := by rw [h, show (T + 1) / 16 = T / 16 by omega]
theorem accs_step {R A : Nat} {S : List Nat} {T ac : Nat} {q : List Nat} (hT : T % 16 + 1 = 16) (h : ac = accs R A S (T / 16)) (hq : q = (S.drop (16 * (T / 16))).take 16) : pst R ac q = accs R A S ((T + 1) / 16) := by
  rw [show (T + 1) / 16 = T / 16 + 1 by omega, accs, ← h, hq]
theorem sS_at {h : Nat → Nat} {n i : Nat} {l : List Nat} (hi : i < l.length) : l[i] = (sS h n l).getD (n + i) 0 := by
  unfold sS
  rw [List.getD_eq_getElem?_getD, List.getElem?_append_right (by simp), List.length_map, List.length_range, Nat.add_sub_cancel_left, List.getElem?_eq_getElem hi]
  rfl
theorem hold_end {S : List Nat} {g : Nat → Nat} (hg : ∀ j, j < 16 → g j = hold S S.length j) : ∀ j, j < 16 → g j = (S.drop (16 * (S.length / 16))).getD j 0 := by
  intro j hj
  rw [hg j hj]
  unfold hold
  rw [List.getD_eq_getElem?_getD, List.getD_eq_getElem?_getD, List.getElem?_drop]
  split
  · rfl
  · rw [List.getElem?_eq_none (by omega)]; rfl

end Go.Proofs.Ytmnmhmpklknleaa
