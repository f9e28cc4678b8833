/-
  A state of the one-time sum that may be; its end.
-/
import Derived.Test.YtmnmhmpklknleaaPol
namespace Go.Proofs.Ytmnmhmpklknleaa
open Go Go.RowKit

def lw (r : Nat → Nat) : List Nat := lowl (r 0) 8 ++ lowl (r 1) 8
theorem lw_len (r : Nat → Nat) : (lw r).length = 16 := by simp [lw, lowl_len]
theorem lw_lt (r : Nat → Nat) : ∀ b ∈ lw r, b < 256 := by
  intro b h
  unfold lw at h
  rw [List.mem_append] at h
  rcases h with h | h
  · exact lowl_lt _ _ b h
  · exact lowl_lt _ _ b h
/-- A key whose first half is r. -/
def kq (r : Nat → Nat) (j : Nat) : Nat := (lw r).getD j 0
theorem getD_lt {l : List Nat} (hl : ∀ b ∈ l, b < 256) (j : Nat) : l.getD j 0 < 256 := by
  rw [List.getD_eq_getElem?_getD]
  cases h : l[j]? with
  | none => simp
  | some v => exact hl v (List.mem_of_getElem? h)
theorem kq_lt (r : Nat → Nat) : ∀ j, j < 32 → kq r j < 256 := fun j _ => getD_lt (lw_lt r) j
theorem kq_copy (r : Nat → Nat) : ∀ j, j < 32 → (if 0 ≤ j ∧ j < 0 + min (lw r).length 32 then (lw r).getD (j - 0) 0 else 0) = kq r j := by
  intro j _
  have h := lw_len r
  unfold kq
  split
  · rfl
  · rw [List.getD_eq_getElem?_getD, List.getElem?_eq_none (by omega)]; rfl
def okcd (r a : Nat → Nat) (n : Int) : Bool := allEq 2 (w8 (bL (kq r))) r && (decide (0 ≤ n) && (decide (n < 16) && (decide (a 2 < 4) && allEq 3 (wd (w3 a % QQ)) a)))
def okh (n : Int) (h : Nat → Nat) (i : Nat) : Bool := (List.range i).all fun j => decide ((j : Int) < n) || decide (h j = 0)
theorem okh_next (n : Int) (h : Nat → Nat) (i : Nat) : okh n h (i + 1) = (okh n h i && (decide ((i : Int) < n) || decide (h i = 0))) := by
  unfold okh
  rw [List.range_succ, List.all_append]
  simp
theorem okcases (r a : Nat → Nat) (n : Int) : (allEq 2 (w8 (bL (kq r))) r = false) ∨ (allEq 2 (w8 (bL (kq r))) r = true ∧ ¬ 0 ≤ n) ∨ (allEq 2 (w8 (bL (kq r))) r = true ∧ 0 ≤ n ∧ ¬ n < 16) ∨ (allEq 2 (w8 (bL (kq r))) r = true ∧ 0 ≤ n ∧ n < 16 ∧ ¬ a 2 < 4)
    ∨ (allEq 2 (w8 (bL (kq r))) r = true ∧ 0 ≤ n ∧ n < 16 ∧ a 2 < 4 ∧ allEq 3 (wd (w3 a % QQ)) a = false) ∨ (allEq 2 (w8 (bL (kq r))) r = true ∧ 0 ≤ n ∧ n < 16 ∧ a 2 < 4 ∧ allEq 3 (wd (w3 a % QQ)) a = true) := by
  cases allEq 2 (w8 (bL (kq r))) r
  · exact .inl rfl
  · by_cases h1 : 0 ≤ n
    · by_cases h2 : n < 16
      · by_cases h3 : a 2 < 4
        · cases allEq 3 (wd (w3 a % QQ)) a
          · exact .inr (.inr (.inr (.inr (.inl ⟨rfl, h1, h2, h3, rfl⟩))))
          · exact .inr (.inr (.inr (.inr (.inr ⟨rfl, h1, h2, h3, rfl⟩))))
        · exact .inr (.inr (.inr (.inl ⟨rfl, h1, h2, h3⟩)))
      · exact .inr (.inr (.inl ⟨rfl, h1, h2⟩))
    · exact .inr (.inl ⟨rfl, h1⟩)
theorem okbase {b c e g f : Bool} (h : b = false ∨ c = false ∨ e = false ∨ g = false ∨ f = false) : false = (b && (c && (e && (g && f)))) := by
  cases b <;> cases c <;> cases e <;> cases g <;> cases f <;> simp at h ⊢
theorem ok_all {r a : Nat → Nat} {n : Int} (h0 : allEq 2 (w8 (bL (kq r))) r = true) (h1 : 0 ≤ n) (h2 : n < 16) (h3 : a 2 < 4) (h4 : allEq 3 (wd (w3 a % QQ)) a = true) : true = okcd r a n := by
  unfold okcd
  rw [h0, h4, decide_eq_true h1, decide_eq_true h2, decide_eq_true h3]
  rfl
theorem self26 {x : Nat} (hx : x < 2 ^ 130) : v26 (d26 x) 5 = x := (v26_d26 x 5).trans (Nat.mod_eq_of_lt hx)
theorem okn_a {c : Bool} {n : Int} {h : Nat → Nat} {i : Nat} (hok : (c && okh n h i) = false) : false = (c && okh n h (i + 1)) := by
  rw [okh_next, ← Bool.and_assoc, hok]; rfl
theorem okn_b {c : Bool} {n : Int} {h : Nat → Nat} {i : Nat} (hok : (c && okh n h i) = true) (hl : (i : Int) < n) : true = (c && okh n h (i + 1)) := by
  rw [okh_next, ← Bool.and_assoc, hok, decide_eq_true hl]; rfl
theorem okn_c {c : Bool} {n : Int} {h : Nat → Nat} {i : Nat} (hok : (c && okh n h i) = true) (hl : ¬ (i : Int) < n) : decide ((h i : Int) = 0) = (c && okh n h (i + 1)) := by
  rw [okh_next, ← Bool.and_assoc, hok, decide_eq_false hl, Bool.true_and, Bool.false_or]
  by_cases e : h i = 0
  · rw [e]; rfl
  · rw [decide_eq_false e, decide_eq_false (by omega)]
theorem okcase2 (c : Bool) (n : Int) (h : Nat → Nat) (i : Nat) : (c && okh n h i) = false ∨ ((c && okh n h i) = true ∧ (i : Int) < n) ∨ ((c && okh n h i) = true ∧ ¬ (i : Int) < n) := by
  cases (c && okh n h i)
  · exact .inl rfl
  · by_cases hl : (i : Int) < n
    · exact .inr (.inl ⟨rfl, hl⟩)
    · exact .inr (.inr ⟨rfl, hl⟩)

end Go.Proofs.Ytmnmhmpklknleaa
