/-
  Quarter rounds over words in an array, and that eight of them are the document's two rounds. Plain arithmetic.
-/
import Derived.Test.YtmhhemhjjpdioaaCh2
namespace Go.Proofs.Ytmhhemhjjpdioaa
open Go Go.RowKit

theorem and31 {s : Nat} (h : s < 32) : (s &&& 31) % 18446744073709551616 = s := by
  rw [show (31 : Nat) = 2 ^ 5 - 1 by decide, Nat.and_two_pow_sub_one_eq_mod]; omega
/-- A quarter round at four places, step by step. -/
def qst (f : Nat → Nat) (a b c d : Nat) : Nat → Nat :=
  let f1 := upd f a ((f a + f b) % 4294967296)
  let f2 := upd f1 d (rotl ((f1 d ^^^ f1 a) % 4294967296) 16)
  let f3 := upd f2 c ((f2 c + f2 d) % 4294967296)
  let f4 := upd f3 b (rotl ((f3 b ^^^ f3 c) % 4294967296) 12)
  let f5 := upd f4 a ((f4 a + f4 b) % 4294967296)
  let f6 := upd f5 d (rotl ((f5 d ^^^ f5 a) % 4294967296) 8)
  let f7 := upd f6 c ((f6 c + f6 d) % 4294967296)
  upd f7 b (rotl ((f7 b ^^^ f7 c) % 4294967296) 7)
/-- The same, at once. -/
def qat (f : Nat → Nat) (a b c d : Nat) : Nat → Nat := fun t =>
  if t = a then (qrt (f a) (f b) (f c) (f d)).1 else if t = b then (qrt (f a) (f b) (f c) (f d)).2.1 else if t = c then (qrt (f a) (f b) (f c) (f d)).2.2.1 else if t = d then (qrt (f a) (f b) (f c) (f d)).2.2.2 else f t
theorem upd_same (f : Nat → Nat) (a v : Nat) : upd f a v a = v := if_pos rfl
theorem upd_ne (f : Nat → Nat) {a t : Nat} (v : Nat) (h : t ≠ a) : upd f a v t = f t := if_neg h
theorem qst_at (f : Nat → Nat) {a b c d : Nat} (ab : a ≠ b) (ac : a ≠ c) (ad : a ≠ d) (bc : b ≠ c) (bd : b ≠ d) (cd : c ≠ d) (t : Nat) : qst f a b c d t = qat f a b c d t := by
  have ba := ab.symm
  have ca := ac.symm
  have da := ad.symm
  have cb := bc.symm
  have db := bd.symm
  have dc := cd.symm
  unfold qst qat qrt
  simp only [upd_same, upd_ne _ _ ab, upd_ne _ _ ac, upd_ne _ _ ad, upd_ne _ _ bc, upd_ne _ _ bd, upd_ne _ _ cd, upd_ne _ _ ba, upd_ne _ _ ca, upd_ne _ _ da, upd_ne _ _ cb, upd_ne _ _ db, upd_ne _ _ dc]
  by_cases ha : t = a
  · subst ha
    simp only [upd_same, upd_ne _ _ ab, upd_ne _ _ ac, upd_ne _ _ ad, if_pos]
  · by_cases hb : t = b
    · subst hb
      simp only [upd_same, if_neg ha, if_pos]
    · by_cases hc : t = c
      · subst hc
        simp only [upd_same, upd_ne _ _ cb, if_neg ha, if_neg hb, if_pos]
      · by_cases hd : t = d
        · subst hd
          simp only [upd_same, upd_ne _ _ db, upd_ne _ _ dc, if_neg ha, if_neg hb, if_neg hc, if_pos]
        · simp only [if_neg ha, if_neg hb, if_neg hc, if_neg hd, upd_ne _ _ ha, upd_ne _ _ hb, upd_ne _ _ hc, upd_ne _ _ hd]
theorem qst_eq (f : Nat → Nat) {a b c d : Nat} (h : a ≠ b ∧ a ≠ c ∧ a ≠ d ∧ b ≠ c ∧ b ≠ d ∧ c ≠ d) : qst f a b c d = qat f a b c d := funext fun t => qst_at f h.1 h.2.1 h.2.2.1 h.2.2.2.1 h.2.2.2.2.1 h.2.2.2.2.2 t
def cols (f : Nat → Nat) : Nat → Nat := qat (qat (qat (qat f 0 4 8 12) 1 5 9 13) 2 6 10 14) 3 7 11 15
def diag (f : Nat → Nat) : Nat → Nat := qat (qat (qat (qat f 0 5 10 15) 1 6 11 12) 2 7 8 13) 3 4 9 14
theorem cols_rnd (f : Nat → Nat) : ∀ t, t < 16 → cols f t = rnd f t := fun t ht => by
  have : t = 0 ∨ t = 1 ∨ t = 2 ∨ t = 3 ∨ t = 4 ∨ t = 5 ∨ t = 6 ∨ t = 7 ∨ t = 8 ∨ t = 9 ∨ t = 10 ∨ t = 11 ∨ t = 12 ∨ t = 13 ∨ t = 14 ∨ t = 15 := by omega
  rcases this with rfl | rfl | rfl | rfl | rfl | rfl | rfl | rfl | rfl | rfl | rfl | rfl | rfl | rfl | rfl | rfl <;> rfl
theorem diag_rnd (f : Nat → Nat) : ∀ t, t < 16 → diag f t = shm (rnd (sh1 f)) t := fun t ht => by
  have : t = 0 ∨ t = 1 ∨ t = 2 ∨ t = 3 ∨ t = 4 ∨ t = 5 ∨ t = 6 ∨ t = 7 ∨ t = 8 ∨ t = 9 ∨ t = 10 ∨ t = 11 ∨ t = 12 ∨ t = 13 ∨ t = 14 ∨ t = 15 := by omega
  rcases this with rfl | rfl | rfl | rfl | rfl | rfl | rfl | rfl | rfl | rfl | rfl | rfl | rfl | rfl | rfl | rfl <;> rfl
theorem rnd_congr {f g : Nat → Nat} (h : ∀ t, t < 16 → f t = g t) : ∀ t, t < 16 → rnd f t = rnd g t := fun t ht => by
  unfold rnd
  rw [h (t % 4) (by omega), h (4 + t % 4) (by omega), h (8 + t % 4) (by omega), h (12 + t % 4) (by omega)]
theorem sh1_congr {f g : Nat → Nat} (h : ∀ t, t < 16 → f t = g t) : ∀ t, t < 16 → sh1 f t = sh1 g t := fun t ht => h _ (by omega)
theorem shm_congr {f g : Nat → Nat} (h : ∀ t, t < 16 → f t = g t) : ∀ t, t < 16 → shm f t = shm g t := fun t ht => h _ (by omega)
theorem both_dbl (f : Nat → Nat) : ∀ t, t < 16 → diag (cols f) t = dbl f t := fun t ht =>
  (diag_rnd (cols f) t ht).trans (shm_congr (rnd_congr (sh1_congr (cols_rnd f))) t ht)

end Go.Proofs.Ytmhhemhjjpdioaa
