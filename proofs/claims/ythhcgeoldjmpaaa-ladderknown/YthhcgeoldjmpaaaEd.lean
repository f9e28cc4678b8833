/-
  The curve behind the ladder, in Edwards' form: a complete law of addition, and that three go together in any way. Plain algebra by the prime 2^255 - 19: no program in sight.
-/
import Derived.Test.YthhcgeoldjmpaaaPrime
namespace Go.Proofs.Ythhcgeoldjmpaaa

abbrev F := Fin PP

theorem F_val_mul (a b : F) : (a * b).val = a.val * b.val % PP := Fin.val_mul a b
theorem F_eq {a b : F} (h : a.val = b.val) : a = b := Fin.ext h
theorem F_ne {a : F} (h : a ≠ 0) : a.val ≠ 0 := fun h0 => h (Fin.ext h0)
theorem F_noz {a b : F} (h : a * b = 0) : a = 0 ∨ b = 0 := by
  by_cases ha : a = 0
  · exact .inl ha
  · refine .inr (Fin.ext (no_zero a.val b.val (F_ne ha) a.isLt b.isLt ?_))
    have := congrArg Fin.val h
    rw [F_val_mul] at this
    exact this
theorem F_can {a b c : F} (ha : a ≠ 0) (h : a * b = a * c) : b = c := by
  have : a * (b - c) = 0 := by grind
  rcases F_noz this with h1 | h1
  · exact absurd h1 ha
  · grind
theorem F_mul_ne {a b : F} (ha : a ≠ 0) (hb : b ≠ 0) : a * b ≠ 0 := fun h => by
  rcases F_noz h with h1 | h1
  · exact ha h1
  · exact hb h1
def pw (a : F) (n : Nat) : F := ⟨a.val ^ n % PP, Nat.mod_lt _ (by decide)⟩
def iv (a : F) : F := pw a EE
theorem iv_mul {a : F} (h : a ≠ 0) : a * iv a = 1 := by
  apply F_eq
  rw [F_val_mul]
  exact inv_mul a.val (F_ne h) a.isLt
theorem pw_zero (n : Nat) (h : 0 < n) : pw 0 n = 0 := by
  apply F_eq
  show 0 ^ n % PP = 0
  rw [Nat.zero_pow h]; rfl
theorem iv_zero : iv 0 = 0 := pw_zero EE (by decide)
theorem sq_one {z : F} (h : z * z = 1) : z = 1 ∨ z = -1 := by
  have h2 : (z - 1) * (z + 1) = 0 := by grind
  rcases F_noz h2 with h3 | h3
  · left; grind
  · right; grind
theorem pw_add (a : F) (m n : Nat) : pw a (m + n) = pw a m * pw a n := by
  apply F_eq
  rw [F_val_mul]
  show a.val ^ (m + n) % PP = (a.val ^ m % PP) * (a.val ^ n % PP) % PP
  rw [Nat.pow_add, Nat.mul_mod]
theorem pw_mul (a b : F) (n : Nat) : pw (a * b) n = pw a n * pw b n := by
  apply F_eq
  rw [F_val_mul]
  show (a * b).val ^ n % PP = (a.val ^ n % PP) * (b.val ^ n % PP) % PP
  rw [F_val_mul, ← Nat.pow_mod, Nat.mul_pow, Nat.mul_mod]
theorem pw_one (a : F) : pw a 1 = a := by
  apply F_eq
  show a.val ^ 1 % PP = a.val
  rw [Nat.pow_one]; exact Nat.mod_eq_of_lt a.isLt
theorem pw_pp {a : F} (h : a ≠ 0) : pw a (PP - 1) = 1 := by
  apply F_eq
  show a.val ^ (PP - 1) % PP = 1
  refine fermat pPP fun hd => ?_
  have := F_ne h
  exact absurd (Nat.le_of_dvd (by omega) hd) (by have := a.isLt; omega)

/-! ### Squares -/
abbrev HP : Nat := 28948022309329048855892746252171976963317496166410141009864396001978282409974
abbrev QP : Nat := 14474011154664524427946373126085988481658748083205070504932198000989141204987
abbrev EP : Nat := 7237005577332262213973186563042994240829374041602535252466099000494570602494
theorem pw_val (a : F) (n : Nat) (hn : n < 2 ^ 256) (c : F) (h : pm PP 256 a.val n = c.val) : pw a n = c := by
  apply F_eq
  rw [pm_eq PP 256 a.val n hn] at h
  exact h
theorem twoHP : HP + HP = PP - 1 := by decide
theorem twoQP : QP + QP = HP := by decide
theorem twoEP : EP + EP = QP + 1 := by decide
theorem half {a : F} (h : a ≠ 0) : pw a HP = 1 ∨ pw a HP = -1 :=
  sq_one (by rw [← pw_add, twoHP]; exact pw_pp h)
theorem two_half : pw 2 QP * pw 2 QP = -1 := by
  rw [← pw_add, twoQP]
  exact pw_val 2 HP (by decide) (-1) (by decide +kernel)
theorem root_of {q e a t : F} (h : q * q = 1) (h3 : e * e = q * a) (ht : t * t = -1) : ∃ r, r * r = a := by
  rcases sq_one h with h4 | h4
  · exact ⟨e, by grind⟩
  · exact ⟨e * t, by grind⟩
theorem root {a : F} (h : pw a HP = 1) : ∃ r, r * r = a :=
  root_of (q := pw a QP) (e := pw a EP) (t := pw 2 QP) (by rw [← pw_add, twoQP]; exact h) (by rw [← pw_add, twoEP, pw_add, pw_one]) two_half
theorem sq_half {a : F} (h : a ≠ 0) : pw (a * a) HP = 1 := by
  rw [pw_mul, ← pw_add, twoHP]; exact pw_pp h
/-- A number that is no square: none but nought so often comes to a square. -/
def NoSq (D : F) : Prop := ∀ a b : F, D * (b * b) = a * a → b = 0
theorem noSq_of {D : F} (hD : pw D HP = -1) : NoSq D := fun a b h => by
  by_cases hb : b = 0
  · exact hb
  · have h1 := congrArg (fun z => pw z HP) h
    simp only [pw_mul D] at h1
    rw [hD, sq_half hb] at h1
    by_cases ha : a = 0
    · subst ha
      have hz : (0 : F) * 0 = 0 := by grind
      rw [hz] at h1
      rw [pw_zero HP (by decide)] at h1
      exact absurd h1 (by decide +kernel)
    · rw [sq_half ha] at h1
      exact absurd h1 (by decide +kernel)

end Go.Proofs.Ythhcgeoldjmpaaa
