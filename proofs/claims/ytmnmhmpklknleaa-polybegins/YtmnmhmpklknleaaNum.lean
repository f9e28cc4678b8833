/-
  Plain arithmetic of words: no program in sight.
-/
import Derived.Test.YtmnmhmpklknleaaEnv
namespace Go.Proofs.Ytmnmhmpklknleaa

/-- The j-th word of a number. -/
def wd (x j : Nat) : Nat := x / 2 ^ (64 * j) % 18446744073709551616
/-- A number of four words, as Go's [4]uint64. -/
abbrev fe (x : Nat) : Value := .agg (arr .u64 4 (wd x))

theorem pow_succ64 (k : Nat) : 2 ^ (64 * (k + 1)) = 2 ^ (64 * k) * 18446744073709551616 := by
  rw [show 64 * (k + 1) = 64 * k + 64 by omega, Nat.pow_add]
theorem pow_pos64 (k : Nat) : 0 < 2 ^ (64 * k) := Nat.pow_pos (by decide)
theorem wd_lt (x j : Nat) : wd x j < 18446744073709551616 := Nat.mod_lt _ (by decide)

/-- Adding t times the base's power turns no word below it, and its word and what lies above by t. -/
theorem wd_low (s t i k : Nat) (h : i < k) : wd (s + t * 2 ^ (64 * k)) i = wd s i := by
  unfold wd
  have e : (2 : Nat) ^ (64 * k) = 2 ^ (64 * i) * (18446744073709551616 * 2 ^ (64 * (k - i - 1))) := by
    rw [show (18446744073709551616 : Nat) = 2 ^ 64 by decide, ← Nat.pow_add, ← Nat.pow_add]; congr 1; omega
  rw [e, ← Nat.mul_assoc, Nat.mul_comm t, Nat.mul_assoc, Nat.add_mul_div_left _ _ (pow_pos64 i), ← Nat.mul_assoc, Nat.mul_comm t, Nat.mul_assoc, Nat.add_mul_mod_self_left]

theorem wd_at (s t k : Nat) : wd (s + t * 2 ^ (64 * k)) k = (s / 2 ^ (64 * k) + t) % 18446744073709551616 := by
  unfold wd
  rw [Nat.mul_comm t, Nat.add_mul_div_left _ _ (pow_pos64 k)]

theorem div_next (s t k : Nat) : (s + t * 2 ^ (64 * k)) / 2 ^ (64 * (k + 1)) = (s / 2 ^ (64 * k) + t) / 18446744073709551616 := by
  rw [pow_succ64, ← Nat.div_div_eq_div_mul, Nat.mul_comm t, Nat.add_mul_div_left _ _ (pow_pos64 k)]

theorem mod_next (x k : Nat) : x % 2 ^ (64 * (k + 1)) = x % 2 ^ (64 * k) + wd x k * 2 ^ (64 * k) := by
  rw [pow_succ64, Nat.mod_mul, Nat.mul_comm (2 ^ (64 * k))]; rfl

/-! ### A sum, word by word -/
def car (a b k : Nat) : Nat := (a % 2 ^ (64 * k) + b % 2 ^ (64 * k)) / 2 ^ (64 * k)

theorem car_zero (a b : Nat) : car a b 0 = 0 := by simp [car, Nat.mod_one]
theorem car_le (a b k : Nat) : car a b k ≤ 1 := by
  unfold car
  have h1 := Nat.mod_lt a (pow_pos64 k)
  have h2 := Nat.mod_lt b (pow_pos64 k)
  have : (a % 2 ^ (64 * k) + b % 2 ^ (64 * k)) / 2 ^ (64 * k) < 2 := by
    rw [Nat.div_lt_iff_lt_mul (pow_pos64 k)]; omega
  omega
theorem car_word (a b k : Nat) : (wd a k + wd b k + car a b k) % 18446744073709551616 = wd (a + b) k := by
  have e1 := Nat.div_add_mod a (2 ^ (64 * k))
  have e2 := Nat.div_add_mod b (2 ^ (64 * k))
  have e : a + b = (a % 2 ^ (64 * k) + b % 2 ^ (64 * k)) + (a / 2 ^ (64 * k) + b / 2 ^ (64 * k)) * 2 ^ (64 * k) := by
    rw [Nat.add_mul, Nat.mul_comm (a / _), Nat.mul_comm (b / _)]; omega
  rw [e, wd_at]
  unfold wd car
  omega
theorem car_next (a b k : Nat) : (wd a k + wd b k + car a b k) / 18446744073709551616 = car a b (k + 1) := by
  unfold car
  rw [mod_next a, mod_next b]
  have e : a % 2 ^ (64 * k) + wd a k * 2 ^ (64 * k) + (b % 2 ^ (64 * k) + wd b k * 2 ^ (64 * k)) = (a % 2 ^ (64 * k) + b % 2 ^ (64 * k)) + (wd a k + wd b k) * 2 ^ (64 * k) := by
    rw [Nat.add_mul]; omega
  rw [e, div_next]
  congr 1; omega

/-! ### A difference, word by word -/
def bor (a b k : Nat) : Nat := if a % 2 ^ (64 * k) < b % 2 ^ (64 * k) then 1 else 0

theorem bor_zero (a b : Nat) : bor a b 0 = 0 := by simp [bor, Nat.mod_one]
theorem bor_le (a b k : Nat) : bor a b k ≤ 1 := by unfold bor; split <;> omega
theorem bor_next (a b k : Nat) : (if wd a k < wd b k + bor a b k then 1 else 0) = bor a b (k + 1) := by
  unfold bor
  rw [mod_next a, mod_next b]
  have h1 := Nat.mod_lt a (pow_pos64 k)
  have h2 := Nat.mod_lt b (pow_pos64 k)
  generalize a % 2 ^ (64 * k) = a0 at *
  generalize b % 2 ^ (64 * k) = b0 at *
  generalize 2 ^ (64 * k) = X at *
  generalize wd a k = p
  generalize wd b k = q
  have key : (p < q + (if a0 < b0 then 1 else 0)) ↔ (a0 + p * X < b0 + q * X) := by
    rcases Nat.lt_trichotomy p q with h | h | h
    · have : p * X + X ≤ q * X := by
        have := Nat.mul_le_mul_right X (show p + 1 ≤ q from h)
        rw [Nat.add_mul] at this; omega
      constructor
      · intro _; omega
      · intro _; split <;> omega
    · subst h; split <;> omega
    · have : q * X + X ≤ p * X := by
        have := Nat.mul_le_mul_right X (show q + 1 ≤ p from h)
        rw [Nat.add_mul] at this; omega
      constructor
      · intro h3; split at h3 <;> omega
      · intro _; omega
  simp only [key]

theorem wd_wrap (x k : Nat) (hk : k < 4) : wd (x + 2 ^ 256) k = wd x k := by
  have := wd_low x 1 k 4 hk
  simpa using this

theorem mod_wrap (x k : Nat) (hk : k ≤ 4) : (x + 2 ^ 256) % 2 ^ (64 * k) = x % 2 ^ (64 * k) := by
  have e : (2 : Nat) ^ 256 = 2 ^ (64 * k) * 2 ^ (256 - 64 * k) := by rw [← Nat.pow_add]; congr 1; omega
  rw [e, Nat.add_mul_mod_self_left]

theorem bor_car (a b k : Nat) (hk : k ≤ 4) (hb : b ≤ a + 2 ^ 256) : car (a + 2 ^ 256 - b) b k = bor a b k := by
  unfold car bor
  have e : (a + 2 ^ 256 - b + b) % 2 ^ (64 * k) = a % 2 ^ (64 * k) := by
    rw [Nat.sub_add_cancel hb, mod_wrap a k hk]
  rw [Nat.add_mod] at e
  have h1 := Nat.mod_lt (a + 2 ^ 256 - b) (pow_pos64 k)
  have h2 := Nat.mod_lt b (pow_pos64 k)
  have hp := pow_pos64 k
  generalize (a + 2 ^ 256 - b) % 2 ^ (64 * k) = z at *
  generalize b % 2 ^ (64 * k) = y at *
  generalize a % 2 ^ (64 * k) = x at *
  generalize 2 ^ (64 * k) = X at *
  rcases Nat.lt_or_ge (z + y) X with h | h
  · rw [Nat.mod_eq_of_lt h] at e
    rw [Nat.div_eq_of_lt h]; split <;> omega
  · have hx : (z + y) / X = 1 := by
      rw [Nat.div_eq_iff hp]; omega
    have hm : (z + y) % X = z + y - X := by
      rw [Nat.mod_eq_sub_mod h, Nat.mod_eq_of_lt (by omega)]
    rw [hm] at e
    rw [hx]; split <;> omega

theorem bor_word (a b k : Nat) (hk : k < 4) (hb : b ≤ a + 2 ^ 256) : (wd a k + 18446744073709551616 - wd b k - bor a b k) % 18446744073709551616 = wd (a + 2 ^ 256 - b) k := by
  have h := car_word (a + 2 ^ 256 - b) b k
  rw [bor_car a b k (by omega) hb, Nat.sub_add_cancel hb, wd_wrap a k hk] at h
  have h1 := wd_lt (a + 2 ^ 256 - b) k
  have h2 := wd_lt b k
  have h3 := wd_lt a k
  have h4 := bor_le a b k
  omega

theorem fe_congr {k : IntKind} {n : Nat} {f : Nat → Nat} {x : Nat} (h : ∀ j, j < n → f j = wd x j) : arr k n f = arr k n (wd x) := arr_congr h
theorem fe_of {s : Nat → Nat} {x : Nat} (h : ∀ j, j < 4 → s j = wd x j) : fe x = .agg (arr .u64 4 s) := by rw [fe, arr_congr h]
theorem upd_lt {f g : Nat → Nat} {k v : Nat} (h : ∀ j, j < k → f j = g j) (hv : v = g k) : ∀ j, j < k + 1 → upd f k v j = g j := fun j hj => by
  unfold upd
  split
  · rename_i e; rw [e]; exact hv
  · exact h j (by omega)

end Go.Proofs.Ytmnmhmpklknleaa
