/-
  Plain arithmetic of digits to the base 2^26, by 2^130 - 5.
-/
import Derived.Test.YtmnmhmpklknleaaNum6
namespace Go.Proofs.Ytmnmhmpklknleaa

def d26 (x j : Nat) : Nat := x / 2 ^ (26 * j) % 67108864
abbrev p5 (x : Nat) : Value := .agg (arr .u64 5 (d26 x))
theorem d26_lt (x j : Nat) : d26 x j < 67108864 := Nat.mod_lt _ (by decide)
def v26 (f : Nat → Nat) : Nat → Nat
  | 0 => 0
  | k + 1 => v26 f k + f k * 2 ^ (26 * k)

theorem v26_succ (f : Nat → Nat) (k : Nat) : v26 f (k + 1) = v26 f k + f k * 2 ^ (26 * k) := rfl

theorem pow_pos26 (k : Nat) : 0 < 2 ^ (26 * k) := Nat.pow_pos (by decide)
theorem pow_succ26 (k : Nat) : 2 ^ (26 * (k + 1)) = 2 ^ (26 * k) * 67108864 := by rw [show 26 * (k + 1) = 26 * k + 26 by omega, Nat.pow_add]
theorem v26_congr {f g : Nat → Nat} : ∀ k, (∀ j, j < k → f j = g j) → v26 f k = v26 g k
  | 0, _ => rfl
  | k + 1, h => by unfold v26; rw [v26_congr k (fun j hj => h j (by omega)), h k (by omega)]
theorem v26_lt (f : Nat → Nat) : ∀ k, (∀ j, j < k → f j < 67108864) → v26 f k < 2 ^ (26 * k)
  | 0, _ => by simp [v26]
  | k + 1, h => by
    have h1 := v26_lt f k (fun j hj => h j (by omega))
    have h2 := h k (by omega)
    unfold v26
    have h3 : f k * 2 ^ (26 * k) ≤ 67108863 * 2 ^ (26 * k) := Nat.mul_le_mul_right _ (by omega)
    rw [pow_succ26]; omega
theorem v26_d26 (x : Nat) : ∀ k, v26 (d26 x) k = x % 2 ^ (26 * k)
  | 0 => by simp [v26, Nat.mod_one]
  | k + 1 => by
    unfold v26
    rw [v26_d26 x k, pow_succ26, Nat.mod_mul, Nat.mul_comm (2 ^ (26 * k))]
    rfl
theorem v26_upd (f : Nat → Nat) (k v : Nat) : ∀ n, k < n → v26 (upd f k v) n + f k * 2 ^ (26 * k) = v26 f n + v * 2 ^ (26 * k)
  | 0, h => by omega
  | n + 1, h => by
    unfold v26
    by_cases e : k = n
    · subst e
      have h1 : v26 (upd f k v) k = v26 f k := v26_congr k fun j hj => by unfold upd; rw [if_neg (by omega)]
      have h2 : upd f k v k = v := by unfold upd; rw [if_pos rfl]
      rw [h1, h2]; omega
    · have ih := v26_upd f k v n (by omega)
      have h2 : upd f k v n = f n := by unfold upd; rw [if_neg (fun h => e h.symm)]
      rw [h2]; omega
theorem d26_low (s t i k : Nat) (h : i < k) : d26 (s + t * 2 ^ (26 * k)) i = d26 s i := by
  unfold d26
  have e : (2 : Nat) ^ (26 * k) = 2 ^ (26 * i) * (67108864 * 2 ^ (26 * (k - i - 1))) := by
    rw [show (67108864 : Nat) = 2 ^ 26 by decide, ← Nat.pow_add, ← Nat.pow_add]; congr 1; omega
  rw [e, ← Nat.mul_assoc, Nat.mul_comm t, Nat.mul_assoc, Nat.add_mul_div_left _ _ (pow_pos26 i), ← Nat.mul_assoc, Nat.mul_comm t, Nat.mul_assoc, Nat.add_mul_mod_self_left]
theorem d26_v26 (f : Nat → Nat) : ∀ n, (∀ j, j < n → f j < 67108864) → ∀ j, j < n → d26 (v26 f n) j = f j
  | 0, _, j, h => by omega
  | n + 1, hf, j, h => by
    have h1 := v26_lt f n (fun j hj => hf j (by omega))
    unfold v26
    by_cases e : j = n
    · subst e
      unfold d26
      rw [Nat.mul_comm (f j), Nat.add_mul_div_left _ _ (pow_pos26 j), Nat.div_eq_of_lt h1, Nat.zero_add]
      exact Nat.mod_eq_of_lt (hf j (by omega))
    · rw [d26_low _ _ j n (by omega)]
      exact d26_v26 f n (fun j hj => hf j (by omega)) j (by omega)
theorem v26_step {s : Nat → Nat} {j v : Nat} : v26 (upd s j v) (j + 1) = v26 s j + v * 2 ^ (26 * j) := by
  have := v26_upd s j v (j + 1) (by omega)
  have h2 : v26 s (j + 1) = v26 s j + s j * 2 ^ (26 * j) := rfl
  omega
theorem carry26 {s s2 : Nat → Nat} {j c : Nat} (h : v26 s2 j + c * 2 ^ (26 * j) = v26 s j) (hs : s2 j = s j) :
    v26 (upd s2 j ((c + s2 j) % 67108864)) (j + 1) + (c + s2 j) / 67108864 * 2 ^ (26 * (j + 1)) = v26 s (j + 1) := by
  rw [v26_step, pow_succ26]
  have h2 : v26 s (j + 1) = v26 s j + s j * 2 ^ (26 * j) := rfl
  rw [h2, ← hs, ← h]
  have e := Nat.div_add_mod (c + s2 j) 67108864
  have e2 : (c + s2 j) % 67108864 * 2 ^ (26 * j) + (c + s2 j) / 67108864 * (2 ^ (26 * j) * 67108864) = (c + s2 j) * 2 ^ (26 * j) := by
    conv => rhs; rw [← e]
    rw [Nat.add_mul, Nat.mul_comm 67108864, Nat.mul_assoc, Nat.mul_comm 67108864]
    omega
  rw [Nat.add_mul] at e2
  omega

def QQ : Nat := 2 ^ 130 - 5
theorem QQ_eq : QQ = 1361129467683753853853498429727072845819 := by decide
theorem QQ_pos : 0 < QQ := by decide
theorem v26_five (f : Nat → Nat) : v26 f 5 = f 0 + f 1 * 67108864 + f 2 * 4503599627370496 + f 3 * 302231454903657293676544 + f 4 * 20282409603651670423947251286016 := by
  simp only [v26]
  omega
/-- One round of carries: what is above comes in below, five times. -/
def bnd5 (k : Nat) : Nat := if k = 0 then 2 ^ 130 * 2 ^ 35 else if k = 1 then 2 ^ 130 + 2 ^ 38 else 2 ^ 130
theorem bnd5_next (T k : Nat) (h : T < bnd5 k) : T % 2 ^ 130 + 5 * (T / 2 ^ 130) < bnd5 (k + 1) := by
  unfold bnd5 at *
  by_cases h0 : k = 0
  · subst h0; simp at h ⊢; omega
  · by_cases h1 : k = 1
    · subst h1; simp at h ⊢; omega
    · rw [if_neg h0, if_neg h1] at h
      rw [if_neg (by omega), if_neg (by omega)]; omega
theorem round5 (T : Nat) : (T % 2 ^ 130 + 5 * (T / 2 ^ 130)) % QQ = T % QQ := by
  have e := Nat.div_add_mod T (2 ^ 130)
  generalize T / 2 ^ 130 = h at *
  generalize T % 2 ^ 130 = l at *
  have e3 : T = l + 5 * h + QQ * h := by rw [QQ_eq]; omega
  rw [e3, Nat.add_mul_mod_self_left]
theorem v26_bound (f : Nat → Nat) (hf : ∀ j, j < 5 → f j < 2 ^ 60) : v26 f 5 < bnd5 0 := by
  rw [v26_five]
  have h0 := hf 0 (by decide)
  have h1 := hf 1 (by decide)
  have h2 := hf 2 (by decide)
  have h3 := hf 3 (by decide)
  have h4 := hf 4 (by decide)
  unfold bnd5
  simp
  omega
theorem p5_of {f : Nat → Nat} {x : Nat} (hf : ∀ j, j < 5 → f j < 67108864) (h : v26 f 5 = x) : Value.agg (arr .u64 5 f) = p5 x := by
  rw [p5, ← h]
  congr 1
  exact arr_congr fun j hj => (d26_v26 f 5 hf j hj).symm

end Go.Proofs.Ytmnmhmpklknleaa
