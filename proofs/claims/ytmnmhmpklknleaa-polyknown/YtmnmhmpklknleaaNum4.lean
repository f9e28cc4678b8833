/-
  Plain arithmetic of digits to the base 2^16: no program in sight.
-/
import Derived.Test.YtmnmhmpklknleaaNum3
namespace Go.Proofs.Ytmnmhmpklknleaa

def d16 (x j : Nat) : Nat := x / 2 ^ (16 * j) % 65536
abbrev dg (x : Nat) : Value := .agg (arr .u64 16 (d16 x))
theorem d16_lt (x j : Nat) : d16 x j < 65536 := Nat.mod_lt _ (by decide)
def vs (f : Nat → Nat) : Nat → Nat
  | 0 => 0
  | k + 1 => vs f k + f k * 2 ^ (16 * k)

theorem vs_succ (f : Nat → Nat) (k : Nat) : vs f (k + 1) = vs f k + f k * 2 ^ (16 * k) := rfl

theorem pow_pos16 (k : Nat) : 0 < 2 ^ (16 * k) := Nat.pow_pos (by decide)
theorem pow_succ16 (k : Nat) : 2 ^ (16 * (k + 1)) = 2 ^ (16 * k) * 65536 := by rw [show 16 * (k + 1) = 16 * k + 16 by omega, Nat.pow_add]
theorem vs_congr {f g : Nat → Nat} : ∀ k, (∀ j, j < k → f j = g j) → vs f k = vs g k
  | 0, _ => rfl
  | k + 1, h => by unfold vs; rw [vs_congr k (fun j hj => h j (by omega)), h k (by omega)]
theorem vs_lt (f : Nat → Nat) : ∀ k, (∀ j, j < k → f j < 65536) → vs f k < 2 ^ (16 * k)
  | 0, _ => by simp [vs]
  | k + 1, h => by
    have h1 := vs_lt f k (fun j hj => h j (by omega))
    have h2 := h k (by omega)
    unfold vs
    have h3 : f k * 2 ^ (16 * k) ≤ 65535 * 2 ^ (16 * k) := Nat.mul_le_mul_right _ (by omega)
    rw [pow_succ16]; omega
theorem vs_d16 (x : Nat) : ∀ k, vs (d16 x) k = x % 2 ^ (16 * k)
  | 0 => by simp [vs, Nat.mod_one]
  | k + 1 => by
    unfold vs
    rw [vs_d16 x k, pow_succ16, Nat.mod_mul, Nat.mul_comm (2 ^ (16 * k))]
    rfl
theorem vs_upd (f : Nat → Nat) (k v : Nat) : ∀ n, k < n → vs (upd f k v) n + f k * 2 ^ (16 * k) = vs f n + v * 2 ^ (16 * k)
  | 0, h => by omega
  | n + 1, h => by
    unfold vs
    by_cases e : k = n
    · subst e
      have h1 : vs (upd f k v) k = vs f k := vs_congr k fun j hj => by unfold upd; rw [if_neg (by omega)]
      have h2 : upd f k v k = v := by unfold upd; rw [if_pos rfl]
      rw [h1, h2]; omega
    · have ih := vs_upd f k v n (by omega)
      have h2 : upd f k v n = f n := by unfold upd; rw [if_neg (fun h => e h.symm)]
      rw [h2]; omega
theorem d16_low (s t i k : Nat) (h : i < k) : d16 (s + t * 2 ^ (16 * k)) i = d16 s i := by
  unfold d16
  have e : (2 : Nat) ^ (16 * k) = 2 ^ (16 * i) * (65536 * 2 ^ (16 * (k - i - 1))) := by
    rw [show (65536 : Nat) = 2 ^ 16 by decide, ← Nat.pow_add, ← Nat.pow_add]; congr 1; omega
  rw [e, ← Nat.mul_assoc, Nat.mul_comm t, Nat.mul_assoc, Nat.add_mul_div_left _ _ (pow_pos16 i), ← Nat.mul_assoc, Nat.mul_comm t, Nat.mul_assoc, Nat.add_mul_mod_self_left]
theorem d16_vs (f : Nat → Nat) : ∀ n, (∀ j, j < n → f j < 65536) → ∀ j, j < n → d16 (vs f n) j = f j
  | 0, _, j, h => by omega
  | n + 1, hf, j, h => by
    have h1 := vs_lt f n (fun j hj => hf j (by omega))
    unfold vs
    by_cases e : j = n
    · subst e
      unfold d16
      rw [Nat.mul_comm (f j), Nat.add_mul_div_left _ _ (pow_pos16 j), Nat.div_eq_of_lt h1, Nat.zero_add]
      exact Nat.mod_eq_of_lt (hf j (by omega))
    · rw [d16_low _ _ j n (by omega)]
      exact d16_vs f n (fun j hj => hf j (by omega)) j (by omega)
theorem dg_of {f : Nat → Nat} {x : Nat} (hf : ∀ j, j < 16 → f j < 65536) (h : vs f 16 = x) : Value.agg (arr .u64 16 f) = dg x := by
  rw [dg, ← h]
  congr 1
  exact arr_congr fun j hj => (d16_vs f 16 hf j hj).symm
theorem vs_dg (x : Nat) (hx : x < 2 ^ 256) : vs (d16 x) 16 = x := by rw [vs_d16]; exact Nat.mod_eq_of_lt hx

/-! ### Four words and sixteen digits -/
theorem of_word (a k : Nat) : wd a (k / 4) / 2 ^ (16 * (k % 4)) % 65536 = d16 a k := by
  unfold wd d16
  have e16 : 16 * k = 64 * (k / 4) + 16 * (k % 4) := by omega
  have hm : k % 4 < 4 := Nat.mod_lt _ (by decide)
  have e64 : (18446744073709551616 : Nat) = 2 ^ (16 * (k % 4)) * (65536 * 2 ^ (48 - 16 * (k % 4))) := by
    rw [show (65536 : Nat) = 2 ^ 16 by decide, ← Nat.pow_add, ← Nat.pow_add, show 16 * (k % 4) + (16 + (48 - 16 * (k % 4))) = 64 by omega]
  rw [e64, Nat.mod_mul_right_div_self, Nat.mod_mul_right_mod, Nat.div_div_eq_div_mul, ← Nat.pow_add, ← e16]

theorem back_step (f : Nat → Nat) (k : Nat) (s : Nat → Nat) (hk : k < 16) (hf : ∀ j, j < 16 → f j < 65536) (hs : ∀ j, j < 4 → s j = wd (vs f k) j) :
    ∀ j, j < 4 → upd s (k / 4) ((s (k / 4) ||| (f k * 2 ^ (16 * (k % 4))) % 18446744073709551616) % 18446744073709551616) j = wd (vs f (k + 1)) j := by
  intro j hj
  have hlt := vs_lt f k (fun j hj => hf j (by omega))
  have hfk := hf k hk
  have e16 : 16 * k = 64 * (k / 4) + 16 * (k % 4) := by omega
  have hm : k % 4 < 4 := Nat.mod_lt _ (by decide)
  have hnext : vs f (k + 1) = vs f k + (f k * 2 ^ (16 * (k % 4))) * 2 ^ (64 * (k / 4)) := by
    show vs f k + f k * 2 ^ (16 * k) = _
    rw [e16, Nat.pow_add, Nat.mul_assoc, Nat.mul_comm (2 ^ (64 * (k / 4)))]
  have hq : vs f k / 2 ^ (64 * (k / 4)) < 2 ^ (16 * (k % 4)) := by
    rw [Nat.div_lt_iff_lt_mul (pow_pos64 _), Nat.mul_comm, ← Nat.pow_add, ← e16]; exact hlt
  have hpw : 2 ^ (16 * (k % 4)) ≤ 2 ^ 48 := Nat.pow_le_pow_right (by decide) (by omega)
  have hsh : f k * 2 ^ (16 * (k % 4)) + 2 ^ (16 * (k % 4)) ≤ 65536 * 2 ^ (16 * (k % 4)) := by
    have := Nat.mul_le_mul_right (2 ^ (16 * (k % 4))) (show f k + 1 ≤ 65536 by omega)
    rw [Nat.add_mul] at this; omega
  rw [hs (k / 4) (by omega)]
  unfold upd
  split
  · rename_i h; subst h
    rw [hnext, wd_at]
    have ew : wd (vs f k) (k / 4) = vs f k / 2 ^ (64 * (k / 4)) := by
      unfold wd
      exact Nat.mod_eq_of_lt (Nat.lt_of_lt_of_le hq (Nat.le_trans hpw (by decide)))
    rw [ew, Nat.mod_eq_of_lt (show f k * 2 ^ (16 * (k % 4)) < 18446744073709551616 by omega)]
    rw [Nat.or_comm, ← Nat.shiftLeft_eq, ← Nat.shiftLeft_add_eq_or_of_lt hq, Nat.shiftLeft_eq]
    congr 1; omega
  · rename_i h
    rw [hs j hj]
    rcases Nat.lt_or_gt_of_ne h with h1 | h1
    · rw [hnext, wd_low _ _ j _ h1]
    · have hp : 2 ^ (16 * (k + 1)) ≤ 2 ^ (64 * j) := Nat.pow_le_pow_right (by decide) (by omega)
      have hl2 := vs_lt f (k + 1) (fun j hj => hf j (by omega))
      have hp' : 2 ^ (16 * k) ≤ 2 ^ (16 * (k + 1)) := Nat.pow_le_pow_right (by decide) (by omega)
      unfold wd
      rw [Nat.div_eq_of_lt (by omega), Nat.div_eq_of_lt (by omega)]

/-! ### Which is the greater -/
theorem vs_top {f g : Nat → Nat} : ∀ n i, i ≤ n → (∀ j, i ≤ j → j < n → f j = g j) → vs f n + vs g i = vs g n + vs f i
  | 0, i, h, _ => by
    have : i = 0 := by omega
    subst this; rfl
  | n + 1, i, h, he => by
    by_cases e : i = n + 1
    · subst e; omega
    · have ih := vs_top n i (by omega) (fun j h1 h2 => he j h1 (by omega))
      have hn := he n (by omega) (by omega)
      rw [vs_succ, vs_succ, hn]; omega
theorem cmp_digit (f : Nat → Nat) (i : Nat) (hi : i < 16) (hf : ∀ j, j < 16 → f j < 65536) (he : ∀ j, i + 1 ≤ j → j < 16 → f j = d16 PP j) (hne : f i ≠ d16 PP i) :
    decide (PP ≤ vs f 16) = decide ((d16 PP i : Int) < (f i : Int)) := by
  have h1 := vs_top (f := f) (g := d16 PP) 16 (i + 1) (by omega) he
  rw [vs_dg PP (by decide)] at h1
  have l1 := vs_lt f i (fun j hj => hf j (by omega))
  have l2 := vs_lt (d16 PP) i (fun j _ => d16_lt PP j)
  rw [vs_succ (d16 PP) i, vs_succ f i] at h1
  have hp := pow_pos16 i
  generalize vs f i = a at *
  generalize vs (d16 PP) i = b at *
  generalize d16 PP i = p at *
  generalize f i = q at *
  have hiff : PP ≤ vs f 16 ↔ p < q := by
    rcases Nat.lt_trichotomy p q with h | h | h
    · have : p * 2 ^ (16 * i) + 2 ^ (16 * i) ≤ q * 2 ^ (16 * i) := by
        have := Nat.mul_le_mul_right (2 ^ (16 * i)) (show p + 1 ≤ q from h)
        rw [Nat.add_mul] at this; omega
      constructor
      · intro _; exact h
      · intro _; omega
    · exact absurd h.symm hne
    · have : q * 2 ^ (16 * i) + 2 ^ (16 * i) ≤ p * 2 ^ (16 * i) := by
        have := Nat.mul_le_mul_right (2 ^ (16 * i)) (show q + 1 ≤ p from h)
        rw [Nat.add_mul] at this; omega
      constructor
      · intro _; omega
      · intro h2; omega
  by_cases h : p < q
  · rw [decide_eq_true (hiff.2 h), decide_eq_true (by omega)]
  · rw [decide_eq_false (fun h2 => h (hiff.1 h2)), decide_eq_false (by omega)]
theorem cmp_all (f : Nat → Nat) (he : ∀ j, 0 ≤ j → j < 16 → f j = d16 PP j) : decide (PP ≤ vs f 16) = true := by
  rw [vs_congr 16 (fun j hj => he j (Nat.zero_le _) hj), vs_dg PP (by decide)]
  exact decide_eq_true (Nat.le_refl _)

/-! ### Carries -/
theorem vs_step {s : Nat → Nat} {j v : Nat} : vs (upd s j v) (j + 1) = vs s j + v * 2 ^ (16 * j) := by
  have := vs_upd s j v (j + 1) (by omega)
  have h2 : vs s (j + 1) = vs s j + s j * 2 ^ (16 * j) := rfl
  omega
theorem carry_next {s s2 : Nat → Nat} {j c : Nat} (h : vs s2 j + c * 2 ^ (16 * j) = vs s j) (hs : s2 j = s j) :
    vs (upd s2 j ((c + s2 j) % 65536)) (j + 1) + (c + s2 j) / 65536 * 2 ^ (16 * (j + 1)) = vs s (j + 1) := by
  rw [vs_step, pow_succ16]
  have h2 : vs s (j + 1) = vs s j + s j * 2 ^ (16 * j) := rfl
  rw [h2, ← hs, ← h]
  have e := Nat.div_add_mod (c + s2 j) 65536
  have e2 : (c + s2 j) % 65536 * 2 ^ (16 * j) + (c + s2 j) / 65536 * (2 ^ (16 * j) * 65536) = (c + s2 j) * 2 ^ (16 * j) := by
    conv => rhs; rw [← e]
    rw [Nat.add_mul, Nat.mul_comm 65536, Nat.mul_assoc, Nat.mul_comm 65536]
    omega
  rw [Nat.add_mul] at e2
  omega
theorem carry_fin {s s2 : Nat → Nat} {c : Nat} (hd : ∀ t, t < 16 → s2 t < 65536) (h : vs s2 16 + c * 2 ^ (16 * 16) = vs s 16) : vs s2 16 = vs s 16 % 2 ^ 256 ∧ c = vs s 16 / 2 ^ 256 := by
  have hl := vs_lt s2 16 hd
  have h' : vs s2 16 + c * 2 ^ 256 = vs s 16 := h
  have hl' : vs s2 16 < 2 ^ 256 := hl
  generalize vs s2 16 = a at *
  generalize vs s 16 = b at *
  omega
theorem vs_bound (f : Nat → Nat) (hf : ∀ j, j < 16 → f j < 2 ^ 48) : vs f 16 < 2 ^ 256 * 2 ^ 33 := by
  have key : ∀ n, (∀ j, j < n → f j < 2 ^ 48) → vs f n ≤ 2 ^ 48 * 2 ^ (16 * n) := by
    intro n
    induction n with
    | zero => intro _; simp [vs]
    | succ n ih =>
      intro h
      have h1 := ih (fun j hj => h j (by omega))
      have h2 := h n (by omega)
      rw [vs_succ]
      have h3 : f n * 2 ^ (16 * n) ≤ 2 ^ 48 * 2 ^ (16 * n) := Nat.mul_le_mul_right _ (Nat.le_of_lt h2)
      rw [pow_succ16]; omega
  have h15 := key 15 (fun j hj => hf j (by omega))
  have h16 := hf 15 (by omega)
  have h3 : f 15 * 2 ^ (16 * 15) ≤ (2 ^ 48 - 1) * 2 ^ (16 * 15) := Nat.mul_le_mul_right _ (by omega)
  show vs f 15 + f 15 * 2 ^ (16 * 15) < _
  omega
/-- The bound behind k rounds. -/
def bnd (k : Nat) : Nat := if k = 0 then 2 ^ 256 * 2 ^ 33 else if k = 1 then 2 ^ 256 + 2 ^ 39 else 2 ^ 256
theorem bnd_next (T k : Nat) (h : T < bnd k) : T % 2 ^ 256 + 38 * (T / 2 ^ 256) < bnd (k + 1) := by
  unfold bnd at *
  by_cases h0 : k = 0
  · subst h0; simp at h ⊢; omega
  · by_cases h1 : k = 1
    · subst h1; simp at h ⊢; omega
    · rw [if_neg h0, if_neg h1] at h
      rw [if_neg (by omega), if_neg (by omega)]; omega
theorem round_mod (T : Nat) : (T % 2 ^ 256 + 38 * (T / 2 ^ 256)) % PP = T % PP := by
  have e := Nat.div_add_mod T (2 ^ 256)
  generalize T / 2 ^ 256 = h at *
  generalize T % 2 ^ 256 = l at *
  have e3 : T = l + 38 * h + PP * (2 * h) := by unfold PP; omega
  rw [e3, Nat.add_mul_mod_self_left]
theorem bnd_div (T k : Nat) (hk : k ≤ 2) (h : T < bnd k) : T / 2 ^ 256 < 2 ^ 33 := by
  unfold bnd at h
  have : k = 0 ∨ k = 1 ∨ k = 2 := by omega
  rcases this with rfl | rfl | rfl <;> simp at h <;> omega
theorem bnd_two (T : Nat) (h : T < bnd 2) : T / 2 ^ 256 = 0 := by
  unfold bnd at h
  simp at h
  omega

/-! ### Borrows -/
theorem borrow_next {s s2 g : Nat → Nat} {j c : Nat} (hc : c ≤ 1) (hsl : s j < 65536) (hg : g j < 65536) (h : vs s2 j + vs g j = vs s j + c * 2 ^ (16 * j)) :
    vs (upd s2 j ((s j + 65536 - g j - c) % 65536)) (j + 1) + vs g (j + 1) = vs s (j + 1) + (1 - (s j + 65536 - g j - c) / 65536) * 2 ^ (16 * (j + 1)) := by
  rw [vs_step, pow_succ16]
  have h2 : vs s (j + 1) = vs s j + s j * 2 ^ (16 * j) := rfl
  have h3 : vs g (j + 1) = vs g j + g j * 2 ^ (16 * j) := rfl
  rw [h2, h3]
  have hx : ∃ x d b, (s j + 65536 - g j - c) = x ∧ x % 65536 = d ∧ (1 - x / 65536) = b ∧ d + g j + c = s j + b * 65536 := ⟨_, _, _, rfl, rfl, rfl, by omega⟩
  obtain ⟨x, d, b, rfl, e1, e2, e3⟩ := hx
  rw [e1, e2]
  have e4 : d * 2 ^ (16 * j) + g j * 2 ^ (16 * j) + c * 2 ^ (16 * j) = s j * 2 ^ (16 * j) + b * (2 ^ (16 * j) * 65536) := by
    rw [← Nat.add_mul, ← Nat.add_mul, e3, Nat.add_mul, Nat.mul_assoc, Nat.mul_comm 65536]
  omega
theorem bor_form (a p c : Nat) (ha : a < 65536) (hp : p < 65536) (hc : c ≤ 1) :
    ((((a + 65536) % 18446744073709551616 + 18446744073709551616 - p) % 18446744073709551616) + 18446744073709551616 - c) % 18446744073709551616 = a + 65536 - p - c := by omega
theorem bor_form2 (x : Nat) (hx : x / 65536 ≤ 1) : (1 + 18446744073709551616 - x / 65536) % 18446744073709551616 = 1 - x / 65536 := by omega
theorem keep_ge {s s2 : Nat → Nat} {j v : Nat} (h : ∀ t, j ≤ t → s2 t = s t) : ∀ t, j + 1 ≤ t → upd s2 j v t = s t := upd_ge h
theorem digit_lt {s2 : Nat → Nat} {j v : Nat} (h : ∀ t, t < j → s2 t < 65536) (hv : v < 65536) : ∀ t, t < j + 1 → upd s2 j v t < 65536 := fun t ht => by
  unfold upd
  split
  · exact hv
  · exact h t (by omega)
theorem minus_nat (a b c p : Nat) (ha : a < 2 ^ 256) (hge : p ≤ b) (h : a + p = b + c * 2 ^ 256) (hc : c ≤ 1) : a + p = b := by
  have : c = 0 ∨ c = 1 := by omega
  rcases this with rfl | rfl <;> omega
theorem opp_nat (a b c p : Nat) (ha : a < 2 ^ 256) (hle : b ≤ p) (h : a + b = p + c * 2 ^ 256) (hc : c ≤ 1) : a = p - b := by
  have : c = 0 ∨ c = 1 := by omega
  rcases this with rfl | rfl <;> omega
theorem minus_fin {s s2 : Nat → Nat} {c : Nat} (hd : ∀ t, t < 16 → s2 t < 65536) (hge : PP ≤ vs s 16) (h : vs s2 16 + vs (d16 PP) 16 = vs s 16 + c * 2 ^ (16 * 16)) (hc : c ≤ 1) : vs s2 16 + PP = vs s 16 := by
  rw [vs_dg PP (by decide)] at h
  exact minus_nat _ _ c PP (vs_lt s2 16 hd) hge h hc
theorem opp_fin {s s2 : Nat → Nat} {c : Nat} (hd : ∀ t, t < 16 → s2 t < 65536) (hle : vs s 16 ≤ PP) (h : vs s2 16 + vs s 16 = vs (d16 PP) 16 + c * 2 ^ (16 * 16)) (hc : c ≤ 1) : vs s2 16 = PP - vs s 16 := by
  rw [vs_dg PP (by decide)] at h
  exact opp_nat _ _ c PP (vs_lt s2 16 hd) hle h hc

theorem down_step {f g : Nat → Nat} {i : Nat} (h : ∀ j, i + 1 ≤ j → j < 16 → f j = g j) (he : f i = g i) : ∀ j, i ≤ j → j < 16 → f j = g j := fun j h1 h2 => by
  rcases Nat.lt_or_ge i j with h3 | h3
  · exact h j h3 h2
  · have : j = i := by omega
    subst this; exact he
theorem round_all {s s2 f : Nat → Nat} {c k : Nat} (hk : k ≤ 2) (hmod : vs s 16 % PP = vs f 16 % PP) (hb : vs s 16 < bnd k) (hd : ∀ t, t < 16 → s2 t < 65536) (hv : vs s2 16 + c * 2 ^ (16 * 16) = vs s 16) :
    vs (upd s2 0 (s2 0 + 38 * c)) 16 % PP = vs f 16 % PP ∧ vs (upd s2 0 (s2 0 + 38 * c)) 16 < bnd (k + 1) ∧ (∀ j, j < 16 → upd s2 0 (s2 0 + 38 * c) j < 2 ^ 48) ∧ (k + 1 = 3 → ∀ j, j < 16 → upd s2 0 (s2 0 + 38 * c) j < 65536) := by
  obtain ⟨e1, e2⟩ := carry_fin hd hv
  have e3 : vs (upd s2 0 (s2 0 + 38 * c)) 16 = vs s 16 % 2 ^ 256 + 38 * (vs s 16 / 2 ^ 256) := by
    have := vs_upd s2 0 (s2 0 + 38 * c) 16 (by decide)
    rw [Nat.mul_zero, Nat.pow_zero, Nat.mul_one, Nat.mul_one] at this
    rw [← e1, ← e2]; omega
  have hc := bnd_div _ k hk hb
  rw [← e2] at hc
  refine ⟨by rw [e3, round_mod, hmod], by rw [e3]; exact bnd_next _ k hb, fun j hj => ?_, fun h3 j hj => ?_⟩
  · have h0 := hd 0 (by decide)
    have h1 := hd j hj
    unfold upd
    split <;> omega
  · have hk2 : k = 2 := by omega
    subst hk2
    have := bnd_two _ hb
    rw [← e2] at this
    subst this
    have h0 := hd 0 (by decide)
    have h1 := hd j hj
    unfold upd
    split <;> omega
theorem in_bool (a : Nat) (ha : a < 2 ^ 256) : (!decide (PP ≤ vs (d16 a) 16)) = decide (a < PP) := by
  rw [vs_dg a ha]
  by_cases h : a < PP
  · rw [decide_eq_true h, decide_eq_false (by omega)]; rfl
  · rw [decide_eq_false h, decide_eq_true (by omega)]; rfl
theorem opp_eq (a b : Nat) (hb : b < PP) : (a + (PP - b) % PP) % PP = (a + PP - b) % PP := by
  rw [Nat.add_mod, Nat.mod_mod, ← Nat.add_mod]
  congr 1; omega
/-- The number of the first k words. -/
def vw (f : Nat → Nat) : Nat → Nat
  | 0 => 0
  | k + 1 => vw f k + f k * 2 ^ (64 * k)
theorem vw_succ (f : Nat → Nat) (k : Nat) : vw f (k + 1) = vw f k + f k * 2 ^ (64 * k) := rfl
theorem vw_lt (f : Nat → Nat) : ∀ k, (∀ j, j < k → f j < 18446744073709551616) → vw f k < 2 ^ (64 * k)
  | 0, _ => by simp [vw]
  | k + 1, h => by
    have h1 := vw_lt f k (fun j hj => h j (by omega))
    have h2 := h k (by omega)
    rw [vw_succ, pow_succ64]
    have h3 : f k * 2 ^ (64 * k) ≤ 18446744073709551615 * 2 ^ (64 * k) := Nat.mul_le_mul_right _ (by omega)
    omega
theorem wd_vw (f : Nat → Nat) : ∀ n, (∀ j, j < n → f j < 18446744073709551616) → ∀ j, j < n → wd (vw f n) j = f j
  | 0, _, j, h => by omega
  | n + 1, hf, j, h => by
    have h1 := vw_lt f n (fun j hj => hf j (by omega))
    rw [vw_succ]
    by_cases e : j = n
    · subst e
      rw [wd_at, Nat.div_eq_of_lt h1, Nat.zero_add]
      exact Nat.mod_eq_of_lt (hf j (by omega))
    · rw [wd_low _ _ j n (by omega)]
      exact wd_vw f n (fun j hj => hf j (by omega)) j (by omega)
theorem fe_arr (f : Nat → Nat) (hf : ∀ j, j < 4 → f j < 18446744073709551616) : ∃ x, x < 2 ^ 256 ∧ Value.agg (arr .u64 4 f) = fe x :=
  ⟨vw f 4, vw_lt f 4 hf, by rw [fe]; congr 1; exact arr_congr fun j hj => (wd_vw f 4 hf j hj).symm⟩
theorem PP_pos : 0 < PP := by decide
theorem add_form (a b : Nat) (ha : a < 2 ^ 60) (hb : b < 2 ^ 60) : (a + b) % 18446744073709551616 = a + b := by omega
theorem carried_start (f : Nat → Nat) (hf : ∀ j, j < 16 → f j < 2 ^ 48) : vs f 16 < bnd 0 := vs_bound f hf
theorem vs_add {s f g : Nat → Nat} : ∀ n, (∀ t, t < n → s t = f t + g t) → vs s n = vs f n + vs g n
  | 0, _ => rfl
  | n + 1, h => by
    rw [vs_succ, vs_succ, vs_succ, vs_add n (fun t ht => h t (by omega)), h n (by omega), Nat.add_mul]; omega

end Go.Proofs.Ytmnmhmpklknleaa
