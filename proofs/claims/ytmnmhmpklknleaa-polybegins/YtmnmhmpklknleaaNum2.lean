/-
  Plain arithmetic of the field's parts: no program in sight.
-/
import Derived.Test.YtmnmhmpklknleaaNum
namespace Go.Proofs.Ytmnmhmpklknleaa

/-- The prime 2^255 - 19. -/
abbrev PP : Nat := 57896044618658097711785492504343953926634992332820282019728792003956564819949

theorem wd_mod256 (x j : Nat) (hj : j < 4) : wd (x % 2 ^ 256) j = wd x j := by
  have e : x = x % 2 ^ 256 + x / 2 ^ 256 * 2 ^ (64 * 4) := by
    have := Nat.div_add_mod x (2 ^ 256)
    rw [Nat.mul_comm] at this
    show x = x % 2 ^ 256 + x / 2 ^ 256 * 2 ^ 256
    omega
  conv => rhs; rw [e]
  rw [wd_low _ _ j 4 hj]

theorem wd_mul01 (a n k : Nat) (hn : n ≤ 1) : (wd a k &&& ((18446744073709551616 - n) % 18446744073709551616)) % 18446744073709551616 = wd (a * n) k := by
  have : n = 0 ∨ n = 1 := by omega
  have h := wd_lt a k
  rcases this with rfl | rfl
  · simp [wd]
  · have e : (18446744073709551616 - 1) % 18446744073709551616 = 2 ^ 64 - 1 := by decide
    rw [e, Nat.and_two_pow_sub_one_eq_mod, Nat.mul_one]
    omega

theorem upd_ge {f g : Nat → Nat} {k v : Nat} (h : ∀ j, k ≤ j → f j = g j) : ∀ j, k + 1 ≤ j → upd f k v j = g j := fun j hj => by
  unfold upd
  split
  · omega
  · exact h j (by omega)

theorem lt_bool (a b : Nat) : Value.bool (decide (((if a < b then 1 else 0 : Nat) : Int) = 1)) = .bool (decide (a < b)) := by
  by_cases h : a < b <;> simp [h]

theorem wd_top (a : Nat) (ha : a < 2 ^ 256) : wd a 3 = a / 2 ^ 192 := by
  unfold wd
  have : a / 2 ^ (64 * 3) < 18446744073709551616 := by
    rw [Nat.div_lt_iff_lt_mul (pow_pos64 3)]; exact ha
  rw [Nat.mod_eq_of_lt this]

theorem fold_or (a ov : Nat) (ha : a < 2 ^ 256) (ho : ov < 2 ^ 50) : (ov * 2 ^ 1 % 18446744073709551616 ||| wd a 3 / 2 ^ 63) % 18446744073709551616 = 2 * ov + a / 2 ^ 255 := by
  have e1 : ov * 2 ^ 1 % 18446744073709551616 = ov <<< 1 := by rw [Nat.shiftLeft_eq]; omega
  have e2 : wd a 3 / 2 ^ 63 = a / 2 ^ 255 := by
    rw [wd_top a ha, Nat.div_div_eq_div_mul, ← Nat.pow_add]
  have h2 : a / 2 ^ 255 < 2 ^ 1 := by
    rw [Nat.div_lt_iff_lt_mul (Nat.pow_pos (by decide))]; exact ha
  rw [e1, e2, ← Nat.shiftLeft_add_eq_or_of_lt h2, Nat.shiftLeft_eq]
  generalize a / 2 ^ 255 = t at *
  omega

theorem wd_low63 (a : Nat) (ha : a < 2 ^ 256) : ∀ j, j < 4 → upd (wd a) 3 ((wd a 3 &&& 9223372036854775807) % 18446744073709551616) j = wd (a % 2 ^ 255) j := by
  intro j hj
  have e : a = a % 2 ^ 255 + a / 2 ^ 255 * 2 ^ 255 := by
    have := Nat.div_add_mod a (2 ^ 255)
    rw [Nat.mul_comm] at this; omega
  unfold upd
  split
  · rename_i h; subst h
    rw [show (9223372036854775807 : Nat) = 2 ^ 63 - 1 by decide, Nat.and_two_pow_sub_one_eq_mod, wd_top a ha]
    rw [wd_top (a % 2 ^ 255) (Nat.lt_trans (Nat.mod_lt _ (Nat.pow_pos (by decide))) (by decide))]
    have h1 : a / 2 ^ 192 % 2 ^ 63 = a % 2 ^ 255 / 2 ^ 192 := by
      rw [show (2 : Nat) ^ 255 = 2 ^ 192 * 2 ^ 63 by rw [← Nat.pow_add], Nat.mod_mul_right_div_self]
    rw [h1]
    have : a % 2 ^ 255 / 2 ^ 192 < 2 ^ 63 := by
      rw [Nat.div_lt_iff_lt_mul (Nat.pow_pos (by decide)), ← Nat.pow_add]
      exact Nat.mod_lt _ (Nat.pow_pos (by decide))
    rw [Nat.mod_eq_of_lt (Nat.lt_trans this (by decide))]
  · rename_i h
    have e3 : (a / 2 ^ 255) * 2 ^ 255 = (a / 2 ^ 255 * 2 ^ 63) * 2 ^ (64 * 3) := by
      rw [Nat.mul_assoc, ← Nat.pow_add]
    conv => lhs; rw [e, e3]
    rw [wd_low _ _ j 3 (by omega)]

theorem fe_one (x : Nat) (hx : x < 18446744073709551616) : Value.agg (arr .u64 4 (upd (fun _ => 0) 0 x)) = fe x := by
  rw [fe]
  congr 1
  refine arr_congr fun j hj => ?_
  unfold upd wd
  split
  · rename_i h; subst h; simp; omega
  · rename_i h
    have : x / 2 ^ (64 * j) = 0 := by
      apply Nat.div_eq_of_lt
      have : 2 ^ 64 ≤ 2 ^ (64 * j) := Nat.pow_le_pow_right (by decide) (by omega)
      omega
    rw [this]

/-- What is folded, with the prime taken off once if it can be. -/
theorem fold_fin (a ov Y : Nat) (ha : a < 2 ^ 256) (ho : ov < 2 ^ 50) (hY : Y = a % 2 ^ 255 + (2 * ov + a / 2 ^ 255) * 19) :
    ((Y + 2 ^ 256 - PP) % 2 ^ 256 + PP * (if Y < PP then 1 else 0)) % 2 ^ 256 = (a + ov * 2 ^ 256) % PP := by
  have e : a + ov * 2 ^ 256 = Y + PP * (2 * ov + a / 2 ^ 255) := by
    have := Nat.div_add_mod a (2 ^ 255)
    unfold PP
    omega
  rw [e, Nat.add_mul_mod_self_left]
  have h2 : Y < 2 * PP := by unfold PP; omega
  clear e hY
  unfold PP at *
  split
  · rename_i h
    rw [Nat.mod_eq_of_lt h]; omega
  · omega

theorem PP_eq : PP = 57896044618658097711785492504343953926634992332820282019728792003956564819949 := rfl

/-! ### Bytes -/
def bt (x j : Nat) : Nat := x / 2 ^ (8 * j) % 256
abbrev by32 (x : Nat) : Value := .agg (arr .u8 32 (bt x))
/-- The number of the first k bytes. -/
def vb (f : Nat → Nat) : Nat → Nat
  | 0 => 0
  | k + 1 => vb f k + f k * 2 ^ (8 * k)

theorem vb_lt (f : Nat → Nat) : ∀ k, (∀ j, j < k → f j < 256) → vb f k < 2 ^ (8 * k)
  | 0, _ => by simp [vb]
  | k + 1, h => by
    have h1 := vb_lt f k (fun j hj => h j (by omega))
    have h2 := h k (by omega)
    unfold vb
    have e : 2 ^ (8 * (k + 1)) = 2 ^ (8 * k) * 256 := by rw [show 8 * (k + 1) = 8 * k + 8 by omega, Nat.pow_add]
    have h3 : f k * 2 ^ (8 * k) ≤ 255 * 2 ^ (8 * k) := Nat.mul_le_mul_right _ (by omega)
    rw [e]; omega

theorem vb_bt (x : Nat) : ∀ k, vb (bt x) k = x % 2 ^ (8 * k)
  | 0 => by simp [vb, Nat.mod_one]
  | k + 1 => by
    unfold vb
    rw [vb_bt x k, show 8 * (k + 1) = 8 * k + 8 by omega, Nat.pow_add, Nat.mod_mul, Nat.mul_comm (2 ^ (8 * k))]
    rfl

theorem vb_congr {f g : Nat → Nat} : ∀ k, (∀ j, j < k → f j = g j) → vb f k = vb g k
  | 0, _ => rfl
  | k + 1, h => by unfold vb; rw [vb_congr k (fun j hj => h j (by omega)), h k (by omega)]

/-- One byte more, laid into its word. -/
theorem from_word (f : Nat → Nat) (k : Nat) (hk : k < 32) (hf : ∀ j, j < 32 → f j < 256) :
    ∀ j, j < 4 → upd (wd (vb f k)) (k / 8) ((wd (vb f k) (k / 8) ||| (f k % 18446744073709551616 * 2 ^ (k % 8 * 8)) % 18446744073709551616) % 18446744073709551616) j = wd (vb f (k + 1)) j := by
  intro j hj
  have hlt := vb_lt f k (fun j hj => hf j (by omega))
  have hfk := hf k hk
  have hdm := Nat.div_add_mod k 8
  have e8 : 8 * k = 64 * (k / 8) + k % 8 * 8 := by omega
  have hm : k % 8 < 8 := Nat.mod_lt _ (by decide)
  have hnext : vb f (k + 1) = vb f k + (f k * 2 ^ (k % 8 * 8)) * 2 ^ (64 * (k / 8)) := by
    show vb f k + f k * 2 ^ (8 * k) = _
    rw [e8, Nat.pow_add, Nat.mul_assoc, Nat.mul_comm (2 ^ (64 * (k / 8)))]
  -- the word has room
  have hq : vb f k / 2 ^ (64 * (k / 8)) < 2 ^ (k % 8 * 8) := by
    rw [Nat.div_lt_iff_lt_mul (pow_pos64 _), Nat.mul_comm, ← Nat.pow_add, ← e8]; exact hlt
  have hpw : 2 ^ (k % 8 * 8) ≤ 2 ^ 56 := Nat.pow_le_pow_right (by decide) (by omega)
  have hsh : f k * 2 ^ (k % 8 * 8) + 2 ^ (k % 8 * 8) ≤ 256 * 2 ^ (k % 8 * 8) := by
    have := Nat.mul_le_mul_right (2 ^ (k % 8 * 8)) (show f k + 1 ≤ 256 by omega)
    rw [Nat.add_mul] at this; omega
  unfold upd
  split
  · rename_i h; subst h
    rw [hnext, wd_at]
    have ew : wd (vb f k) (k / 8) = vb f k / 2 ^ (64 * (k / 8)) := by
      unfold wd
      exact Nat.mod_eq_of_lt (Nat.lt_of_lt_of_le hq (Nat.le_trans hpw (by decide)))
    rw [ew, Nat.mod_eq_of_lt (show f k < 18446744073709551616 by omega), Nat.mod_eq_of_lt (show f k * 2 ^ (k % 8 * 8) < 18446744073709551616 by omega)]
    rw [Nat.or_comm, ← Nat.shiftLeft_eq, ← Nat.shiftLeft_add_eq_or_of_lt hq, Nat.shiftLeft_eq]
    congr 1; omega
  · rename_i h
    rcases Nat.lt_or_gt_of_ne h with h1 | h1
    · rw [hnext, wd_low _ _ j _ h1]
    · have hp : 2 ^ (8 * (k + 1)) ≤ 2 ^ (64 * j) := Nat.pow_le_pow_right (by decide) (by omega)
      have hl2 := vb_lt f (k + 1) (fun j hj => hf j (by omega))
      have hp' : 2 ^ (8 * k) ≤ 2 ^ (8 * (k + 1)) := Nat.pow_le_pow_right (by decide) (by omega)
      unfold wd
      rw [Nat.div_eq_of_lt (by omega), Nat.div_eq_of_lt (by omega)]

theorem from_step (f : Nat → Nat) (k : Nat) (s : Nat → Nat) (hk : k < 32) (hf : ∀ j, j < 32 → f j < 256) (hs : ∀ j, j < 4 → s j = wd (vb f k) j) :
    ∀ j, j < 4 → upd s (k / 8) ((s (k / 8) ||| (f k % 18446744073709551616 * 2 ^ (k % 8 * 8)) % 18446744073709551616) % 18446744073709551616) j = wd (vb f (k + 1)) j := by
  intro j hj
  rw [← from_word f k hk hf j hj, hs (k / 8) (by omega)]
  unfold upd
  split
  · rfl
  · exact hs j hj

theorem from_top (f : Nat → Nat) (s : Nat → Nat) (hf : ∀ j, j < 32 → f j < 256) (hs : ∀ j, j < 4 → s j = wd (vb f 32) j) :
    Value.agg (arr .u64 4 (upd s 3 ((s 3 &&& 9223372036854775807) % 18446744073709551616))) = fe (vb f 32 % 2 ^ 255) := by
  have hlt : vb f 32 < 2 ^ 256 := vb_lt f 32 hf
  rw [fe]
  congr 1
  refine arr_congr fun j hj => ?_
  rw [← wd_low63 (vb f 32) hlt j hj, hs 3 (by omega)]
  unfold upd
  split
  · rfl
  · exact hs j hj

theorem bt_lt (x j : Nat) : bt x j < 256 := Nat.mod_lt _ (by decide)
theorem vb_back (y : Nat) (hy : y < PP) : vb (bt y) 32 % 2 ^ 255 % PP = y := by
  unfold PP at *
  rw [vb_bt, Nat.mod_eq_of_lt (show y < 2 ^ (8 * 32) by omega)]
  omega
theorem bt_top (y : Nat) (hy : y < PP) : bt y 31 < 128 := by
  unfold bt PP at *
  have : y / 2 ^ (8 * 31) < 128 := by
    rw [Nat.div_lt_iff_lt_mul (Nat.pow_pos (by decide))]; omega
  omega
theorem bt_word (a k : Nat) : (wd a (k / 8) / 2 ^ (k % 8 * 8)) % 256 = bt a k := by
  unfold wd bt
  have hm : k % 8 < 8 := Nat.mod_lt _ (by decide)
  have e8 : 8 * k = 64 * (k / 8) + k % 8 * 8 := by omega
  have e64 : (18446744073709551616 : Nat) = 2 ^ (k % 8 * 8) * (256 * 2 ^ (56 - k % 8 * 8)) := by
    rw [show (256 : Nat) = 2 ^ 8 by decide, ← Nat.pow_add, ← Nat.pow_add, show k % 8 * 8 + (8 + (56 - k % 8 * 8)) = 64 by omega]
  rw [e64, Nat.mod_mul_right_div_self, Nat.mod_mul_right_mod, Nat.div_div_eq_div_mul, ← Nat.pow_add, ← e8]

theorem by_congr {f : Nat → Nat} {x : Nat} (h : ∀ j, j < 32 → f j = bt x j) : Value.agg (arr .u8 32 f) = by32 x := by rw [by32, arr_congr h]

end Go.Proofs.Ytmnmhmpklknleaa
