/-
  Points and pairs of points as arrays of words; the exchange of both. Plain arithmetic.
-/
import Derived.Test.YthhcgeoldjmpaaaEnv3
import Derived.Test.YthhcgeoldjmpaaaLad
namespace Go.Proofs.Ythhcgeoldjmpaaa
open Go Go.RowKit

def ptf (p : Nat × Nat) : Nat → Nat := fun t => if t < 4 then wd p.1 t else wd p.2 (t - 4)
def rgf (L : (Nat × Nat) × (Nat × Nat)) : Nat → Nat := fun t => if t < 8 then ptf L.1 t else ptf L.2 (t - 8)
abbrev ptv (p : Nat × Nat) : Value := .agg (arr .u64 8 (ptf p))
abbrev rgv (L : (Nat × Nat) × (Nat × Nat)) : Value := .agg (arr .u64 16 (rgf L))
theorem ptf_lt (p : Nat × Nat) (t : Nat) : ptf p t < 18446744073709551616 := by
  unfold ptf; split <;> exact wd_lt _ _
theorem rgf_lt (L : (Nat × Nat) × (Nat × Nat)) (t : Nat) : rgf L t < 18446744073709551616 := by
  unfold rgf; split <;> exact ptf_lt _ _
theorem pt_0 (p : Nat × Nat) : Value.agg (arr .u64 4 (fun t => ptf p (0 + t))) = fe p.1 := by
  exact congrArg Value.agg (arr_congr fun j hj => by unfold ptf; rw [Nat.zero_add, if_pos hj])
theorem pt_4 (p : Nat × Nat) : Value.agg (arr .u64 4 (fun t => ptf p (4 + t))) = fe p.2 := by
  exact congrArg Value.agg (arr_congr fun j hj => by unfold ptf; rw [if_neg (by omega), Nat.add_sub_cancel_left])
theorem rg_pt0 (L : (Nat × Nat) × (Nat × Nat)) : Value.agg (arr .u64 8 (fun t => rgf L (0 + t))) = ptv L.1 := by
  exact congrArg Value.agg (arr_congr fun j hj => by unfold rgf; rw [Nat.zero_add, if_pos hj])
theorem rg_0 (L : (Nat × Nat) × (Nat × Nat)) : Value.agg (arr .u64 4 (fun t => rgf L (0 + t))) = fe L.1.1 := by
  rw [← pt_0]; exact congrArg Value.agg (arr_congr fun j hj => by unfold rgf; rw [if_pos (by omega)])
theorem rg_4 (L : (Nat × Nat) × (Nat × Nat)) : Value.agg (arr .u64 4 (fun t => rgf L (4 + t))) = fe L.1.2 := by
  rw [← pt_4]; exact congrArg Value.agg (arr_congr fun j hj => by unfold rgf; rw [if_pos (by omega)])
theorem rg_8 (L : (Nat × Nat) × (Nat × Nat)) : Value.agg (arr .u64 4 (fun t => rgf L (8 + t))) = fe L.2.1 := by
  rw [← pt_0]; exact congrArg Value.agg (arr_congr fun j hj => by unfold rgf; rw [if_neg (by omega), Nat.add_sub_cancel_left, Nat.zero_add])
theorem rg_12 (L : (Nat × Nat) × (Nat × Nat)) : Value.agg (arr .u64 4 (fun t => rgf L (12 + t))) = fe L.2.2 := by
  rw [← pt_4]; exact congrArg Value.agg (arr_congr fun j hj => by unfold rgf; rw [if_neg (by omega), show 12 + j - 8 = 4 + j by omega])
theorem fill_pt (x z : Nat) : Instr.fill (fun i => some (i * 4, 4)) (arr .u64 8 fun _ => 0) [(0, fe x), (1, fe z)] = some (arr .u64 8 (ptf (x, z))) := by kernel_rfl
theorem fill_rg (p q : Nat × Nat) : Instr.fill (fun i => some (i * 8, 8)) (arr .u64 16 fun _ => 0) [(0, ptv p), (1, ptv q)] = some (arr .u64 16 (rgf (p, q))) := by kernel_rfl

/-! ### The exchange -/
def swt (n : Nat) (f : Nat → Nat) (c : Nat) : Nat → Nat := fun t => if t % 8 < c ∧ n = 1 then f ((t + 8) % 16) else f t
theorem swt_none (n : Nat) (f : Nat → Nat) (t : Nat) : swt n f 0 t = f t := by
  unfold swt; rw [if_neg (by omega)]
theorem swap_word {n a b : Nat} (hn : n ≤ 1) (ha : a < 18446744073709551616) (hb : b < 18446744073709551616) :
    (a ^^^ ((a ^^^ b) % 18446744073709551616 &&& (18446744073709551616 - n) % 18446744073709551616) % 18446744073709551616) % 18446744073709551616 = (if n = 1 then b else a) := by
  have hx : a ^^^ b < 2 ^ 64 := Nat.xor_lt_two_pow (by omega) (by omega)
  rw [Nat.mod_eq_of_lt (show a ^^^ b < 18446744073709551616 by omega)]
  have : n = 0 ∨ n = 1 := by omega
  rcases this with rfl | rfl
  · simp; omega
  · rw [if_pos rfl, show (18446744073709551616 - 1) % 18446744073709551616 = 2 ^ 64 - 1 by decide, Nat.and_two_pow_sub_one_eq_mod, Nat.mod_eq_of_lt hx, Nat.mod_eq_of_lt (show a ^^^ b < 18446744073709551616 by omega),
      ← Nat.xor_assoc, Nat.xor_self, Nat.zero_xor, Nat.mod_eq_of_lt hb]
theorem swap_step {n c : Nat} {f s : Nat → Nat} (hn : n ≤ 1) (hf : ∀ t, f t < 18446744073709551616) (hc : c < 8) (hs : ∀ t, t < 16 → s t = swt n f c t) (w v1 v2 : Nat)
    (hw : w = ((s c ^^^ s (8 + c)) % 18446744073709551616 &&& (18446744073709551616 - n) % 18446744073709551616) % 18446744073709551616)
    (h1 : v1 = (s c ^^^ w) % 18446744073709551616) (h2 : v2 = (upd s c v1 (8 + c) ^^^ w) % 18446744073709551616) : ∀ t, t < 16 → upd (upd s c v1) (8 + c) v2 t = swt n f (c + 1) t := by
  have e3 : upd s c v1 (8 + c) = s (8 + c) := by unfold upd; rw [if_neg (by omega)]
  rw [e3] at h2
  have e1 : s c = f c := by rw [hs c (by omega)]; unfold swt; rw [if_neg (by omega)]
  have e2 : s (8 + c) = f (8 + c) := by rw [hs (8 + c) (by omega)]; unfold swt; rw [if_neg (by omega)]
  have w1 := swap_word hn (hf c) (hf (8 + c))
  have w2 := swap_word hn (hf (8 + c)) (hf c)
  rw [e1, e2] at hw
  rw [← hw] at w1
  rw [Nat.xor_comm (f (8 + c)) (f c), ← hw] at w2
  rw [e1, w1] at h1
  rw [e2, w2] at h2
  intro t ht
  unfold upd
  by_cases ha : t = 8 + c
  · subst ha
    rw [if_pos rfl, h2]
    unfold swt
    by_cases hn1 : n = 1
    · rw [if_pos hn1, if_pos ⟨by omega, hn1⟩, show (8 + c + 8) % 16 = c by omega]
    · rw [if_neg hn1, if_neg (fun h => hn1 h.2)]
  · rw [if_neg ha]
    by_cases hb : t = c
    · subst hb
      rw [if_pos rfl, h1]
      unfold swt
      by_cases hn1 : n = 1
      · rw [if_pos hn1, if_pos ⟨by omega, hn1⟩, show (t + 8) % 16 = 8 + t by omega]
      · rw [if_neg hn1, if_neg (fun h => hn1 h.2)]
    · rw [if_neg hb, hs t ht]
      unfold swt
      by_cases hn1 : t % 8 < c ∧ n = 1
      · rw [if_pos hn1, if_pos ⟨by omega, hn1.2⟩]
      · rw [if_neg hn1, if_neg (fun h => hn1 ⟨by omega, h.2⟩)]
theorem swap_end {n : Nat} {L : (Nat × Nat) × (Nat × Nat)} {s : Nat → Nat} (hs : ∀ t, t < 16 → s t = swt n (rgf L) 8 t) : arr .u64 16 s = arr .u64 16 (rgf (swp n L)) := arr_congr fun t ht => by
  rw [hs t ht]
  unfold swt swp
  by_cases hn : n = 1
  · rw [if_pos ⟨by omega, hn⟩, if_pos hn]
    unfold rgf
    by_cases h8 : t < 8
    · rw [if_neg (by omega), if_pos h8, show (t + 8) % 16 - 8 = t by omega]
    · rw [if_pos (by omega), if_neg h8, show (t + 8) % 16 = t - 8 by omega]
  · rw [if_neg (fun h => hn h.2), if_neg hn]

theorem fe_none : Value.agg (arr .u64 4 (fun _ => 0)) = fe 0 := congrArg Value.agg (arr_congr fun j _ => by unfold wd; simp)
theorem nine_lt : ∀ j, j < 32 → upd (fun _ => 0) 0 9 j < 256 := by decide
theorem none_lt : ∀ j : Nat, j < 32 → (fun _ => 0 : Nat → Nat) j < 256 := by decide
/-! ### Bytes -/
theorem and248 : ∀ a, a < 256 → (a &&& 248) % 256 = a - a % 8 := by decide +kernel
theorem low127 : ∀ a, a < 256 → ((a &&& 127) % 256 ||| 64) % 256 = a % 64 + 64 := by decide +kernel
theorem clam_eq {f : Nat → Nat} (hf : ∀ j, j < 32 → f j < 256) {v0 v1 v2 : Nat} (h0 : v0 = (f 0 &&& 248) % 256) (h1 : v1 = (f 31 &&& 127) % 256) (h2 : v2 = (v1 ||| 64) % 256) :
    arr .u8 32 (upd (upd (upd f 0 v0) 31 v1) 31 v2) = arr .u8 32 (clam f) := arr_congr fun j hj => by
  subst h0 h1 h2
  unfold clam upd
  by_cases h31 : j = 31
  · subst h31; simp only [if_pos]; exact low127 _ (hf 31 (by decide))
  · simp only [if_neg h31]
    split
    · exact and248 _ (hf 0 (by decide))
    · rfl
theorem or_zero8 (a b : Nat) (ha : a < 256) (hb : b < 256) : (a ||| b) % 256 = 0 ↔ a = 0 ∧ b = 0 := by
  have h : a ||| b < 2 ^ 8 := Nat.or_lt_two_pow (by omega) (by omega)
  rw [Nat.mod_eq_of_lt (show a ||| b < 256 by omega)]
  constructor
  · intro h0
    have l1 := Nat.left_le_or (n := a) (m := b)
    have l2 := Nat.right_le_or (n := a) (m := b)
    omega
  · rintro ⟨rfl, rfl⟩; rfl
theorem tells_end {f : Nat → Nat} {s : Nat} (h : s = 0 ↔ ∀ j, j < 32 → f j = 0) : decide (((s : Nat) : Int) ≠ 0) = !allEq 32 f (fun _ => 0) := by
  cases hb : allEq 32 f (fun _ => 0) with
  | true =>
    have := h.2 (allEq_iff.1 hb)
    subst this; rfl
  | false =>
    have hne : ¬ s = 0 := fun h0 => by
      have := allEq_iff.2 (h.1 h0)
      rw [hb] at this; cases this
    simp; omega
theorem tells_step {f : Nat → Nat} {s k : Nat} (hs : s < 256) (hk : f k < 256) (h : s = 0 ↔ ∀ j, j < k → f j = 0) : (s ||| f k) % 256 = 0 ↔ ∀ j, j < k + 1 → f j = 0 := by
  rw [or_zero8 _ _ hs hk, h]
  constructor
  · rintro ⟨h1, h2⟩ j hj
    by_cases e : j = k
    · subst e; exact h2
    · exact h1 j (by omega)
  · intro h1; exact ⟨fun j hj => h1 j (by omega), h1 k (by omega)⟩
theorem hi_and : ∀ a, a < 64 → ((a + 64) &&& 192) % 256 = 64 := by decide +kernel
theorem clam_hi (f : Nat → Nat) : (clam f 31 &&& 192) % 256 = 64 := by
  have : clam f 31 = f 31 % 64 + 64 := by unfold clam upd; simp
  rw [this]; exact hi_and _ (Nat.mod_lt _ (by decide))
theorem clam_lo (f : Nat → Nat) : clam f 0 % 8 = 0 := by unfold clam upd; simp; omega
theorem flip_and : ∀ a, a < 256 → (a ^^^ 128) % 256 % 128 = a % 128 := by decide +kernel
theorem flip_lt {g : Nat → Nat} (hg : ∀ j, j < 32 → g j < 256) : ∀ j, j < 32 → upd g 31 ((g 31 ^^^ 128) % 256) j < 256 := fun j hj => by
  unfold upd; split
  · exact Nat.mod_lt _ (by decide)
  · exact hg j hj
theorem pnt_flip {g : Nat → Nat} (hg : ∀ j, j < 32 → g j < 256) : pnt (upd g 31 ((g 31 ^^^ 128) % 256)) = pnt g := by
  refine pnt_top _ _ (fun j hj => by unfold upd; rw [if_neg (by omega)]) ?_
  unfold upd; rw [if_pos rfl]; exact flip_and _ (hg 31 (by decide))

end Go.Proofs.Ythhcgeoldjmpaaa
