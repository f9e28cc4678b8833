/-
  The one-time sum in plain numbers.
-/
import Derived.Test.YtmnmhmpklknleaaNum8
import Derived.Test.YtmnmhmpklknleaaEnv9
import Derived.Test.YtmnmhmpklknleaaCh2
namespace Go.Proofs.Ytmnmhmpklknleaa
open Go Go.RowKit

/-- A state of the sum: its key's halves, the sum, what is held, how much. -/
abbrev PV (r p a h : Nat → Nat) (n : Int) : Value := .agg (cells 24 [pI .u64 2 r, pI .u64 2 p, pI .u64 3 a, pI .u8 16 h, pV (.int .i64 n)])
theorem leN_app : ∀ (a b : List Nat), leN (a ++ b) = leN a + 256 ^ a.length * leN b
  | [], b => by simp [leN]
  | x :: a, b => by
    have := leN_app a b
    simp only [List.cons_append, leN, List.length_cons]
    rw [this, Nat.pow_succ, Nat.mul_add, ← Nat.mul_assoc, Nat.mul_comm 256 (256 ^ a.length), Nat.add_assoc]
theorem leN_zeros : ∀ k, leN (List.replicate k 0) = 0
  | 0 => rfl
  | k + 1 => by rw [List.replicate_succ]; simp only [leN]; rw [leN_zeros k]
/-- A block with its one, filled up to 24 bytes. -/
def bl (l : List Nat) (m : Nat) : List Nat := l ++ [1] ++ List.replicate m 0
theorem bl_len (l : List Nat) (m : Nat) : (bl l m).length = l.length + 1 + m := by simp [bl]; omega
theorem bl_succ (l : List Nat) (m : Nat) : bl l m ++ [0] = bl l (m + 1) := by
  unfold bl
  rw [List.append_assoc, List.replicate_succ', List.append_assoc]
theorem bl_leN (l : List Nat) (m : Nat) : leN (bl l m) = leN (l ++ [1]) := by
  unfold bl
  rw [leN_app, leN_zeros, Nat.mul_zero, Nat.add_zero]
theorem bl_lt {l : List Nat} (hb : ∀ b ∈ l, b < 256) (m : Nat) : ∀ b ∈ bl l m, b < 256 := by
  intro b h
  unfold bl at h
  rw [List.mem_append, List.mem_append] at h
  rcases h with (h | h) | h
  · exact hb b h
  · have : b = 1 := by simpa using h
    omega
  · have := List.eq_of_mem_replicate h
    omega
/-- The words of a list of bytes, eight each. -/
def w8 (l : List Nat) (j : Nat) : Nat := leN ((l.drop (8 * j)).take 8)
theorem take_lt {l : List Nat} (hb : ∀ b ∈ l, b < 256) (i k : Nat) : ∀ b ∈ (l.drop i).take k, b < 256 := fun b h => hb b (List.mem_of_mem_drop (List.mem_of_mem_take h))
theorem w8_lt {l : List Nat} (hb : ∀ b ∈ l, b < 256) (j : Nat) : w8 l j < 18446744073709551616 := by
  unfold w8
  have h1 := leN_lt _ (take_lt hb (8 * j) 8)
  have h2 : ((l.drop (8 * j)).take 8).length ≤ 8 := by rw [List.length_take]; omega
  have h3 : 256 ^ ((l.drop (8 * j)).take 8).length ≤ 256 ^ 8 := Nat.pow_le_pow_right (by decide) h2
  omega
theorem w8_all {l : List Nat} (h : l.length = 24) : w3 (w8 l) = leN l := by
  have e1 : l = (l.drop 0).take 8 ++ ((l.drop 8).take 8 ++ (l.drop 16).take 8) := by
    rw [List.drop_zero]
    conv => lhs; rw [← List.take_append_drop 8 l, ← List.take_append_drop 8 (l.drop 8)]
    rw [List.drop_drop, List.take_of_length_le (l := l.drop (8 + 8)) (by simp; omega)]
  have l0 : ((l.drop 0).take 8).length = 8 := by simp; omega
  have l1 : ((l.drop 8).take 8).length = 8 := by simp; omega
  conv => rhs; rw [e1, leN_app, leN_app, l0, l1]
  unfold w3 w8
  simp only [Nat.mul_zero, Nat.mul_one, Nat.reduceMul, Nat.reducePow]
  omega
theorem bl_small {l : List Nat} (hb : ∀ b ∈ l, b < 256) (hl : l.length ≤ 16) : leN (l ++ [1]) < 2 * 2 ^ 128 := by
  have h1 := leN_lt l hb
  have h2 : 256 ^ l.length ≤ 256 ^ 16 := Nat.pow_le_pow_right (by decide) hl
  rw [leN_app]
  simp only [leN]
  omega
theorem w8_top {l : List Nat} (hb : ∀ b ∈ l, b < 256) (hl : l.length ≤ 16) {m : Nat} (hm : (bl l m).length = 24) : w8 (bl l m) 2 < 4 := by
  have h1 := w8_all hm
  have h2 := bl_small hb hl
  rw [bl_leN] at h1
  unfold w3 at h1
  generalize leN (l ++ [1]) = B at *
  omega
theorem add_five (x y : Nat) (hx : x < 2 ^ 130) (hy : y < 2 ^ 130) : v26 (fun j => d26 x j + d26 y j) 5 = x + y := by
  have h1 := x_five hx
  have h2 := x_five hy
  rw [v26_five]
  omega
/-- A block is taken in. -/
def pst (R A : Nat) (l : List Nat) : Nat := (A + leN (l ++ [1])) % QQ * R % QQ
theorem QQ_lt : QQ < 2 ^ 130 := by decide
theorem mod_lt30 (x : Nat) : x % QQ < 2 ^ 130 := Nat.lt_trans (Nat.mod_lt _ QQ_pos) QQ_lt
def k3 (r : Nat → Nat) : Nat := r 0 + r 1 * 2 ^ 64
theorem w3_k3 (r : Nat → Nat) : w3 (upd r 2 0) = k3 r := by
  have h0 : upd r 2 0 0 = r 0 := upd_off (by decide)
  have h1 : upd r 2 0 1 = r 1 := upd_off (by decide)
  have h2 : upd r 2 0 2 = 0 := upd_on
  unfold w3 k3
  rw [h0, h1, h2, Nat.zero_mul, Nat.add_zero]
theorem k3_lt {r : Nat → Nat} (h0 : r 0 < 18446744073709551616) (h1 : r 1 < 18446744073709551616) : k3 r < 2 ^ 130 := by unfold k3; omega


/-- A key's bytes, the first half with bits taken off. -/
def msk (f : Nat → Nat) (j : Nat) : Nat := if j < 16 ∧ j % 4 = 3 then (f j &&& 15) % 256 else if 4 ≤ j ∧ j < 16 ∧ j % 4 = 0 then (f j &&& 252) % 256 else f j
def mk1 (f : Nat → Nat) (i j : Nat) : Nat := if j < 4 * i ∧ j % 4 = 3 then (f j &&& 15) % 256 else f j
def mk2 (f : Nat → Nat) (e j : Nat) : Nat := if j < 16 ∧ j % 4 = 3 then (f j &&& 15) % 256 else if 4 ≤ j ∧ j < 4 * (e + 1) ∧ j % 4 = 0 then (f j &&& 252) % 256 else f j
theorem mk1_next {f s : Nat → Nat} {i : Nat} (h : ∀ j, s j = mk1 f i j) : ∀ j, upd s (4 * i + 3) ((s (4 * i + 3) &&& 15) % 256) j = mk1 f (i + 1) j := by
  intro j
  unfold upd
  split
  · rename_i e
    subst e
    rw [h]
    unfold mk1
    rw [if_neg (by omega), if_pos (by omega)]
  · rename_i e
    rw [h]
    unfold mk1
    by_cases h1 : j < 4 * i ∧ j % 4 = 3
    · rw [if_pos h1, if_pos (by omega)]
    · rw [if_neg h1, if_neg (by omega)]
theorem mk1_mk2 {f : Nat → Nat} (j : Nat) : mk1 f 4 j = mk2 f 0 j := by
  unfold mk1 mk2
  by_cases h1 : j < 16 ∧ j % 4 = 3
  · rw [if_pos (by omega), if_pos h1]
  · rw [if_neg (by omega), if_neg h1, if_neg (by omega)]
theorem mk2_next {f s : Nat → Nat} {e : Nat} (he : e < 3) (h : ∀ j, s j = mk2 f e j) : ∀ j, upd s (4 * (e + 1)) ((s (4 * (e + 1)) &&& 252) % 256) j = mk2 f (e + 1) j := by
  intro j
  unfold upd
  split
  · rename_i e1
    subst e1
    rw [h]
    unfold mk2
    rw [if_neg (by omega), if_neg (by omega), if_neg (by omega), if_pos (by omega)]
  · rename_i e1
    rw [h]
    unfold mk2
    by_cases h1 : j < 16 ∧ j % 4 = 3
    · rw [if_pos h1, if_pos h1]
    · rw [if_neg h1, if_neg h1]
      by_cases h2 : 4 ≤ j ∧ j < 4 * (e + 1) ∧ j % 4 = 0
      · rw [if_pos h2, if_pos (by omega)]
      · rw [if_neg h2, if_neg (by omega)]
theorem msk_lt {f : Nat → Nat} (hf : ∀ j, j < 32 → f j < 256) {j : Nat} (hj : j < 32) : msk f j < 256 := by
  unfold msk
  split
  · exact Nat.mod_lt _ (by decide)
  · split
    · exact Nat.mod_lt _ (by decide)
    · exact hf j hj
def bL (f : Nat → Nat) : List Nat := (List.range 32).map (msk f)
theorem bL_len (f : Nat → Nat) : (bL f).length = 32 := by simp [bL]
theorem bL_lt {f : Nat → Nat} (hf : ∀ j, j < 32 → f j < 256) : ∀ b ∈ bL f, b < 256 := by
  intro b hb
  simp only [bL, List.mem_map, List.mem_range] at hb
  obtain ⟨j, hj, rfl⟩ := hb
  exact msk_lt hf hj
theorem bL_of {f s : Nat → Nat} (h : ∀ j, s j = mk2 f 3 j) : (List.range 32).map s = bL f := List.map_congr_left fun j _ => h j

end Go.Proofs.Ytmnmhmpklknleaa
