/-
  A block and a stream of ChaCha20 in plain numbers. Plain arithmetic.
-/
import Derived.Test.YtmnmhmpklknleaaCh
namespace Go.Proofs.Ytmnmhmpklknleaa
open Go Go.RowKit

abbrev C16 : List Nat := [101, 120, 112, 97, 110, 100, 32, 51, 50, 45, 98, 121, 116, 101, 32, 107]
def allb (k : Nat → Nat) (c : Nat) (nn : Nat → Nat) : List Nat := C16 ++ (List.range 32).map k ++ lowl c 4 ++ (List.range 12).map nn
theorem allb_len (k : Nat → Nat) (c : Nat) (nn : Nat → Nat) : (allb k c nn).length = 64 := by simp [allb, lowl_len]
theorem range_lt {n : Nat} {f : Nat → Nat} (hf : ∀ j, j < n → f j < 256) : ∀ b ∈ (List.range n).map f, b < 256 := fun b hb => by
  obtain ⟨i, hi, rfl⟩ := List.mem_map.1 hb
  exact hf i (by simpa using hi)
theorem allb_lt {k : Nat → Nat} {c : Nat} {nn : Nat → Nat} (hk : ∀ j, j < 32 → k j < 256) (hn : ∀ j, j < 12 → nn j < 256) : ∀ b ∈ allb k c nn, b < 256 := fun b hb => by
  unfold allb at hb
  rcases List.mem_append.1 hb with hb | hb
  · rcases List.mem_append.1 hb with hb | hb
    · rcases List.mem_append.1 hb with hb | hb
      · simp at hb; omega
      · exact range_lt hk b hb
    · exact lowl_lt c 4 b hb
  · exact range_lt hn b hb
def wrd (l : List Nat) (t : Nat) : Nat := leN ((l.drop (4 * t)).take 4)
theorem wrd_lt {l : List Nat} (hb : ∀ b ∈ l, b < 256) (t : Nat) : wrd l t < 4294967296 := by
  have h1 := leN_lt ((l.drop (4 * t)).take 4) (fun b h => hb b (List.mem_of_mem_drop (List.mem_of_mem_take h)))
  have h2 : ((l.drop (4 * t)).take 4).length ≤ 4 := by simp; omega
  have h3 : 256 ^ ((l.drop (4 * t)).take 4).length ≤ 256 ^ 4 := Nat.pow_le_pow_right (by decide) h2
  have h4 : 256 ^ 4 = 4294967296 := by decide
  unfold wrd
  omega
theorem cut4_len (l : List Nat) (t : Nat) : ((l.drop (4 * t)).take 4).length ≤ 8 := by simp; omega
theorem cut4_lt {l : List Nat} (hb : ∀ b ∈ l, b < 256) (t : Nat) : ∀ b ∈ (l.drop (4 * t)).take 4, b < 256 := fun b h => hb b (List.mem_of_mem_drop (List.mem_of_mem_take h))
def outl (v w : Nat → Nat) : Nat → List Nat
  | 0 => []
  | i + 1 => outl v w i ++ lowl ((v i + w i) % 4294967296) 4
theorem outl_len (v w : Nat → Nat) : ∀ i, (outl v w i).length = 4 * i
  | 0 => rfl
  | i + 1 => by rw [outl, List.length_append, outl_len v w i, lowl_len]; omega
theorem outl_lt (v w : Nat → Nat) : ∀ i, ∀ b ∈ outl v w i, b < 256
  | 0, b, h => by simp [outl] at h
  | i + 1, b, h => by
    rcases List.mem_append.1 h with h | h
    · exact outl_lt v w i b h
    · exact lowl_lt _ _ b h
def blkl (k : Nat → Nat) (c : Nat) (nn : Nat → Nat) : List Nat := outl (dbls (wrd (allb k c nn)) 10) (wrd (allb k c nn)) 16
def blkf (k : Nat → Nat) (c : Nat) (nn : Nat → Nat) (j : Nat) : Nat := (blkl k c nn).getD j 0
theorem blkl_len (k : Nat → Nat) (c : Nat) (nn : Nat → Nat) : (blkl k c nn).length = 64 := outl_len _ _ 16
theorem blkf_lt (k : Nat → Nat) (c : Nat) (nn : Nat → Nat) (j : Nat) : blkf k c nn j < 256 := by
  unfold blkf
  rw [List.getD_eq_getElem?_getD]
  cases h : (blkl k c nn)[j]? with
  | none => simp
  | some b => exact outl_lt _ _ 16 b (List.mem_of_getElem? h)
theorem copy_end (l : List Nat) (hl : l.length = 64) : arr .u8 64 (fun j => if 0 + 0 * 1 ≤ j ∧ j < 0 + 0 * 1 + min l.length (64 - 0) then l.getD (j - (0 + 0 * 1)) 0 else 0) = arr .u8 64 (fun j => l.getD j 0) := arr_congr fun j hj => by
  rw [if_pos (by omega)]; rfl
theorem conv_all (f : Nat → Nat) (n : Nat) : Value.string (strOfNums ((List.range n).map fun j => (f (0 + j) : Int))) = sv ((List.range n).map f) := by
  have e : ((List.range n).map fun j => (f (0 + j) : Int)) = ((List.range n).map f).map fun m : Nat => (m : Int) := by
    rw [List.map_map]
    exact List.map_congr_left fun j _ => by simp
  rw [e, str_nums]

/-! ### Streams -/
def strv (k : Nat → Nat) (c : Nat) (nn : Nat → Nat) (l : List Nat) (t : Nat) : Nat := (l.getD t 0 ^^^ blkf k ((c + t / 64 % 4294967296) % 4294967296) nn (t % 64)) % 256
def strl (k : Nat → Nat) (c : Nat) (nn : Nat → Nat) (l : List Nat) (at_ : Nat) : List Nat := (List.range (l.length - at_)).map fun j => strv k c nn l (at_ + j)
def strp (k : Nat → Nat) (c : Nat) (nn : Nat → Nat) (l : List Nat) (at_ i : Nat) : List Nat := (List.range i).map fun j => strv k c nn l (at_ + j)
theorem strp_len (k : Nat → Nat) (c : Nat) (nn : Nat → Nat) (l : List Nat) (at_ i : Nat) : (strp k c nn l at_ i).length = i := by simp [strp]
theorem strl_len (k : Nat → Nat) (c : Nat) (nn : Nat → Nat) (l : List Nat) (at_ : Nat) : (strl k c nn l at_).length = l.length - at_ := by simp [strl]
theorem strp_succ (k : Nat → Nat) (c : Nat) (nn : Nat → Nat) (l : List Nat) (at_ i : Nat) : strp k c nn l at_ i ++ [strv k c nn l (at_ + i)] = strp k c nn l at_ (i + 1) := by
  unfold strp; rw [List.range_succ, List.map_append]; rfl
theorem strp_all (k : Nat → Nat) (c : Nat) (nn : Nat → Nat) (l : List Nat) {at_ i : Nat} (h : (i = 64 ∧ at_ + 64 ≤ l.length) ∨ (at_ + i = l.length)) (hi : i ≤ 64) : strp k c nn l at_ i ++ strl k c nn l (at_ + 64) = strl k c nn l at_ := by
  apply List.ext_getElem
  · simp [strp, strl]; omega
  · intro j h1 h2
    have hj : j < l.length - at_ := by simpa [strl] using h2
    by_cases hji : j < i
    · rw [List.getElem_append_left (by simpa [strp] using hji)]
      simp [strp, strl]
    · rw [List.getElem_append_right (by simp [strp]; omega)]
      simp only [strp, strl, List.length_map, List.length_range, List.getElem_map, List.getElem_range]
      congr 1
      omega
theorem strl_lt (k : Nat → Nat) (c : Nat) (nn : Nat → Nat) (l : List Nat) (at_ : Nat) : ∀ b ∈ strl k c nn l at_, b < 256 := fun b hb => by
  obtain ⟨j, _, rfl⟩ := List.mem_map.1 hb
  exact Nat.mod_lt _ (by decide)
theorem strl_none (k : Nat → Nat) (c : Nat) (nn : Nat → Nat) (l : List Nat) {at_ : Nat} (h : l.length ≤ at_) : strl k c nn l at_ = [] := by
  unfold strl; rw [show l.length - at_ = 0 by omega]; rfl
theorem strv_at (k : Nat → Nat) (c : Nat) (nn : Nat → Nat) (l : List Nat) {at_ i : Nat} (h : at_ + i < l.length) (h64 : at_ % 64 = 0) (hi : i < 64) :
    (l[at_ + i] ^^^ blkf k ((c + at_ / 64 % 4294967296) % 4294967296) nn i) % 256 = strv k c nn l (at_ + i) := by
  unfold strv
  rw [List.getD_eq_getElem?_getD, List.getElem?_eq_getElem h, show (at_ + i) / 64 = at_ / 64 by omega, show (at_ + i) % 64 = i by omega]
  rfl
theorem own_fix {e : TypeId} {z n n' : Nat} {v : Value} {xs xs' : List Value} {l : Mem} (h : OwnS e z v n xs l) (hn : n = n') (hx : xs = xs') : OwnS e z v n' xs' l := hn ▸ hx ▸ h
theorem by8_one {l : List Nat} : ∀ u ∈ l.map by8, u.oneCell' = true := fun u hu => by
  obtain ⟨n, _, rfl⟩ := List.mem_map.1 hu; rfl

end Go.Proofs.Ytmnmhmpklknleaa
