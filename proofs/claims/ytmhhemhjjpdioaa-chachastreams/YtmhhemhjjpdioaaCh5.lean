/-
  The words, rounds and bytes of the program's ChaCha20 in plain numbers, and that they are the document's. Plain arithmetic.
-/
import Derived.Test.YtmhhemhjjpdioaaCh3
namespace Go.Proofs.Ytmhhemhjjpdioaa
open Go Go.RowKit

/-! ### Words of bytes -/
/-- The bytes of word t that are among the first i. -/
def pw (f : Nat → Nat) (i t : Nat) : Nat :=
  (if 4 * t < i then f (4 * t) else 0) + 256 * (if 4 * t + 1 < i then f (4 * t + 1) else 0) + 65536 * (if 4 * t + 2 < i then f (4 * t + 2) else 0) + 16777216 * (if 4 * t + 3 < i then f (4 * t + 3) else 0)
theorem or_plus {a b : Nat} (k : Nat) (h : a < 2 ^ k) : a ||| b * 2 ^ k = a + b * 2 ^ k := by
  have := Nat.two_pow_add_eq_or_of_lt h b
  rw [Nat.or_comm, Nat.mul_comm b, ← this, Nat.add_comm]
theorem pw_step {f : Nat → Nat} {i : Nat} (hf : f i < 256) (hl : ∀ j, j < i → f j < 256) : (pw f i (i / 4) ||| (f i * 2 ^ (i % 4 * 8)) % 4294967296) % 4294967296 = pw f (i + 1) (i / 4) := by
  obtain ⟨t, r, hr, rfl⟩ : ∃ t r, r < 4 ∧ i = 4 * t + r := ⟨i / 4, i % 4, by omega, by omega⟩
  rw [show (4 * t + r) / 4 = t by omega, show (4 * t + r) % 4 = r by omega]
  have : r = 0 ∨ r = 1 ∨ r = 2 ∨ r = 3 := by omega
  unfold pw
  rcases this with rfl | rfl | rfl | rfl
  · rw [if_neg (by omega), if_neg (by omega), if_neg (by omega), if_neg (by omega), if_pos (by omega), if_neg (by omega), if_neg (by omega), if_neg (by omega)]
    simp only [Nat.add_zero, Nat.mul_zero, Nat.zero_mul, Nat.pow_zero, Nat.mul_one, Nat.zero_or] at hf ⊢
    omega
  · have h0 := hl (4 * t) (by omega)
    rw [if_pos (by omega), if_neg (by omega), if_neg (by omega), if_neg (by omega), if_pos (by omega), if_pos (by omega), if_neg (by omega), if_neg (by omega)]
    rw [show f (4 * t + 1) * 2 ^ (1 * 8) % 4294967296 = f (4 * t + 1) * 2 ^ 8 by omega, or_plus 8 (by omega)]
    omega
  · have h0 := hl (4 * t) (by omega)
    have h1 := hl (4 * t + 1) (by omega)
    rw [if_pos (by omega), if_pos (by omega), if_neg (by omega), if_neg (by omega), if_pos (by omega), if_pos (by omega), if_pos (by omega), if_neg (by omega)]
    rw [show f (4 * t + 2) * 2 ^ (2 * 8) % 4294967296 = f (4 * t + 2) * 2 ^ 16 by omega, or_plus 16 (by omega)]
    omega
  · have h0 := hl (4 * t) (by omega)
    have h1 := hl (4 * t + 1) (by omega)
    have h2 := hl (4 * t + 2) (by omega)
    rw [if_pos (by omega), if_pos (by omega), if_pos (by omega), if_neg (by omega), if_pos (by omega), if_pos (by omega), if_pos (by omega), if_pos (by omega)]
    rw [show f (4 * t + 3) * 2 ^ (3 * 8) % 4294967296 = f (4 * t + 3) * 2 ^ 24 by omega, or_plus 24 (by omega)]
    omega
theorem pw_other {f : Nat → Nat} {i t : Nat} (h : t ≠ i / 4) : pw f (i + 1) t = pw f i t := by
  unfold pw
  have e0 : (4 * t < i + 1) = (4 * t < i) := propext ⟨fun _ => by omega, fun _ => by omega⟩
  have e1 : (4 * t + 1 < i + 1) = (4 * t + 1 < i) := propext ⟨fun _ => by omega, fun _ => by omega⟩
  have e2 : (4 * t + 2 < i + 1) = (4 * t + 2 < i) := propext ⟨fun _ => by omega, fun _ => by omega⟩
  have e3 : (4 * t + 3 < i + 1) = (4 * t + 3 < i) := propext ⟨fun _ => by omega, fun _ => by omega⟩
  simp only [e0, e1, e2, e3]
theorem pw_none (f : Nat → Nat) (t : Nat) : pw f 0 t = 0 := by
  unfold pw
  rw [if_neg (by omega), if_neg (by omega), if_neg (by omega), if_neg (by omega)]
/-- The words of a block when i bytes of the key and q of the nonce are in. -/
def stw (k : Nat → Nat) (c : Nat) (nn : Nat → Nat) (i q t : Nat) : Nat :=
  if t < 4 then [1634760805, 857760878, 2036477234, 1797285236].getD t 0 else if t < 12 then pw k i (t - 4) else if t = 12 then c else pw nn q (t - 13)
theorem stw_first (k : Nat → Nat) (c : Nat) (nn : Nat → Nat) : ∀ t, t < 16 → (fun t => if t = 0 then 1634760805 else if t = 1 then 857760878 else if t = 2 then 2036477234 else if t = 3 then 1797285236 else if t = 12 then c else 0) t = stw k c nn 0 0 t := fun t ht => by
  unfold stw
  have : t = 0 ∨ t = 1 ∨ t = 2 ∨ t = 3 ∨ t = 4 ∨ t = 5 ∨ t = 6 ∨ t = 7 ∨ t = 8 ∨ t = 9 ∨ t = 10 ∨ t = 11 ∨ t = 12 ∨ t = 13 ∨ t = 14 ∨ t = 15 := by omega
  rcases this with rfl | rfl | rfl | rfl | rfl | rfl | rfl | rfl | rfl | rfl | rfl | rfl | rfl | rfl | rfl | rfl <;> simp [pw_none]
theorem stw_key {k nn s : Nat → Nat} {c i : Nat} (hk : ∀ j, j < 32 → k j < 256) (hi : i < 32) (hs : ∀ t, t < 16 → s t = stw k c nn i 0 t) :
    ∀ t, t < 16 → upd s (4 + i / 4) ((s (4 + i / 4) ||| (k i * 2 ^ (i % 4 * 8)) % 4294967296) % 4294967296) t = stw k c nn (i + 1) 0 t := fun t ht => by
  have e : s (4 + i / 4) = pw k i (i / 4) := by
    rw [hs _ (by omega)]; unfold stw
    rw [if_neg (by omega), if_pos (by omega), show 4 + i / 4 - 4 = i / 4 by omega]
  rw [e, pw_step (hk i hi) (fun j hj => hk j (by omega))]
  unfold upd
  by_cases h : t = 4 + i / 4
  · rw [if_pos h]; unfold stw
    rw [if_neg (by omega), if_pos (by omega), show t - 4 = i / 4 by omega]
  · rw [if_neg h, hs t ht]; unfold stw
    by_cases h4 : t < 4
    · rw [if_pos h4, if_pos h4]
    · rw [if_neg h4, if_neg h4]
      by_cases h12 : t < 12
      · rw [if_pos h12, if_pos h12, pw_other (by omega)]
      · rw [if_neg h12, if_neg h12]
theorem stw_nonce {k nn s : Nat → Nat} {c i : Nat} (hn : ∀ j, j < 12 → nn j < 256) (hi : i < 12) (hs : ∀ t, t < 16 → s t = stw k c nn 32 i t) :
    ∀ t, t < 16 → upd s (13 + i / 4) ((s (13 + i / 4) ||| (nn i * 2 ^ (i % 4 * 8)) % 4294967296) % 4294967296) t = stw k c nn 32 (i + 1) t := fun t ht => by
  have e : s (13 + i / 4) = pw nn i (i / 4) := by
    rw [hs _ (by omega)]; unfold stw
    rw [if_neg (by omega), if_neg (by omega), if_neg (by omega), show 13 + i / 4 - 13 = i / 4 by omega]
  rw [e, pw_step (hn i hi) (fun j hj => hn j (by omega))]
  unfold upd
  by_cases h : t = 13 + i / 4
  · rw [if_pos h]; unfold stw
    rw [if_neg (by omega), if_neg (by omega), if_neg (by omega), show t - 13 = i / 4 by omega]
  · rw [if_neg h, hs t ht]; unfold stw
    by_cases h4 : t < 4
    · rw [if_pos h4, if_pos h4]
    · rw [if_neg h4, if_neg h4]
      by_cases h12 : t < 12
      · rw [if_pos h12, if_pos h12]
      · rw [if_neg h12, if_neg h12]
        by_cases h13 : t = 12
        · rw [if_pos h13, if_pos h13]
        · rw [if_neg h13, if_neg h13, pw_other (by omega)]
theorem le4 (a b c d : Nat) : leN [a, b, c, d] = a + 256 * b + 65536 * c + 16777216 * d := by
  simp only [leN]; omega
theorem pw_full {f : Nat → Nat} {n t : Nat} (h : 4 * t + 4 ≤ n) : pw f n t = f (4 * t) + 256 * f (4 * t + 1) + 65536 * f (4 * t + 2) + 16777216 * f (4 * t + 3) := by
  unfold pw
  rw [if_pos (by omega), if_pos (by omega), if_pos (by omega), if_pos (by omega)]
theorem stw_end (k : Nat → Nat) {c : Nat} (nn : Nat → Nat) (hc : c < 4294967296) : ∀ t, t < 16 → stw k c nn 32 12 t = wrd (allb k c nn) t := fun t ht => by
  have : t = 0 ∨ t = 1 ∨ t = 2 ∨ t = 3 ∨ t = 4 ∨ t = 5 ∨ t = 6 ∨ t = 7 ∨ t = 8 ∨ t = 9 ∨ t = 10 ∨ t = 11 ∨ t = 12 ∨ t = 13 ∨ t = 14 ∨ t = 15 := by omega
  rcases this with rfl | rfl | rfl | rfl | rfl | rfl | rfl | rfl | rfl | rfl | rfl | rfl | rfl | rfl | rfl | rfl
  · show (1634760805 : Nat) = leN [101, 120, 112, 97]; rw [le4]
  · show (857760878 : Nat) = leN [110, 100, 32, 51]; rw [le4]
  · show (2036477234 : Nat) = leN [50, 45, 98, 121]; rw [le4]
  · show (1797285236 : Nat) = leN [116, 101, 32, 107]; rw [le4]
  · show pw k 32 0 = leN [k 0, k 1, k 2, k 3]; rw [le4, pw_full (by decide)]
  · show pw k 32 1 = leN [k 4, k 5, k 6, k 7]; rw [le4, pw_full (by decide)]
  · show pw k 32 2 = leN [k 8, k 9, k 10, k 11]; rw [le4, pw_full (by decide)]
  · show pw k 32 3 = leN [k 12, k 13, k 14, k 15]; rw [le4, pw_full (by decide)]
  · show pw k 32 4 = leN [k 16, k 17, k 18, k 19]; rw [le4, pw_full (by decide)]
  · show pw k 32 5 = leN [k 20, k 21, k 22, k 23]; rw [le4, pw_full (by decide)]
  · show pw k 32 6 = leN [k 24, k 25, k 26, k 27]; rw [le4, pw_full (by decide)]
  · show pw k 32 7 = leN [k 28, k 29, k 30, k 31]; rw [le4, pw_full (by decide)]
  · show c = leN [c / 256 ^ 0 % 256, c / 256 ^ 1 % 256, c / 256 ^ 2 % 256, c / 256 ^ 3 % 256]
    rw [le4]
    omega
  · show pw nn 12 0 = leN [nn 0, nn 1, nn 2, nn 3]; rw [le4, pw_full (by decide)]
  · show pw nn 12 1 = leN [nn 4, nn 5, nn 6, nn 7]; rw [le4, pw_full (by decide)]
  · show pw nn 12 2 = leN [nn 8, nn 9, nn 10, nn 11]; rw [le4, pw_full (by decide)]

/-! ### Rounds -/
def colN (f : Nat → Nat) : Nat → Nat → Nat
  | 0 => f
  | i + 1 => qst (colN f i) i (4 + i) (8 + i) (12 + i)
def diaN (f : Nat → Nat) : Nat → Nat → Nat
  | 0 => f
  | i + 1 => qst (diaN f i) i (4 + (i + 1) % 4) (8 + (i + 2) % 4) (12 + (i + 3) % 4)
theorem colN_cols (f : Nat → Nat) : colN f 4 = cols f := by
  show qst (qst (qst (qst f 0 4 8 12) 1 5 9 13) 2 6 10 14) 3 7 11 15 = _
  rw [qst_eq f (by decide), qst_eq _ (by decide), qst_eq _ (by decide), qst_eq _ (by decide)]; rfl
theorem diaN_diag (f : Nat → Nat) : diaN f 4 = diag f := by
  show qst (qst (qst (qst f 0 5 10 15) 1 6 11 12) 2 7 8 13) 3 4 9 14 = _
  rw [qst_eq f (by decide), qst_eq _ (by decide), qst_eq _ (by decide), qst_eq _ (by decide)]; rfl
def twoN (f : Nat → Nat) : Nat → Nat → Nat
  | 0 => f
  | n + 1 => diaN (colN (twoN f n) 4) 4
theorem dbl_congr {f g : Nat → Nat} (h : ∀ t, t < 16 → f t = g t) : ∀ t, t < 16 → dbl f t = dbl g t := shm_congr (rnd_congr (sh1_congr (rnd_congr h)))
theorem twoN_dbls (f : Nat → Nat) : ∀ n t, t < 16 → twoN f n t = dbls f n t
  | 0, _, _ => rfl
  | n + 1, t, ht => by
    show diaN (colN (twoN f n) 4) 4 t = dbl (dbls f n) t
    rw [colN_cols, diaN_diag, both_dbl _ t ht]
    exact dbl_congr (twoN_dbls f n) t ht

/-! ### Bytes of words -/
theorem outl_at (v w : Nat → Nat) : ∀ n i, i < 4 * n → (outl v w n).getD i 0 = (v (i / 4) + w (i / 4)) % 4294967296 / 256 ^ (i % 4) % 256
  | 0, i, h => by omega
  | n + 1, i, h => by
    rw [outl, List.getD_eq_getElem?_getD]
    by_cases hi : i < 4 * n
    · rw [List.getElem?_append_left (by rw [outl_len]; exact hi), ← List.getD_eq_getElem?_getD, outl_at v w n i hi]
    · rw [List.getElem?_append_right (by rw [outl_len]; omega), outl_len, List.getElem?_eq_getElem (by rw [lowl_len]; omega)]
      rw [show i / 4 = n by omega, show i % 4 = i - 4 * n by omega]
      simp [lowl]
theorem blk_at (k : Nat → Nat) (c : Nat) (nn : Nat → Nat) {v w : Nat → Nat} (hv : v = dbls (wrd (allb k c nn)) 10) (hw : w = wrd (allb k c nn)) {i : Nat} (hi : i < 64) : (v (i / 4) + w (i / 4)) % 4294967296 / 2 ^ (i % 4 * 8) % 256 = blkf k c nn i := by
  unfold blkf blkl
  rw [outl_at _ _ 16 i (by omega), hv, hw, Nat.mul_comm (i % 4) 8, Nat.pow_mul]

/-! ### Streams -/
theorem own_made {e : TypeId} {r n : Nat} {f : Nat → Nat} {l : List Nat} (hl : l.length = n) (hn : n ≤ maxLen) (h : ∀ j, j < n → f j = l.getD j 0) : OwnS e 1 (.slice (some ⟨r, 0, none⟩) n n) n (l.map by8) [⟨r, arr .u8 n f, e⟩] := by
  refine .inr ⟨r, n, _, rfl, rfl, Nat.le_refl _, hn, by rw [arr_size, Nat.mul_one], by rw [List.length_map, hl, Nat.mul_one], ?_⟩
  rw [arr_congr h, Nat.mul_one]
  apply List.ext_getElem
  · simp [arr, hl]
  · intro j h1 h2
    have hj : j < l.length := by simpa using h2
    simp [arr, by8, List.getD_eq_getElem?_getD, List.getElem?_eq_getElem hj]
theorem strl_at (k : Nat → Nat) (c : Nat) (nn : Nat → Nat) (l : List Nat) {j : Nat} (h : j < l.length) : (strl k c nn l 0).getD j 0 = strv k c nn l j := by
  rw [List.getD_eq_getElem?_getD, List.getElem?_eq_getElem (by rw [strl_len]; omega)]
  simp [strl]
theorem strv_in (k : Nat → Nat) (c : Nat) (nn p : Nat → Nat) (l : List Nat) {i : Nat} (h : i < l.length) (hp : p (i % 64) = blkf k ((c + i / 64 % 4294967296) % 4294967296) nn (i % 64)) : (l[i] ^^^ p (i % 64)) % 256 = strv k c nn l i := by
  unfold strv
  rw [List.getD_eq_getElem?_getD, List.getElem?_eq_getElem h, hp]; rfl

end Go.Proofs.Ytmhhemhjjpdioaa
