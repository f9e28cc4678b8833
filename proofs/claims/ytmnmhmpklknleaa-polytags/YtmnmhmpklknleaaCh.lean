/-
  ChaCha20 in plain numbers, as the document's answer reckons it. Plain arithmetic.
-/
import Derived.Test.YtmnmhmpklknleaaNum6
import Derived.Test.YtmnmhmpklknleaaEnv5
namespace Go.Proofs.Ytmnmhmpklknleaa
open Go Go.RowKit

def rotl (n b : Nat) : Nat := (n * 2 ^ b % 4294967296 ||| n / 2 ^ (32 - b)) % 4294967296
def qrt (a b d e : Nat) : Nat × Nat × Nat × Nat :=
  let a1 := (a + b) % 4294967296
  let e1 := rotl ((e ^^^ a1) % 4294967296) 16
  let d1 := (d + e1) % 4294967296
  let b1 := rotl ((b ^^^ d1) % 4294967296) 12
  let a2 := (a1 + b1) % 4294967296
  let e2 := rotl ((e1 ^^^ a2) % 4294967296) 8
  let d2 := (d1 + e2) % 4294967296
  let b2 := rotl ((b1 ^^^ d2) % 4294967296) 7
  (a2, b2, d2, e2)
def rnd (f : Nat → Nat) (t : Nat) : Nat :=
  let q := qrt (f (t % 4)) (f (4 + t % 4)) (f (8 + t % 4)) (f (12 + t % 4))
  if t < 4 then q.1 else if t < 8 then q.2.1 else if t < 12 then q.2.2.1 else q.2.2.2
def sh1 (f : Nat → Nat) (t : Nat) : Nat := f (4 * (t / 4) + (t % 4 + 4 + 1 * (t / 4)) % 4)
def shm (f : Nat → Nat) (t : Nat) : Nat := f (4 * (t / 4) + (t % 4 + 4 - t / 4) % 4)
def dbl (f : Nat → Nat) : Nat → Nat := shm (rnd (sh1 (rnd f)))
def dbls (f : Nat → Nat) : Nat → Nat → Nat
  | 0 => f
  | k + 1 => dbl (dbls f k)
theorem rnd_step {f s : Nat → Nat} {k : Nat} (hk : k < 4) (hs : ∀ t, t < 16 → s t = if t % 4 < k then rnd f t else f t) (q : Nat × Nat × Nat × Nat) (hq : q = qrt (s k) (s (4 + k)) (s (8 + k)) (s (12 + k))) :
    ∀ t, t < 16 → upd (upd (upd (upd s k q.1) (4 + k) q.2.1) (8 + k) q.2.2.1) (12 + k) q.2.2.2 t = if t % 4 < k + 1 then rnd f t else f t := by
  have e0 : s k = f k := by rw [hs k (by omega), if_neg (by omega)]
  have e1 : s (4 + k) = f (4 + k) := by rw [hs _ (by omega), if_neg (by omega)]
  have e2 : s (8 + k) = f (8 + k) := by rw [hs _ (by omega), if_neg (by omega)]
  have e3 : s (12 + k) = f (12 + k) := by rw [hs _ (by omega), if_neg (by omega)]
  rw [e0, e1, e2, e3] at hq
  intro t ht
  by_cases hm : t % 4 = k
  · rw [if_pos (by omega)]
    unfold rnd
    rw [hm, ← hq]
    unfold upd
    have : t = k ∨ t = 4 + k ∨ t = 8 + k ∨ t = 12 + k := by omega
    rcases this with h | h | h | h
    · rw [if_neg (by omega), if_neg (by omega), if_neg (by omega), if_pos h, if_pos (by omega)]
    · rw [if_neg (by omega), if_neg (by omega), if_pos h, if_neg (by omega), if_pos (by omega)]
    · rw [if_neg (by omega), if_pos h, if_neg (by omega), if_neg (by omega), if_pos (by omega)]
    · rw [if_pos h, if_neg (by omega), if_neg (by omega), if_neg (by omega)]
  · unfold upd
    rw [if_neg (by omega), if_neg (by omega), if_neg (by omega), if_neg (by omega), hs t ht]
    by_cases hlt : t % 4 < k
    · rw [if_pos hlt, if_pos (by omega)]
    · rw [if_neg hlt, if_neg (by omega)]
theorem rnd_end {f s : Nat → Nat} (hs : ∀ t, t < 16 → s t = if t % 4 < 4 then rnd f t else f t) : arr .u32 16 s = arr .u32 16 (rnd f) := arr_congr fun t ht => by
  rw [hs t ht, if_pos (by omega)]
theorem rotl_lt (n b : Nat) : rotl n b < 4294967296 := Nat.mod_lt _ (by decide)
theorem rnd_lt (f : Nat → Nat) (t : Nat) : rnd f t < 4294967296 := by
  unfold rnd qrt
  simp only
  split
  · exact Nat.mod_lt _ (by decide)
  · split
    · exact rotl_lt _ _
    · split
      · exact Nat.mod_lt _ (by decide)
      · exact rotl_lt _ _
theorem sh_at (g : (Nat → Nat) → Nat → Nat) (f s : Nat → Nat) {k j v : Nat} (hv : v = g f (4 * k + j)) (hs : ∀ t, t < 4 * k + j → s t = g f t) : ∀ t, t < 4 * k + (j + 1) → upd s (4 * k + j) v t = g f t := fun t ht => by
  unfold upd; split
  · rename_i h; rw [hv, h]
  · exact hs t (by omega)
theorem sh1_v (f : Nat → Nat) {k j : Nat} (hj : j < 4) : f (4 * k + (j + 4 + 1 * k) % 4) = sh1 f (4 * k + j) := by
  unfold sh1
  rw [show (4 * k + j) / 4 = k by omega, show (4 * k + j) % 4 = j by omega]
theorem shm_v (f : Nat → Nat) {k j : Nat} (hj : j < 4) : f (4 * k + (j + 4 - k) % 4) = shm f (4 * k + j) := by
  unfold shm
  rw [show (4 * k + j) / 4 = k by omega, show (4 * k + j) % 4 = j by omega]

/-! ### Numbers as bytes -/
def lowl (n k : Nat) : List Nat := (List.range k).map fun i => n / 256 ^ i % 256
theorem lowl_len (n k : Nat) : (lowl n k).length = k := by simp [lowl]
theorem lowl_succ (n k : Nat) : lowl n k ++ [n / 256 ^ k % 256] = lowl n (k + 1) := by
  unfold lowl; rw [List.range_succ, List.map_append]; rfl
theorem lowl_lt (n k : Nat) : ∀ b ∈ lowl n k, b < 256 := fun b hb => by
  obtain ⟨i, _, rfl⟩ := List.mem_map.1 hb
  exact Nat.mod_lt _ (by decide)
def leN : List Nat → Nat
  | [] => 0
  | b :: l => b + 256 * leN l
theorem leN_lt : ∀ (l : List Nat), (∀ b ∈ l, b < 256) → leN l < 256 ^ l.length
  | [], _ => by simp [leN]
  | b :: l, h => by
    have h1 := leN_lt l (fun x hx => h x (by simp [hx]))
    have h2 := h b (by simp)
    rw [List.length_cons, Nat.pow_succ]
    unfold leN
    omega
theorem leN_drop {l : List Nat} {i : Nat} (hi : i < l.length) : leN (l.drop i) = leN (l.drop (i + 1)) * 256 + l[i] := by
  rw [List.drop_eq_getElem_cons hi]
  show l[i] + 256 * leN (l.drop (i + 1)) = _
  omega
theorem leN_small {l : List Nat} (hl : l.length ≤ 8) (hb : ∀ b ∈ l, b < 256) (i : Nat) : leN (l.drop (i + 1)) < 72057594037927936 := by
  have h1 := leN_lt (l.drop (i + 1)) (fun b h => hb b (List.mem_of_mem_drop h))
  have h2 : (l.drop (i + 1)).length ≤ 7 := by simp; omega
  have h3 : 256 ^ (l.drop (i + 1)).length ≤ 256 ^ 7 := Nat.pow_le_pow_right (by decide) h2
  have h4 : 256 ^ 7 = 72057594037927936 := by decide
  omega

end Go.Proofs.Ytmnmhmpklknleaa
