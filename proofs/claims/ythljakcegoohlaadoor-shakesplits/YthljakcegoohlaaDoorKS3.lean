import Derived.Test.YthljakcegoohlaaDoorKS2
import Derived.ProofKit
import Derived.OpenShut
import Derived.Carry
import Derived.SizedLaws
import Derived.Lib.Bytealg
import Derived.Lib.IndexEntry
import Derived.Lib.Join
import Derived.LaidMore
import Derived.Lay
import Derived.MakeChecks
import Derived.Test.YthljakcegoohlaaDoorRows
namespace Go.Proofs.YthljakcegoohlaaDoor
open Go Go.RowKit
abbrev ivL : List Nat := [1779033703, 3144134277, 1013904242, 2773480762, 1359893119, 2600822924, 528734635, 1541459225]
def ivf (j : Nat) : Nat := ivL.getD j 0
theorem ivf_lt (j : Nat) : ivf j < 4294967296 := by
  unfold ivf
  rw [List.getD_eq_getElem?_getD]
  cases h : ivL[j]? with
  | none => simp
  | some b =>
    have : b ∈ ivL := List.mem_of_getElem? h
    have all : ∀ b ∈ ivL, b < 4294967296 := by decide +kernel
    exact all b this
abbrev sigL : List Nat := [0, 1, 2, 3, 4, 5, 6, 7, 8, 9, 10, 11, 12, 13, 14, 15, 14, 10, 4, 8, 9, 15, 13, 6, 1, 12, 0, 2, 11, 7, 5, 3, 11, 8, 12, 0, 5, 2, 15, 13, 10, 14, 3, 6, 7, 1, 9, 4, 7, 9, 3, 1, 13, 12, 11, 14, 2, 6, 5, 10, 4, 0, 15, 8,
  9, 0, 5, 7, 2, 4, 10, 15, 14, 1, 11, 12, 6, 8, 3, 13, 2, 12, 6, 10, 0, 11, 8, 3, 4, 13, 7, 5, 15, 14, 1, 9, 12, 5, 1, 15, 14, 13, 4, 10, 0, 7, 6, 3, 9, 2, 8, 11, 13, 11, 7, 14, 12, 1, 3, 9, 5, 0, 15, 4, 8, 6, 2, 10,
  6, 15, 14, 9, 11, 3, 0, 8, 12, 2, 13, 7, 1, 4, 10, 5, 10, 2, 8, 4, 7, 6, 1, 5, 15, 11, 9, 14, 3, 12, 13, 0]
def sig (r i : Nat) : Nat := sigL.getD (16 * r + i) 0
theorem sig_lt (r i : Nat) : sig r i < 16 := by
  unfold sig
  rw [List.getD_eq_getElem?_getD]
  cases h : sigL[16 * r + i]? with
  | none => simp
  | some b =>
    have : b ∈ sigL := List.mem_of_getElem? h
    have all : ∀ b ∈ sigL, b < 16 := by decide +kernel
    exact all b this
def bq (a b d e x y : Nat) : Nat × Nat × Nat × Nat :=
  let a1 := (a + (b + x) % 4294967296) % 4294967296
  let e1 := rotl ((e ^^^ a1) % 4294967296) 16
  let d1 := (d + e1) % 4294967296
  let b1 := rotl ((b ^^^ d1) % 4294967296) 20
  let a2 := (a1 + (b1 + y) % 4294967296) % 4294967296
  let e2 := rotl ((e1 ^^^ a2) % 4294967296) 24
  let d2 := (d1 + e2) % 4294967296
  let b2 := rotl ((b1 ^^^ d2) % 4294967296) 25
  (a2, b2, d2, e2)
def brn (x y : Nat → Nat) (f : Nat → Nat) (t : Nat) : Nat :=
  let q := bq (f (t % 4)) (f (4 + t % 4)) (f (8 + t % 4)) (f (12 + t % 4)) (x (t % 4)) (y (t % 4))
  if t < 4 then q.1 else if t < 8 then q.2.1 else if t < 12 then q.2.2.1 else q.2.2.2
theorem brn_step {x y f s : Nat → Nat} {k : Nat} (hk : k < 4) (hs : ∀ t, t < 16 → s t = if t % 4 < k then brn x y f t else f t) (q : Nat × Nat × Nat × Nat) (hq : q = bq (s k) (s (4 + k)) (s (8 + k)) (s (12 + k)) (x k) (y k)) {g : Nat → Nat} (hg : g = fun t => if t = k then q.1 else if t = 4 + k then q.2.1 else if t = 8 + k then q.2.2.1 else if t = 12 + k then q.2.2.2 else s t) :
    ∀ t, t < 16 → g t = if t % 4 < k + 1 then brn x y f t else f t := by
  have e0 : s k = f k := by rw [hs k (by omega), if_neg (by omega)]
  have e1 : s (4 + k) = f (4 + k) := by rw [hs _ (by omega), if_neg (by omega)]
  have e2 : s (8 + k) = f (8 + k) := by rw [hs _ (by omega), if_neg (by omega)]
  have e3 : s (12 + k) = f (12 + k) := by rw [hs _ (by omega), if_neg (by omega)]
  rw [e0, e1, e2, e3] at hq
  intro t ht
  rw [hg]
  by_cases hm : t % 4 = k
  · rw [if_pos (by omega)]
    unfold brn
    rw [hm, ← hq]
    have : t = k ∨ t = 4 + k ∨ t = 8 + k ∨ t = 12 + k := by omega
    rcases this with h | h | h | h
    · simp only; rw [if_pos h, if_pos (by omega)]
    · simp only; rw [if_neg (by omega), if_pos h, if_neg (by omega), if_pos (by omega)]
    · simp only; rw [if_neg (by omega), if_neg (by omega), if_pos h, if_neg (by omega), if_neg (by omega), if_pos (by omega)]
    · simp only; rw [if_neg (by omega), if_neg (by omega), if_neg (by omega), if_pos h, if_neg (by omega), if_neg (by omega), if_neg (by omega)]
  · simp only
    rw [if_neg (by omega), if_neg (by omega), if_neg (by omega), if_neg (by omega), hs t ht]
    by_cases hlt : t % 4 < k
    · rw [if_pos hlt, if_pos (by omega)]
    · rw [if_neg hlt, if_neg (by omega)]
theorem updS (f : Nat → Nat) (a v : Nat) : upd f a v a = v := if_pos rfl
theorem updN (f : Nat → Nat) {a t : Nat} (v : Nat) (h : t ≠ a) : upd f a v t = f t := if_neg h
def shp (p : Nat) (f : Nat → Nat) (t : Nat) : Nat := f (4 * (t / 4) + (t % 4 + 4 + p * (t / 4)) % 4)
def shn (p : Nat) (f : Nat → Nat) (t : Nat) : Nat := f (4 * (t / 4) + (t % 4 + 4 - p * (t / 4)) % 4)
theorem shp_v (p : Nat) (f : Nat → Nat) {k j : Nat} (hj : j < 4) : f (4 * k + (j + 4 + p * k) % 4) = shp p f (4 * k + j) := by
  unfold shp
  rw [show (4 * k + j) / 4 = k by omega, show (4 * k + j) % 4 = j by omega]
theorem shn_v (p : Nat) (f : Nat → Nat) {k j : Nat} (hj : j < 4) : f (4 * k + (j + 4 - p * k) % 4) = shn p f (4 * k + j) := by
  unfold shn
  rw [show (4 * k + j) / 4 = k by omega, show (4 * k + j) % 4 = j by omega]
def xw (l : List Nat) (r p c : Nat) : Nat := wrd l (sig r (8 * p + 2 * c))
def yw (l : List Nat) (r p c : Nat) : Nat := wrd l (sig r (8 * p + 2 * c + 1))
def bstep (l : List Nat) (r p : Nat) (g : Nat → Nat) : Nat → Nat := shn p (brn (xw l r p) (yw l r p) (shp p g))
def bpart (l : List Nat) (r : Nat) (g : Nat → Nat) : Nat → Nat → Nat
  | 0 => g
  | p + 1 => bstep l r p (bpart l r g p)
def brs (l : List Nat) (w : Nat → Nat) : Nat → Nat → Nat
  | 0 => w
  | r + 1 => bpart l r (brs l w r) 2
def w00 (h : Nat → Nat) (t : Nat) : Nat := if t < 8 then h t else ivf (t - 8)
def w0 (h : Nat → Nat) (many : Nat) (last : Bool) (t : Nat) : Nat := if t = 12 then (w00 h 12 ^^^ many % 4294967296) % 4294967296 else if t = 14 ∧ last = true then (4294967295 ^^^ w00 h 14) % 4294967296 else w00 h t
def sqz (h : Nat → Nat) (l : List Nat) (many : Nat) (last : Bool) (t : Nat) : Nat := (h t ^^^ (brs l (w0 h many last) 10 t ^^^ brs l (w0 h many last) 10 (8 + t)) % 4294967296) % 4294967296
theorem sqz_lt (h : Nat → Nat) (l : List Nat) (many : Nat) (last : Bool) (t : Nat) : sqz h l many last t < 4294967296 := Nat.mod_lt _ (by decide)
abbrev ordL : List Nat := [48, 49, 50, 51, 52, 53, 54, 55, 56, 57, 97, 98, 99, 100, 101, 102, 101, 97, 52, 56, 57, 102, 100, 54, 49, 99, 48, 50, 98, 55, 53, 51, 98, 56, 99, 48, 53, 50, 102, 100, 97, 101, 51, 54, 55, 49, 57, 52, 55, 57, 51, 49, 100, 99, 98, 101, 50, 54, 53, 97, 52, 48, 102, 56,
  57, 48, 53, 55, 50, 52, 97, 102, 101, 49, 98, 99, 54, 56, 51, 100, 50, 99, 54, 97, 48, 98, 56, 51, 52, 100, 55, 53, 102, 101, 49, 57, 99, 53, 49, 102, 101, 100, 52, 97, 48, 55, 54, 51, 57, 50, 56, 98, 100, 98, 55, 101, 99, 49, 51, 57, 53, 48, 102, 52, 56, 54, 50, 97,
  54, 102, 101, 57, 98, 51, 48, 56, 99, 50, 100, 55, 49, 52, 97, 53, 97, 50, 56, 52, 55, 54, 49, 53, 102, 98, 57, 101, 51, 99, 100, 48]
theorem ord_all : ∀ n, n < 160 → ordL[n]? = some (ordL.getD n 0) ∧ ordL.getD n 0 < 256 ∧ (97 ≤ ordL.getD n 0 → ordL.getD n 0 - 97 + 10 = sigL.getD n 0) ∧ (¬ 97 ≤ ordL.getD n 0 → 48 ≤ ordL.getD n 0 ∧ ordL.getD n 0 - 48 = sigL.getD n 0) := by decide +kernel
end Go.Proofs.YthljakcegoohlaaDoor
namespace Go.Proofs.YthljakcegoohlaaDoor
open Go Go.RowKit
theorem w00_step {h s : Nat → Nat} {i : Nat} (hi : i < 8) (hs : ∀ t, t < 16 → s t = if t % 8 < i then w00 h t else 0) : ∀ t, t < 16 → upd (upd s i (h i)) (8 + i) (ivf i) t = if t % 8 < i + 1 then w00 h t else 0 := fun t ht => by
  unfold upd
  by_cases h1 : t = 8 + i
  · rw [if_pos h1, if_pos (by omega)]
    unfold w00
    rw [if_neg (by omega), show t - 8 = i by omega]
  · rw [if_neg h1]
    by_cases h2 : t = i
    · rw [if_pos h2, if_pos (by omega)]
      unfold w00
      rw [if_pos (by omega), h2]
    · rw [if_neg h2, hs t ht]
      by_cases h3 : t % 8 < i
      · rw [if_pos h3, if_pos (by omega)]
      · rw [if_neg h3, if_neg (by omega)]
theorem w0_false {h s : Nat → Nat} {many : Nat} (hs : ∀ t, t < 16 → s t = if t % 8 < 8 then w00 h t else 0) : ∀ t, t < 16 → upd s 12 ((s 12 ^^^ many % 4294967296) % 4294967296) t = w0 h many false t := fun t ht => by
  have hw : ∀ t, t < 16 → s t = w00 h t := fun t ht => by rw [hs t ht, if_pos (by omega)]
  unfold upd w0
  by_cases h1 : t = 12
  · rw [if_pos h1, if_pos h1, hw 12 (by decide)]
  · rw [if_neg h1, if_neg h1, if_neg (by simp), hw t ht]
theorem w0_true {h s : Nat → Nat} {many : Nat} (hs : ∀ t, t < 16 → s t = if t % 8 < 8 then w00 h t else 0) : ∀ t, t < 16 → upd (upd s 12 ((s 12 ^^^ many % 4294967296) % 4294967296)) 14 ((4294967295 ^^^ upd s 12 ((s 12 ^^^ many % 4294967296) % 4294967296) 14) % 4294967296) t = w0 h many true t := fun t ht => by
  have hw : ∀ t, t < 16 → s t = w00 h t := fun t ht => by rw [hs t ht, if_pos (by omega)]
  unfold upd w0
  by_cases h1 : t = 14
  · rw [if_pos h1, if_neg (by omega), if_neg (by omega), if_pos ⟨h1, rfl⟩, hw 14 (by decide)]
  · rw [if_neg h1]
    by_cases h2 : t = 12
    · rw [if_pos h2, if_pos h2, hw 12 (by decide)]
    · rw [if_neg h2, if_neg h2, if_neg (by simp [h1]), hw t ht]
theorem sqz_step {h s b1 : Nat → Nat} {l : List Nat} {many : Nat} {last : Bool} {q : Nat} (hq : q < 8) (hb : b1 = brs l (w0 h many last) 10) (hs : ∀ t, t < 8 → s t = if t < q then sqz h l many last t else h t) :
    ∀ t, t < 8 → upd s q ((s q ^^^ (b1 q ^^^ b1 (8 + q)) % 4294967296) % 4294967296) t = if t < q + 1 then sqz h l many last t else h t := fun t ht => by
  have e : s q = h q := by rw [hs q hq, if_neg (by omega)]
  unfold upd
  by_cases h1 : t = q
  · rw [if_pos h1, if_pos (by omega), e, hb, h1]; rfl
  · rw [if_neg h1, hs t ht]
    by_cases h2 : t < q
    · rw [if_pos h2, if_pos (by omega)]
    · rw [if_neg h2, if_neg (by omega)]
theorem sqz_all {h s : Nat → Nat} {l : List Nat} {many : Nat} {last : Bool} (hs : ∀ t, t < 8 → s t = if t < 8 then sqz h l many last t else h t) : arr .u32 8 s = arr .u32 8 (sqz h l many last) := arr_congr fun t ht => by
  rw [hs t ht, if_pos ht]
theorem bst_eqs {s : Nat → Nat} {k x y q1 q2 q3 q4 q5 q6 q7 q8 : Nat} (hk : k < 4) (h1 : q1 = (s k + (s (4 + k) + x) % 4294967296) % 4294967296)
    (h2 : q2 = rotl ((upd s k q1 (12 + k) ^^^ upd s k q1 k) % 4294967296) 16)
    (h3 : q3 = (upd (upd s k q1) (12 + k) q2 (8 + k) + upd (upd s k q1) (12 + k) q2 (12 + k)) % 4294967296)
    (h4 : q4 = rotl ((upd (upd (upd s k q1) (12 + k) q2) (8 + k) q3 (4 + k) ^^^ upd (upd (upd s k q1) (12 + k) q2) (8 + k) q3 (8 + k)) % 4294967296) 20)
    (h5 : q5 = (upd (upd (upd (upd s k q1) (12 + k) q2) (8 + k) q3) (4 + k) q4 k + (upd (upd (upd (upd s k q1) (12 + k) q2) (8 + k) q3) (4 + k) q4 (4 + k) + y) % 4294967296) % 4294967296)
    (h6 : q6 = rotl ((upd (upd (upd (upd (upd s k q1) (12 + k) q2) (8 + k) q3) (4 + k) q4) k q5 (12 + k) ^^^ upd (upd (upd (upd (upd s k q1) (12 + k) q2) (8 + k) q3) (4 + k) q4) k q5 k) % 4294967296) 24)
    (h7 : q7 = (upd (upd (upd (upd (upd (upd s k q1) (12 + k) q2) (8 + k) q3) (4 + k) q4) k q5) (12 + k) q6 (8 + k) + upd (upd (upd (upd (upd (upd s k q1) (12 + k) q2) (8 + k) q3) (4 + k) q4) k q5) (12 + k) q6 (12 + k)) % 4294967296)
    (h8 : q8 = rotl ((upd (upd (upd (upd (upd (upd (upd s k q1) (12 + k) q2) (8 + k) q3) (4 + k) q4) k q5) (12 + k) q6) (8 + k) q7 (4 + k) ^^^ upd (upd (upd (upd (upd (upd (upd s k q1) (12 + k) q2) (8 + k) q3) (4 + k) q4) k q5) (12 + k) q6) (8 + k) q7 (8 + k)) % 4294967296) 25) :
    upd (upd (upd (upd (upd (upd (upd (upd s k q1) (12 + k) q2) (8 + k) q3) (4 + k) q4) k q5) (12 + k) q6) (8 + k) q7) (4 + k) q8 = fun t => if t = k then (bq (s k) (s (4 + k)) (s (8 + k)) (s (12 + k)) x y).1 else if t = 4 + k then (bq (s k) (s (4 + k)) (s (8 + k)) (s (12 + k)) x y).2.1 else if t = 8 + k then (bq (s k) (s (4 + k)) (s (8 + k)) (s (12 + k)) x y).2.2.1 else if t = 12 + k then (bq (s k) (s (4 + k)) (s (8 + k)) (s (12 + k)) x y).2.2.2 else s t := by
  have ab : k ≠ 4 + k := by omega
  have ac : k ≠ 8 + k := by omega
  have ad : k ≠ 12 + k := by omega
  have bc : 4 + k ≠ 8 + k := by omega
  have bd : 4 + k ≠ 12 + k := by omega
  have cd : 8 + k ≠ 12 + k := by omega
  have ba := ab.symm
  have ca := ac.symm
  have da := ad.symm
  have cb := bc.symm
  have db := bd.symm
  have dc := cd.symm
  simp only [updS, updN _ _ ab, updN _ _ ac, updN _ _ ad, updN _ _ bc, updN _ _ bd, updN _ _ cd, updN _ _ ba, updN _ _ ca, updN _ _ da, updN _ _ cb, updN _ _ db, updN _ _ dc] at h1 h2 h3 h4 h5 h6 h7 h8
  have eA : (bq (s k) (s (4 + k)) (s (8 + k)) (s (12 + k)) x y) = (q5, q8, q7, q6) := by
    unfold bq
    simp only
    rw [← h1, ← h2, ← h3, ← h4, ← h5, ← h6, ← h7, ← h8]
  rw [eA]
  funext t
  by_cases ha : t = k
  · subst ha
    simp only [updS, updN _ _ ab, updN _ _ ac, updN _ _ ad, if_pos]
  · by_cases hb : t = 4 + k
    · subst hb
      simp only [updS, if_neg ha, if_pos]
    · by_cases hc : t = 8 + k
      · subst hc
        simp only [updS, updN _ _ cb, if_neg ha, if_neg hb, if_pos]
      · by_cases hd : t = 12 + k
        · subst hd
          simp only [updS, updN _ _ db, updN _ _ dc, if_neg ha, if_neg hb, if_neg hc, if_pos]
        · simp only [if_neg ha, if_neg hb, if_neg hc, if_neg hd, updN _ _ ha, updN _ _ hb, updN _ _ hc, updN _ _ hd]
theorem brs_zero (l : List Nat) (w : Nat → Nat) : w = brs l w 0 := by rw [brs]
theorem brs_succ (l : List Nat) (w : Nat → Nat) (r : Nat) : bpart l r (brs l w r) 2 = brs l w (r + 1) := by rw [brs]
theorem bpart_zero (l : List Nat) (r : Nat) (g : Nat → Nat) : g = bpart l r g 0 := by rw [bpart]
theorem bpart_succ (l : List Nat) (r : Nat) (g : Nat → Nat) (p : Nat) : shn p (brn (xw l r p) (yw l r p) (shp p (bpart l r g p))) = bpart l r g (p + 1) := by rw [bpart, bstep]
theorem blk_arr {r n : Nat} {k : IntKind} {f g : Nat → Nat} {t : TypeId} (h : f = g) : some (⟨r, arr k n f, t⟩ : Blk) = some ⟨r, arr k n g, t⟩ := by rw [h]
def hbeg : Nat → Nat := upd ivf 0 ((ivf 0 ^^^ 16842784) % 4294967296)
end Go.Proofs.YthljakcegoohlaaDoor
namespace Go.Proofs.YthljakcegoohlaaDoor
open Go Go.RowKit
def nbl (ln : Nat) : Nat := if ln % 64 = 0 ∧ 0 < ln then 64 else ln % 64
def okB (n ln : Nat) (d : Nat → Nat) : Bool := (List.range 64).all (fun j => decide (j < n) || decide (d j = 0)) && decide (n = nbl ln)
theorem okB_bad {n ln : Nat} {d : Nat → Nat} {i : Nat} (hi : i < 64) (hge : n ≤ i) (hne : d i ≠ 0) : (!okB n ln d) = true := by
  have : okB n ln d = false := by
    unfold okB
    rw [Bool.and_eq_false_iff]
    left
    rw [List.all_eq_false]
    exact ⟨i, List.mem_range.2 hi, by simp [hne]; omega⟩
  rw [this]; rfl
theorem okB_fin {n ln x : Nat} {d : Nat → Nat} (h : ∀ t, t < 64 → n ≤ t → d t = 0) (hx : nbl ln = x) : (!okB n ln d) = decide ((n : Int) ≠ (x : Int)) := by
  have e1 : ((List.range 64).all (fun j => decide (j < n) || decide (d j = 0))) = true := by
    rw [List.all_eq_true]
    intro j hj
    have hj := List.mem_range.1 hj
    by_cases hn : j < n
    · simp [hn]
    · simp [h j hj (by omega)]
  unfold okB
  rw [e1, hx, Bool.true_and]
  by_cases hnx : n = x
  · subst hnx; simp
  · have : ¬ (n : Int) = (x : Int) := by omega
    simp [hnx, this]
theorem okB_open {n ln : Nat} {d : Nat → Nat} (h : okB n ln d = true) : n = nbl ln ∧ n ≤ ln ∧ n ≤ 64 ∧ (ln - n) % 64 = 0 ∧ ∀ j, n ≤ j → j < 64 → d j = 0 := by
  unfold okB at h
  rw [Bool.and_eq_true, List.all_eq_true] at h
  obtain ⟨h1, h2⟩ := h
  have e : n = nbl ln := of_decide_eq_true h2
  have e2 := e
  unfold nbl at e2
  refine ⟨e, ?_, ?_, ?_, fun j hj hj2 => ?_⟩
  · split at e2 <;> omega
  · split at e2 <;> omega
  · split at e2 <;> omega
  · have := h1 j (List.mem_range.2 hj2)
    have hn : ¬ j < n := by omega
    simpa [hn] using this
def hacc (h : Nat → Nat) (base : Nat) (S : List Nat) : Nat → Nat → Nat
  | 0 => h
  | k + 1 => sqz (hacc h base S k) ((S.drop (64 * k)).take 64) (base + 64 * (k + 1)) false
def nblk (n : Nat) : Nat := (n - 1) / 64
theorem nblk_of {n k : Nat} (h1 : n - 64 * k ≤ 64) (h2 : k = 0 ∨ 64 * k < n) : k = nblk n := by unfold nblk; omega
theorem drop_next64 (S : List Nat) (k : Nat) : ((S.drop (64 * k)).drop 64).take ((S.drop (64 * k)).length - 64) = S.drop (64 * (k + 1)) := by
  rw [List.drop_drop, List.take_of_length_le (by simp; omega), show 64 * k + 64 = 64 * (k + 1) by omega]
theorem held_all64 (L : List Nat) (h : L.length ≤ 64) : (fun i => if i < min L.length 64 then L.getD i 0 else 0) = fun i => L.getD i 0 := by
  funext i
  by_cases hi : i < min L.length 64
  · rw [if_pos hi]
  · rw [if_neg hi, List.getD_eq_getElem?_getD, List.getElem?_eq_none (by omega)]; rfl
def hol (w : Nat → Nat) : Nat → List Nat
  | 0 => []
  | i + 1 => hol w i ++ lowl (w i) 4
theorem hol_len (w : Nat → Nat) : ∀ i, (hol w i).length = 4 * i
  | 0 => rfl
  | i + 1 => by rw [hol, List.length_append, hol_len w i, lowl_len]; omega
theorem hol_lt (w : Nat → Nat) : ∀ i, ∀ b ∈ hol w i, b < 256
  | 0, b, h => by simp [hol] at h
  | i + 1, b, h => by
    rcases List.mem_append.1 h with h | h
    · exact hol_lt w i b h
    · exact lowl_lt _ _ b h
def hsumf (w : Nat → Nat) (j : Nat) : Nat := (hol w 8).getD j 0
theorem hsumf_lt (w : Nat → Nat) (j : Nat) : hsumf w j < 256 := getD_lt (hol_lt w 8) j
def rem64 (m : List Nat) : List Nat := m.drop (64 * nblk m.length)
theorem rem64_len (m : List Nat) : (rem64 m).length = nbl m.length := by
  unfold rem64 nblk nbl
  rw [List.length_drop]
  split <;> omega
theorem rem64_lt {m : List Nat} (h : ∀ b ∈ m, b < 256) : ∀ b ∈ rem64 m, b < 256 := fun b hb => h b (List.mem_of_mem_drop hb)
def hmsg (m : List Nat) : Nat → Nat := hacc hbeg 0 m (nblk m.length)
def heldB (m : List Nat) (i : Nat) : Nat := (rem64 m).getD i 0
theorem heldB_lt {m : List Nat} (hm : ∀ b ∈ m, b < 256) (j : Nat) : heldB m j < 256 := getD_lt (rem64_lt hm) j
theorem ok_heldB (m : List Nat) : okB (rem64 m).length m.length (heldB m) = true := by
  unfold okB
  rw [Bool.and_eq_true, List.all_eq_true]
  refine ⟨fun j _ => ?_, decide_eq_true (rem64_len m)⟩
  by_cases h : j < (rem64 m).length
  · simp [h]
  · have : heldB m j = 0 := by
      unfold heldB
      rw [List.getD_eq_getElem?_getD, List.getElem?_eq_none (by omega)]; rfl
    simp [this]
theorem sS_heldB (m l : List Nat) : sS (heldB m) (rem64 m).length l = rem64 m ++ l := by
  unfold sS
  congr 1
  apply List.ext_getElem
  · simp
  · intro j h1 h2
    simp only [List.getElem_map, List.getElem_range]
    unfold heldB
    rw [List.getD_eq_getElem?_getD, List.getElem?_eq_getElem h2]; rfl
theorem hacc_pre (h : Nat → Nat) (base : Nat) (m l : List Nat) : ∀ k, 64 * k ≤ m.length → hacc h base (m ++ l) k = hacc h base m k
  | 0, _ => rfl
  | k + 1, hk => by
    rw [hacc, hacc, hacc_pre h base m l k (by omega), List.drop_append_of_le_length (by omega), List.take_append_of_le_length (by simp; omega)]
theorem nblk_le (n : Nat) : 64 * nblk n ≤ n := by unfold nblk; omega
theorem drop_rem64 (m l : List Nat) (k : Nat) : (m ++ l).drop (64 * (nblk m.length + k)) = (rem64 m ++ l).drop (64 * k) := by
  have e : (m ++ l).drop (64 * nblk m.length) = rem64 m ++ l := List.drop_append_of_le_length (nblk_le _)
  rw [← e, List.drop_drop, Nat.mul_add]
theorem hacc_app (m l : List Nat) : ∀ k, hacc hbeg 0 (m ++ l) (nblk m.length + k) = hacc (hmsg m) (64 * nblk m.length) (rem64 m ++ l) k
  | 0 => hacc_pre hbeg 0 m l _ (nblk_le _)
  | k + 1 => by
    show hacc hbeg 0 (m ++ l) (nblk m.length + k + 1) = _
    rw [hacc, hacc, hacc_app m l k, drop_rem64, show 0 + 64 * (nblk m.length + k + 1) = 64 * nblk m.length + 64 * (k + 1) by omega]
theorem base_of (m : List Nat) : m.length - (rem64 m).length = 64 * nblk m.length := by
  have := nblk_le m.length
  rw [show (rem64 m).length = m.length - 64 * nblk m.length by simp [rem64]]
  omega
theorem part64 (m l : List Nat) : nblk m.length + nblk (rem64 m ++ l).length = nblk (m ++ l).length := by
  have e : (rem64 m).length = m.length - 64 * nblk m.length := by simp [rem64]
  rw [List.length_append, List.length_append, e]
  unfold nblk
  omega
theorem hmsg_app (m l : List Nat) : hacc (hmsg m) (64 * nblk m.length) (rem64 m ++ l) (nblk (rem64 m ++ l).length) = hmsg (m ++ l) := by
  rw [← hacc_app, part64 m l]; rfl
theorem rem64_app (m l : List Nat) : (rem64 m ++ l).drop (64 * nblk (rem64 m ++ l).length) = rem64 (m ++ l) := by
  rw [← drop_rem64, part64 m l]; rfl
def bsum (m : List Nat) (j : Nat) : Nat := if m.length ≤ 1073741824 then hsumf (sqz (hmsg m) ((List.range 64).map (heldB m)) m.length true) j else hsumf (sqz (fun _ => 0) ((List.range 64).map fun _ => 0) 0 true) j
theorem bsum_lt (m : List Nat) (j : Nat) : bsum m j < 256 := by unfold bsum; split <;> exact hsumf_lt _ _
abbrev cB (m : List Nat) : Array Value := cells 74 [pI .u32 8 (hmsg m), pI .u8 64 (heldB m), pV (.int .i64 ((rem64 m).length : Nat)), pV (.int .i64 (m.length : Nat))]
abbrev stB (m : List Nat) : Value := .agg (cB m)
theorem heldB_nil : heldB [] = fun _ => 0 := by funext i; simp [heldB, rem64]
theorem hmsg_nil : hmsg [] = hbeg := rfl
theorem okB_zero : okB 0 0 (fun _ => 0) = true := by decide
theorem bsum_small {m : List Nat} (h : m.length ≤ 1073741824) : bsum m = hsumf (sqz (hmsg m) ((List.range 64).map (heldB m)) m.length true) := by funext j; unfold bsum; rw [if_pos h]
theorem bsum_great {m : List Nat} (h : ¬ m.length ≤ 1073741824) : bsum m = hsumf (sqz (fun _ => 0) ((List.range 64).map fun _ => 0) 0 true) := by funext j; unfold bsum; rw [if_neg h]
end Go.Proofs.YthljakcegoohlaaDoor
namespace Go.Proofs.YthljakcegoohlaaDoor
open Go Go.RowKit
def bsl (l : List Nat) : List Nat := (List.range 32).map (bsum l)
theorem bsl_len (l : List Nat) : (bsl l).length = 32 := by simp [bsl]
theorem bsl_lt (l : List Nat) : ∀ b ∈ bsl l, b < 256 := range_lt fun _ _ => bsum_lt _ _
def xorl (l : List Nat) (c : Nat) : List Nat := l.map fun b => (b ^^^ c) % 256
theorem xorl_len (l : List Nat) (c : Nat) : (xorl l c).length = l.length := by simp [xorl]
theorem xorl_lt (l : List Nat) (c : Nat) : ∀ b ∈ xorl l c, b < 256 := fun b hb => by
  obtain ⟨x, _, rfl⟩ := List.mem_map.1 hb
  exact Nat.mod_lt _ (by decide)
def xst (l : List Nat) (c i : Nat) : List Nat := xorl (l.take i) c ++ l.drop i
theorem xst_zero (l : List Nat) (c : Nat) : l = xst l c 0 := by simp [xst, xorl]
theorem xst_len (l : List Nat) (c : Nat) {i : Nat} (h : i ≤ l.length) : (xst l c i).length = l.length := by simp [xst, xorl_len]; omega
theorem xst_next (l : List Nat) (c : Nat) {i : Nat} (h : i < l.length) : (xst l c i).set i (((xst l c i).getD i 0 ^^^ c) % 256) = xst l c (i + 1) := by
  have hl : (xorl (l.take i) c).length = i := by rw [xorl_len, List.length_take]; omega
  unfold xst
  rw [List.set_append_right _ _ (by omega), hl, Nat.sub_self, List.getD_eq_getElem?_getD, List.getElem?_append_right (by omega), hl, Nat.sub_self, List.drop_eq_getElem_cons h]
  simp only [List.set_cons_zero, List.getElem?_cons_zero, Option.getD_some]
  rw [List.take_succ_eq_append_getElem h, xorl, xorl, List.map_append]
  simp only [List.map_cons, List.map_nil, List.append_assoc, List.cons_append, List.nil_append]
theorem xst_all (l : List Nat) (c : Nat) : xst l c l.length = xorl l c := by simp [xst]
def mkey (k : List Nat) : List Nat := if 64 < k.length then bsl k else k
theorem mkey_le (k : List Nat) : (mkey k).length ≤ 64 := by unfold mkey; split <;> simp_all [bsl_len]
theorem mkey_lt {k : List Nat} (h : ∀ b ∈ k, b < 256) : ∀ b ∈ mkey k, b < 256 := by
  unfold mkey; split
  · exact bsl_lt k
  · exact h
def mpad (k : List Nat) : List Nat := mkey k ++ zrs (64 - (mkey k).length)
theorem mpad_len (k : List Nat) : (mpad k).length = 64 := by have := mkey_le k; simp [mpad, zrs_len]; omega
theorem mpad_lt {k : List Nat} (h : ∀ b ∈ k, b < 256) : ∀ b ∈ mpad k, b < 256 := fun b hb => by
  rcases List.mem_append.1 hb with hb | hb
  · exact mkey_lt h b hb
  · exact zrs_lt _ b hb
def mac (k s : List Nat) (j : Nat) : Nat := bsum (xorl (mpad k) 92 ++ bsl (xorl (mpad k) 54 ++ s)) j
theorem mac_lt (k s : List Nat) (j : Nat) : mac k s j < 256 := bsum_lt _ _
def macl (k s : List Nat) : List Nat := (List.range 32).map (mac k s)
theorem macl_len (k s : List Nat) : (macl k s).length = 32 := by simp [macl]
theorem macl_lt (k s : List Nat) : ∀ b ∈ macl k s, b < 256 := range_lt fun _ _ => mac_lt _ _ _
theorem nth_at {l : List Nat} {i : Nat} (h : i < l.length) : (l.map by8)[i]? = some (by8 (l.getD i 0)) := by
  rw [List.getElem?_map, List.getElem?_eq_getElem h, List.getD_eq_getElem?_getD, List.getElem?_eq_getElem h]; rfl
def thr3 (a b c : Nat → Nat) (t : Nat) : Nat := if t < 32 then a t else if t < 64 then b (t - 32) else c (t - 64)
def two2 (a b : Nat → Nat) (t : Nat) : Nat := if t < 32 then a t else b (t - 32)
def kT (c : Nat → Nat) (s : List Nat) : List Nat := macl ((List.range 32).map c) s
def kA (c : Nat → Nat) (s : List Nat) : Nat → Nat := mac (kT c s) [1]
def kB (c : Nat → Nat) (s : List Nat) : Nat → Nat := mac (kT c s) ((List.range 32).map (kA c s) ++ [2])
def kC (c : Nat → Nat) (s : List Nat) : Nat → Nat := mac (kT c s) ((List.range 32).map (kB c s) ++ [3])
theorem kT_lt (c : Nat → Nat) (s : List Nat) : ∀ b ∈ kT c s, b < 256 := macl_lt _ _
theorem kT_len (c : Nat → Nat) (s : List Nat) : (kT c s).length = 32 := macl_len _ _
theorem app_lt {l : List Nat} {x : Nat} (h : ∀ b ∈ l, b < 256) (hx : x < 256) : ∀ b ∈ l ++ [x], b < 256 := fun b hb => by
  rcases List.mem_append.1 hb with hb | hb
  · exact h b hb
  · simp at hb; omega
end Go.Proofs.YthljakcegoohlaaDoor
namespace Go.Proofs.YthljakcegoohlaaDoor
open Go Go.RowKit
abbrev cS (has : Bool) (k : Nat → Nat) (n : Nat) (ch h : Nat → Nat) : Array Value := cells 98 [pV (.bool has), pI .u8 32 k, pV (u n), pI .u8 32 ch, pI .u8 32 h]
abbrev SV (has : Bool) (k : Nat → Nat) (n : Nat) (ch h : Nat → Nat) : Value := .agg (cS has k n ch h)
def hx (h : Nat → Nat) (l : List Nat) : Nat → Nat := bsum ((List.range 32).map h ++ l)
theorem thr3_0 (a b c : Nat → Nat) : ∀ j, j < 32 → thr3 a b c (0 + j) = a j := fun j hj => by unfold thr3; rw [if_pos (by omega), Nat.zero_add]
theorem thr3_1 (a b c : Nat → Nat) : ∀ j, j < 32 → thr3 a b c (32 + j) = b j := fun j hj => by unfold thr3; rw [if_neg (by omega), if_pos (by omega), Nat.add_sub_cancel_left]
end Go.Proofs.YthljakcegoohlaaDoor
namespace Go.Proofs.YthljakcegoohlaaDoor
end Go.Proofs.YthljakcegoohlaaDoor
namespace Go.Proofs.YthljakcegoohlaaDoor
end Go.Proofs.YthljakcegoohlaaDoor
namespace Go.Proofs.YthljakcegoohlaaDoor
set_option maxHeartbeats 4000000
end Go.Proofs.YthljakcegoohlaaDoor
namespace Go.Proofs.YthljakcegoohlaaDoor
set_option maxHeartbeats 1000000
end Go.Proofs.YthljakcegoohlaaDoor
namespace Go.Proofs.YthljakcegoohlaaDoor
set_option maxHeartbeats 1000000
end Go.Proofs.YthljakcegoohlaaDoor
namespace Go.Proofs.YthljakcegoohlaaDoor
set_option maxHeartbeats 1000000
end Go.Proofs.YthljakcegoohlaaDoor
namespace Go.Proofs.YthljakcegoohlaaDoor
set_option maxHeartbeats 1000000
end Go.Proofs.YthljakcegoohlaaDoor
namespace Go.Proofs.YthljakcegoohlaaDoor
set_option maxHeartbeats 1000000
end Go.Proofs.YthljakcegoohlaaDoor
namespace Go.Proofs.YthljakcegoohlaaDoor
end Go.Proofs.YthljakcegoohlaaDoor
namespace Go.Proofs.YthljakcegoohlaaDoor
end Go.Proofs.YthljakcegoohlaaDoor
namespace Go.Proofs.YthljakcegoohlaaDoor
open Go
end Go.Proofs.YthljakcegoohlaaDoor
namespace Go.Proofs.YthljakcegoohlaaDoor
open Go Go.RowKit
end Go.Proofs.YthljakcegoohlaaDoor
namespace Go.Proofs.YthljakcegoohlaaDoor
open Go Go.RowKit
abbrev SY := Bool × (Nat → Nat) × Nat × (Nat → Nat) × (Nat → Nat)
abbrev RS := (Nat → Nat) × Bool × (Nat → Nat) × Bool × (Nat → Nat) × Bool
abbrev ky (f : Nat → Nat) : List Nat := (List.range 32).map f
def B32 (f : Nat → Nat) : Prop := ∀ j, j < 32 → f j < 256
def okY (y : SY) : Prop := B32 y.2.1 ∧ y.2.2.1 < 18446744073709551616 ∧ B32 y.2.2.2.1 ∧ B32 y.2.2.2.2
theorem okY_mk {has : Bool} {k : Nat → Nat} {n : Nat} {ch h : Nat → Nat} (hk : B32 k) (hn : n < 18446744073709551616) (hc : B32 ch) (hh : B32 h) : okY (has, k, n, ch, h) := ⟨hk, hn, hc, hh⟩
abbrev shP (b : List Nat) (l : Bool) (vp v0 v1 vt : Value) (fi : Bool) (tn : Int) (dd : Bool) (y : SY) (ow : Nat → Nat) (r : RS) (vk : Value) (us : Int) : List Part :=
  [pV (sv b), pV (.bool l), pV vp, pV v0, pV v1, pV vt, pV (.bool fi), pV (.int .i64 tn), pV (.bool dd), pV (.bool y.1), pI .u8 32 y.2.1, pV (u y.2.2.1), pI .u8 32 y.2.2.2.1, pI .u8 32 y.2.2.2.2, pI .u8 32 ow, pI .u8 32 r.1, pV (.bool r.2.1), pI .u8 32 r.2.2.1, pV (.bool r.2.2.2.1), pI .u8 32 r.2.2.2.2.1, pV (.bool r.2.2.2.2.2), pV vk, pV (.int .i64 us)]
abbrev shC (b : List Nat) (l : Bool) (vp v0 v1 vt : Value) (fi : Bool) (tn : Int) (dd : Bool) (y : SY) (ow : Nat → Nat) (r : RS) (vk : Value) (us : Int) : Array Value := cells 240 (shP b l vp v0 v1 vt fi tn dd y ow r vk us)
abbrev keyC (f : Nat → Nat) : List Value := (ky f).map by8
abbrev psC (ps : List (Nat → Nat)) : List Value := ps.flatMap keyC
end Go.Proofs.YthljakcegoohlaaDoor
namespace Go.Proofs.YthljakcegoohlaaDoor
open Go Go.RowKit
abbrev iv (z : Int) : Value := .int .i64 z
def ShowsLI (B : Mem) (vs : List Value) (ls : List (List Int)) : Prop := vs.length = ls.length ∧ ∀ i, i < ls.length → Shows B 1 (vs.getD i undef) (ls.getD i []).length ((ls.getD i []).map iv)
end Go.Proofs.YthljakcegoohlaaDoor
namespace Go.Proofs.YthljakcegoohlaaDoor
open Go.ChangeShapes Go.WideShapes Go.ChangeAt Go.RowKit
section
variable {H : Type} {enc : TypeId × Value → H} {P : Program} {n : Nat} {t e : TypeId} {k : IntKind}
theorem wf_u8 (z : Int) (h : (Lit.int .u8 z).wf = true) : 0 ≤ z ∧ z < (256 : Nat) := by
  simp [Lit.wf, IntKind.min, IntKind.max, IntKind.signed, IntKind.bits] at h
  omega
end
end Go.Proofs.YthljakcegoohlaaDoor
namespace Go.Proofs.YthljakcegoohlaaDoor
open Go Go.ChangeShapes Go.WideShapes Go.ChangeAt Go.RowKit
section
variable {H : Type} {enc : TypeId × Value → H} {P : Program} {t e : TypeId}
theorem row_of_cell {w : World} {b o : Nat} {u : Value} (h : w.cell? ⟨b, o, none⟩ = some u) : ∃ cs et fr, w.heap[b]? = some (.cells cs et fr) := by
  unfold World.cell? at h
  cases hb : w.heap[b]? with
  | none => simp [hb] at h
  | some ob => cases ob with
    | cells cs t fr => exact ⟨cs, t, fr, rfl⟩
    | _ => simp [hb] at h
theorem str_list (s : ByteArray) : ∃ l : List Nat, (∀ x ∈ l, x < 256) ∧ s = bstr l := by
  refine ⟨s.data.toList.map UInt8.toNat, fun x hx => ?_, ?_⟩
  · obtain ⟨b, _, rfl⟩ := List.mem_map.1 hx
    exact b.toNat_lt
  · unfold bstr
    rw [List.map_map]
    have : s.data.toList.map (UInt8.ofNat ∘ UInt8.toNat) = s.data.toList := by
      conv => rhs; rw [← List.map_id s.data.toList]
      exact List.map_congr_left fun b _ => by simp
    rw [this]
end
end Go.Proofs.YthljakcegoohlaaDoor
namespace Go.Proofs.YthljakcegoohlaaDoor
open Go Go.ChangeShapes Go.WideShapes Go.ChangeAt Go.RowKit
section
variable {P : Program} {t : TypeId}
theorem open_cells {W : World} {b0 : Nat} {v : Value} {ts : List TypeId} {fs : Array Field} (hT : P.underlying t = some (.struct fs)) (hct : P.cellTypes P.depth t = some ts) (hsz : P.cellsOf t = ts.length) (hval : Value.okWide P W .any b0 t v) :
    ∃ cs, v = .agg cs ∧ cs.size = ts.length ∧ ∀ (i : Nat) u, ts[i]? = some u → ∃ x, cs[i]? = some x ∧ Cell.okWide P W .any b0 u x := by
  unfold Value.okWide at hval
  rw [hT] at hval
  obtain ⟨cs, rfl, h1, ts', h2, _, h3⟩ := hval
  have e : ts' = ts := Option.some.inj (h2.symm.trans hct)
  subst e
  refine ⟨cs, rfl, h1.trans hsz, fun i u hi => ?_⟩
  have hlt : i < ts'.length := (List.getElem?_eq_some_iff.1 hi).1
  have hcs : i < cs.size := by omega
  obtain ⟨u', h4, h5⟩ := h3 i cs[i] (Array.getElem?_eq_getElem hcs)
  rw [Nat.mod_eq_of_lt hlt, hi] at h4
  injection h4 with h4
  subst h4
  exact ⟨_, Array.getElem?_eq_getElem hcs, h5⟩
theorem cell_int {W : World} {b0 : Nat} {u : TypeId} {x : Value} {k : IntKind} (hu : P.underlying u = some (.int k)) (h : Cell.okWide P W .any b0 u x) : ∃ z : Int, x = .int k z ∧ k.has z := by
  unfold Cell.okWide at h
  rw [hu] at h
  unfold Cell.ok at h
  rw [hu] at h
  cases x <;> simp_all
theorem cell_bool {W : World} {b0 : Nat} {u : TypeId} {x : Value} (hu : P.underlying u = some .bool) (h : Cell.okWide P W .any b0 u x) : ∃ b : Bool, x = .bool b := by
  unfold Cell.okWide at h
  rw [hu] at h
  unfold Cell.ok at h
  rw [hu] at h
  cases x <;> simp_all
theorem seg_nat {W : World} {b0 : Nat} {ts : List TypeId} {cs : Array Value} (hc : ∀ (i : Nat) u, ts[i]? = some u → ∃ x, cs[i]? = some x ∧ Cell.okWide P W .any b0 u x) (off len : Nat) {u : TypeId} {k : IntKind} {bound : Nat} (hu : P.underlying u = some (.int k)) (hb : ∀ z : Int, k.has z → 0 ≤ z ∧ z < bound) (hts : ∀ j, j < len → ts[off + j]? = some u) :
    ∃ f : Nat → Nat, (∀ j, j < len → cs[off + j]? = some (.int k (f j : Int))) ∧ ∀ j, j < len → f j < bound := by
  have key : ∀ j, j < len → ∃ z : Int, cs[off + j]? = some (.int k z) ∧ 0 ≤ z ∧ z < bound := fun j hj => by
    obtain ⟨x, h1, h2⟩ := hc _ _ (hts j hj)
    obtain ⟨z, rfl, h3⟩ := cell_int hu h2
    exact ⟨z, h1, hb z h3⟩
  refine ⟨fun j => match cs[off + j]? with
    | some (.int _ z) => z.toNat
    | _ => 0, fun j hj => ?_, fun j hj => ?_⟩
  · obtain ⟨z, h1, h2, _⟩ := key j hj
    simp only [h1]
    congr 2
    omega
  · obtain ⟨z, h1, h2, h3⟩ := key j hj
    simp only [h1]
    omega
theorem seg_int {W : World} {b0 : Nat} {ts : List TypeId} {cs : Array Value} (hc : ∀ (i : Nat) u, ts[i]? = some u → ∃ x, cs[i]? = some x ∧ Cell.okWide P W .any b0 u x) (off : Nat) {u : TypeId} {k : IntKind} (hu : P.underlying u = some (.int k)) (hts : ts[off]? = some u) :
    ∃ z : Int, (∀ j, j < 1 → cs[off + j]? = some (.int k z)) ∧ k.has z := by
  obtain ⟨x, h1, h2⟩ := hc _ _ hts
  obtain ⟨z, rfl, h3⟩ := cell_int hu h2
  exact ⟨z, fun j hj => by rw [show off + j = off by omega]; exact h1, h3⟩
theorem seg_bool {W : World} {b0 : Nat} {ts : List TypeId} {cs : Array Value} (hc : ∀ (i : Nat) u, ts[i]? = some u → ∃ x, cs[i]? = some x ∧ Cell.okWide P W .any b0 u x) (off : Nat) {u : TypeId} (hu : P.underlying u = some .bool) (hts : ts[off]? = some u) :
    ∃ b : Bool, ∀ j, j < 1 → cs[off + j]? = some (.bool b) := by
  obtain ⟨x, h1, h2⟩ := hc _ _ hts
  obtain ⟨b, rfl⟩ := cell_bool hu h2
  exact ⟨b, fun j hj => by rw [show off + j = off by omega]; exact h1⟩
def SegOk (cs : Array Value) : Nat → List Part → Prop
  | _, [] => True
  | off, p :: ps => (∀ j, j < p.1 → cs[off + j]? = some (p.2 j)) ∧ SegOk cs (off + p.1) ps
def total : List Part → Nat
  | [] => 0
  | p :: ps => p.1 + total ps
theorem seg_cat {cs : Array Value} : ∀ (ps : List Part) (off : Nat), SegOk cs off ps → ∀ i, i < total ps → cs[off + i]? = some (catF ps i)
  | [], _, _, i, hi => by simp [total] at hi
  | p :: ps, off, ⟨h1, h2⟩, i, hi => by
    simp only [catF]
    by_cases hp : i < p.1
    · rw [if_pos hp]; exact h1 i hp
    · rw [if_neg hp]
      have := seg_cat ps (off + p.1) h2 (i - p.1) (by simp only [total] at hi; omega)
      rw [show off + p.1 + (i - p.1) = off + i by omega] at this
      exact this
theorem cells_make {cs : Array Value} {N : Nat} {ps : List Part} (hs : cs.size = N) (ht : total ps = N) (h : SegOk cs 0 ps) : cs = cells N ps := by
  apply Array.ext_getElem?
  intro i
  by_cases hi : i < N
  · have := seg_cat ps 0 h i (by omega)
    rw [Nat.zero_add] at this
    rw [this, arrv_get hi]
  · rw [Array.getElem?_eq_none (by omega), Array.getElem?_eq_none (by rw [arrv_size]; omega)]
theorem has_u8 (z : Int) (h : IntKind.u8.has z) : 0 ≤ z ∧ z < (256 : Nat) := by
  simp [IntKind.has, IntKind.min, IntKind.max, IntKind.signed, IntKind.bits] at h
  omega
theorem has_u64 (z : Int) (h : IntKind.u64.has z) : 0 ≤ z ∧ z < (18446744073709551616 : Nat) := by
  simp [IntKind.has, IntKind.min, IntKind.max, IntKind.signed, IntKind.bits] at h
  omega
end
end Go.Proofs.YthljakcegoohlaaDoor
namespace Go.Proofs.YthljakcegoohlaaDoor
open Go Go.ChangeShapes Go.WideShapes Go.ChangeAt Go.RowKit
section
variable {H : Type} {enc : TypeId × Value → H} {P : Program} {t e : TypeId}
end
end Go.Proofs.YthljakcegoohlaaDoor
namespace Go.Proofs.YthljakcegoohlaaDoor
open Go Go.ChangeShapes Go.WideShapes Go.ChangeAt Go.RowKit
abbrev Dat := Nat
def repN (P : Program) (G : Mem) : Nat → TypeId → List Value → Prop
  | 0, _, _ => False
  | d + 1, t, cs => match P.underlying t with
    | some (.int k) => ∃ z, cs = [.int k z] ∧ (Lit.int k z).wf = true
    | some .bool => ∃ b, cs = [.bool b]
    | some .string => ∃ l : List Nat, cs = [sv l] ∧ (∀ b ∈ l, b < 256) ∧ l.length ≤ maxLen
    | some (.struct fs) => cs.length = P.cellsOf t ∧ ∀ (i : Nat) f, fs[i]? = some f → repN P G d f.type ((cs.drop f.offset).take (P.cellsOf f.type))
    | some (.array n e) => cs.length = P.cellsOf t ∧ ∀ i, i < n → repN P G d e ((cs.drop (i * P.cellsOf e)).take (P.cellsOf e))
    | some (.slice e) => ∃ v xs n, cs = [v] ∧ n ≤ maxLen ∧ Shows G (P.cellsOf e) v n xs ∧ ∀ i, i < n → repN P G d e ((xs.drop (i * P.cellsOf e)).take (P.cellsOf e))
    | _ => False
abbrev Rep (P : Program) (G : Mem) (t : TypeId) (cs : List Value) (d : Dat) : Prop := repN P G d t cs
section
variable {P : Program} {G : Mem}
theorem repN_mono {G' : Mem} (hs : ∀ x ∈ G, x ∈ G') : ∀ (d : Nat) {t : TypeId} {cs : List Value}, repN P G d t cs → repN P G' d t cs
  | 0, _, _, h => h
  | d + 1, t, cs, h => by
    unfold repN at h ⊢
    cases hu : P.underlying t with
    | none => rw [hu] at h; exact h
    | some td =>
      rw [hu] at h
      cases td with
      | struct fs => exact ⟨h.1, fun i f hf => repN_mono hs d (h.2 i f hf)⟩
      | array n e => exact ⟨h.1, fun i hi => repN_mono hs d (h.2 i hi)⟩
      | slice e =>
        obtain ⟨v, xs, n, h1, h2, h3, h4⟩ := h
        exact ⟨v, xs, n, h1, h2, h3.mono hs, fun i hi => repN_mono hs d (h4 i hi)⟩
      | _ => exact h
def closedT (P : Program) (L : List TypeId) : Bool := L.all fun t => match P.underlying t with
  | some (.int _) | some .bool | some .string => true
  | some (.struct fs) => fs.all fun f => L.contains f.type
  | some (.array _ e) => L.contains e
  | some (.slice e) => L.contains e && decide (0 < P.cellsOf e)
  | _ => false
theorem closed_at {L : List TypeId} (h : closedT P L = true) {t : TypeId} (ht : t ∈ L) : (match P.underlying t with
  | some (.int _) | some .bool | some .string => true
  | some (.struct fs) => fs.all fun f => L.contains f.type
  | some (.array _ e) => L.contains e
  | some (.slice e) => L.contains e && decide (0 < P.cellsOf e)
  | _ => false) = true := (List.all_eq_true.1 h) t ht
theorem rep_all {W : World} {n d : Nat} (T : Nat → TypeId) (C : Nat → List Value) (h : ∀ i, i < n → ∃ G, repN P G d (T i) (C i) ∧ MemR G W) : ∃ G : Mem, MemR G W ∧ ∀ i, i < n → repN P G d (T i) (C i) := by
  induction n with
  | zero => exact ⟨[], by simp [MemR], fun i hi => absurd hi (Nat.not_lt_zero i)⟩
  | succ n ih =>
    obtain ⟨G, h2, h3⟩ := ih fun i hi => h i (by omega)
    obtain ⟨G', h4, h5⟩ := h n (by omega)
    refine ⟨G ++ G', fun x hx => (List.mem_append.1 hx).elim (h2 x) (h5 x), fun i hi => ?_⟩
    by_cases hin : i < n
    · exact repN_mono (fun x hx => List.mem_append_left _ hx) d (h3 i hin)
    · obtain rfl : i = n := by omega
      exact repN_mono (fun x hx => List.mem_append_right _ hx) d h4
variable {H : Type} {enc : TypeId × Value → H}
theorem rep_trod {W : World} {base : Nat} {s : Nat → Bool} {held : Bool} {L : List TypeId} (hL : closedT P L = true) : ∀ (fuel : Nat) (t : TypeId) (cs : List Value) (x : DataW H × List MemPlace), t ∈ L → DataW.trod enc P W base s held fuel t cs = some x → ∃ G, repN P G fuel t cs ∧ MemR G W := by
  intro fuel
  induction fuel with
  | zero => intro t cs x _ h; simp [DataW.trod] at h
  | succ m ih =>
    intro t cs x ht h
    have hc := closed_at hL ht
    cases hu : P.underlying t with
    | none => rw [hu] at hc; cases hc
    | some td =>
      rw [hu] at hc
      cases td with
      | int k =>
        obtain ⟨z, rfl, _, hw⟩ := DataW.trod_int hu h
        exact ⟨[], by unfold repN; rw [hu]; exact ⟨z, rfl, hw⟩, by simp [MemR]⟩
      | bool =>
        obtain ⟨b, rfl, _⟩ := DataW.trod_bool hu h
        exact ⟨[], by unfold repN; rw [hu]; exact ⟨b, rfl⟩, by simp [MemR]⟩
      | string =>
        obtain ⟨b, rfl, _, hm⟩ := DataW.trod_string hu h
        obtain ⟨l, hl, rfl⟩ := str_list b
        exact ⟨[], by unfold repN; rw [hu]; exact ⟨l, rfl, hl, by rw [← bstr_size]; exact hm⟩, by simp [MemR]⟩
      | struct fs =>
        obtain ⟨xs, m', e1, _, hlen, hn, hel⟩ := DataW.trod_struct hu h
        have e1 : m = m' := by omega
        subst e1
        obtain ⟨G, h2, h3⟩ := rep_all (P := P) (W := W) (n := fs.size) (d := m) (fun i => (fs[i]?.map (·.type)).getD 0) (fun i => match fs[i]? with
          | some f => (cs.drop f.offset).take (P.cellsOf f.type)
          | none => []) fun i hi => by
            have hf : fs[i]? = some fs[i] := Array.getElem?_eq_getElem hi
            have := hel i fs[i] hf
            rw [List.getElem?_eq_getElem (by omega)] at this
            have hmem : fs[i].type ∈ L := by
              have := (Array.all_eq_true.1 hc) i hi
              simpa using this
            simp only [hf, Option.map_some, Option.getD_some]
            exact ih _ _ _ hmem this
        refine ⟨G, ?_, h2⟩
        unfold repN
        rw [hu]
        refine ⟨hlen, fun i f hf => ?_⟩
        have := h3 i (Array.getElem?_eq_some_iff.1 hf).1
        simp only [hf, Option.map_some, Option.getD_some] at this
        exact this
      | array n e =>
        obtain ⟨xs, m', e1, _, hlen, hn, hel⟩ := DataW.trod_array hu h
        have e1 : m = m' := by omega
        subst e1
        have hmem : e ∈ L := by simpa using hc
        obtain ⟨G, h2, h3⟩ := rep_all (P := P) (W := W) (n := n) (d := m) (fun _ => e) (fun i => (cs.drop (i * P.cellsOf e)).take (P.cellsOf e)) fun i hi => by
          have := hel i hi
          rw [List.getElem?_eq_getElem (by omega)] at this
          exact ih _ _ _ hmem this
        refine ⟨G, ?_, h2⟩
        unfold repN
        rw [hu]
        exact ⟨hlen, h3⟩
      | slice e =>
        have hc : (L.contains e && decide (0 < P.cellsOf e)) = true := hc
        rw [Bool.and_eq_true, decide_eq_true_eq] at hc
        have hmem : e ∈ L := by simpa using hc.1
        have hz := hc.2
        rcases DataW.trod_slice hu h with ⟨rfl, _⟩ | ⟨a, len, cap, elems, rest, m', e1, rfl, _, hb, hl, hm, hlen, hel, _, _⟩
        · exact ⟨[], by unfold repN; rw [hu]; exact ⟨_, [], 0, rfl, by simp [maxLen], .inl ⟨rfl, rfl, none, 0, rfl, fun _ => rfl⟩, fun i hi => absurd hi (Nat.not_lt_zero i)⟩, by simp [MemR]⟩
        have e1 : m = m' := by omega
        subst e1
        obtain ⟨z, hze⟩ : ∃ z, z = P.cellsOf e := ⟨_, rfl⟩
        rw [← hze] at hz hel
        have hE : ∀ i, i < len → ∃ ci y, W.cells? base (a.add (i * z)) z = some ci ∧ DataW.trod enc P W base s held m e ci = some y := fun i hi => by
          have := hel i hi
          rw [List.getElem?_eq_getElem (by omega)] at this
          cases hcc : W.cells? base (a.add (i * z)) z with
          | none => rw [hcc] at this; cases this
          | some ci => rw [hcc] at this; exact ⟨ci, _, rfl, this⟩
        by_cases h0 : len = 0
        · subst h0
          exact ⟨[], by unfold repN; rw [hu]; exact ⟨_, [], 0, rfl, by simp [maxLen], .inl ⟨rfl, rfl, some a, cap, rfl, fun h => by cases h⟩, fun i hi => absurd hi (Nat.not_lt_zero i)⟩, by simp [MemR]⟩
        obtain ⟨c0, y0, hc0, _⟩ := hE 0 (by omega)
        obtain ⟨b, off, spot⟩ := a
        have hg0 := (World.cells?_some hc0).2.2 0 hz
        have hl0 := (World.cells?_some hc0).2.1
        rw [List.getElem?_eq_getElem (by omega)] at hg0
        have hspot : spot = none := by simpa [Addr.add] using World.cell?_spot hg0
        subst hspot
        obtain ⟨cs0, et, fr, hbk⟩ := row_of_cell (b := b) (o := off) (by simpa [Addr.add] using hg0)
        have hcl : ∀ o, W.cell? ⟨b, o, none⟩ = cs0[o]? := fun o => by simp [World.cell?, hbk]
        have hadd : ∀ i r, (Addr.add (Addr.add ⟨b, off, none⟩ (i * z)) r) = ⟨b, off + (i * z + r), none⟩ := fun i r => by
          rw [Go.WideShapes.add_plain, Go.WideShapes.add_plain, Nat.add_assoc]
        have hcell : ∀ i, i < len → ∀ ci, W.cells? base (Addr.add ⟨b, off, none⟩ (i * z)) z = some ci → ∀ r, r < z → cs0[off + (i * z + r)]? = ci[r]? := fun i _ ci hci r hr => by
          rw [← hcl, ← hadd i r]
          exact (World.cells?_some hci).2.2 r hr
        have hbound : off + len * z ≤ cs0.size := by
          obtain ⟨ci, y, hci, _⟩ := hE (len - 1) (by omega)
          have h1 := hcell (len - 1) (by omega) ci hci (z - 1) (by omega)
          rw [List.getElem?_eq_getElem (by have := (World.cells?_some hci).2.1; omega)] at h1
          have h2 := (Array.getElem?_eq_some_iff.1 h1).1
          have h3 : (len - 1) * z + z = len * z := by rw [← Nat.succ_mul]; congr 1; omega
          omega
        obtain ⟨xs, hxs⟩ : ∃ xs, xs = (cs0.toList.drop off).take (len * z) := ⟨_, rfl⟩
        have hxl : xs.length = len * z := by rw [hxs]; simp; omega
        have hxj : ∀ j, j < len * z → xs[j]? = cs0[off + j]? := fun j hj => by rw [hxs, List.getElem?_take_of_lt hj, List.getElem?_drop]; simp
        obtain ⟨G, h2, h3⟩ := rep_all (P := P) (W := W) (n := len) (d := m) (fun _ => e) (fun i => (xs.drop (i * z)).take z) fun i hi => by
          obtain ⟨ci, y, hci, hy⟩ := hE i hi
          have hcl2 := (World.cells?_some hci).2.1
          have hle : i * z + z ≤ len * z := by rw [← Nat.succ_mul]; exact Nat.mul_le_mul_right _ hi
          have : (xs.drop (i * z)).take z = ci := by
            apply List.ext_getElem?
            intro r
            by_cases hr : r < z
            · rw [List.getElem?_take_of_lt hr, List.getElem?_drop, hxj _ (by omega)]
              exact hcell i hi ci hci r hr
            · rw [List.getElem?_eq_none (by rw [List.length_take]; omega), List.getElem?_eq_none (by omega)]
          rw [this]
          exact ih _ _ _ hmem hy
        refine ⟨⟨b, cs0, et⟩ :: G, ?_, fun x hx => ?_⟩
        · unfold repN
          rw [hu]
          refine ⟨_, xs, len, rfl, by omega, .inr ⟨b, off, cap, cs0, et, rfl, by omega, List.mem_cons_self, by rw [← hze]; exact hxl, by rw [← hze]; exact hbound, fun j u hj => ?_⟩, fun i hi => ?_⟩
          · rw [← hxj j (by rw [← hxl]; exact (List.getElem?_eq_some_iff.1 hj).1)]; exact hj
          · rw [← hze]
            exact repN_mono (fun x hx => List.mem_cons_of_mem _ hx) m (h3 i hi)
        · rcases List.mem_cons.1 hx with rfl | hx
          · exact ⟨(Array.getElem?_eq_some_iff.1 hbk).1, fun o _ => hcl o⟩
          · exact h2 x hx
      | _ => cases hc
theorem rep_open {W : World} {base : Nat} {s : Nat → Bool} {held : Bool} {t : TypeId} {v : Value} {d : DataW H} {ps : List MemPlace} (L : List TypeId) (hL : closedT P L = true) (ht : t ∈ L) (hd : DataW.Trod enc P W base s held t v d ps) : ∃ x G, Rep P G t v.cells.toList x ∧ MemR G W := by
  obtain ⟨fuel, hf⟩ := hd
  exact ⟨fuel, rep_trod hL fuel t _ _ ht hf⟩
end
end Go.Proofs.YthljakcegoohlaaDoor
namespace Go.Proofs.YthljakcegoohlaaDoor
open Go Go.ChangeShapes Go.WideShapes Go.ChangeAt Go.RowKit
structure RawT where
  a : Int
  b : Int
  c : Int
  t : List Nat
section
variable {P : Program} {G : Mem}
theorem rep_int {t : TypeId} {cs : List Value} {d : Dat} {k : IntKind} (hu : P.underlying t = some (.int k)) (h : Rep P G t cs d) : ∃ z, cs = [.int k z] ∧ (Lit.int k z).wf = true := by
  cases d with
  | zero => exact h.elim
  | succ d => unfold Rep repN at h; rw [hu] at h; exact h
theorem rep_bool {t : TypeId} {cs : List Value} {d : Dat} (hu : P.underlying t = some .bool) (h : Rep P G t cs d) : ∃ b, cs = [.bool b] := by
  cases d with
  | zero => exact h.elim
  | succ d => unfold Rep repN at h; rw [hu] at h; exact h
theorem rep_str {t : TypeId} {cs : List Value} {d : Dat} (hu : P.underlying t = some .string) (h : Rep P G t cs d) : ∃ l : List Nat, cs = [sv l] ∧ (∀ b ∈ l, b < 256) ∧ l.length ≤ maxLen := by
  cases d with
  | zero => exact h.elim
  | succ d => unfold Rep repN at h; rw [hu] at h; exact h
theorem rep_struct {t : TypeId} {cs : List Value} {d : Dat} {fs : Array Field} (hu : P.underlying t = some (.struct fs)) (h : Rep P G t cs d) : ∃ d', cs.length = P.cellsOf t ∧ ∀ (i : Nat) f, fs[i]? = some f → Rep P G f.type ((cs.drop f.offset).take (P.cellsOf f.type)) d' := by
  cases d with
  | zero => exact h.elim
  | succ d => unfold Rep repN at h; rw [hu] at h; exact ⟨d, h⟩
theorem rep_slice {t e : TypeId} {cs : List Value} {d : Dat} (hu : P.underlying t = some (.slice e)) (h : Rep P G t cs d) : ∃ d' v xs n, cs = [v] ∧ n ≤ maxLen ∧ Shows G (P.cellsOf e) v n xs ∧ ∀ i, i < n → Rep P G e ((xs.drop (i * P.cellsOf e)).take (P.cellsOf e)) d' := by
  cases d with
  | zero => exact h.elim
  | succ d => unfold Rep repN at h; rw [hu] at h; exact ⟨d, h⟩
theorem rep_elems {α : Type} {e : TypeId} {z n : Nat} {d : Dat} (C : α → List Value) (Q : α → Prop) {xs : List Value} (hx : xs.length = n * z) (hE : ∀ cs d, Rep P G e cs d → ∃ x, cs = C x ∧ Q x)
    (he : ∀ i, i < n → Rep P G e ((xs.drop (i * z)).take z) d) : ∃ rs : List α, rs.length = n ∧ xs = rs.flatMap C ∧ ∀ r ∈ rs, Q r := by
  induction n generalizing xs with
  | zero => exact ⟨[], rfl, by simpa using hx, by simp⟩
  | succ m ih =>
    have h0 := he 0 (by omega)
    rw [Nat.zero_mul, List.drop_zero] at h0
    obtain ⟨r, hr, hq⟩ := hE _ _ h0
    obtain ⟨rs, h1, h2, h3⟩ := ih (xs := xs.drop z) (by rw [List.length_drop, hx, Nat.succ_mul]; omega) fun i hi => by
      have := he (i + 1) (by omega)
      rw [List.drop_drop, show z + i * z = (i + 1) * z by rw [Nat.succ_mul]; omega]
      exact this
    refine ⟨r :: rs, by simp [h1], ?_, fun x hx' => ?_⟩
    · rw [List.flatMap_cons, ← h2, ← hr, List.take_append_drop]
    · rcases List.mem_cons.1 hx' with rfl | hx'
      · exact hq
      · exact h3 x hx'
end
section
variable {P : Program} {H : Type} {enc : TypeId × Value → H}
end
end Go.Proofs.YthljakcegoohlaaDoor
namespace Go.Proofs.YthljakcegoohlaaDoor
open Go Go.ChangeShapes Go.WideShapes Go.ChangeAt Go.RowKit
section
variable {P : Program} {G : Mem}
theorem rep_array {t e : TypeId} {n : Nat} {cs : List Value} {d : Dat} (hu : P.underlying t = some (.array n e)) (h : Rep P G t cs d) : ∃ d', cs.length = P.cellsOf t ∧ ∀ i, i < n → Rep P G e ((cs.drop (i * P.cellsOf e)).take (P.cellsOf e)) d' := by
  cases d with
  | zero => exact h.elim
  | succ d => unfold Rep repN at h; rw [hu] at h; exact ⟨d, h⟩
theorem flat_one {α : Type} (f : α → Value) : ∀ l : List α, l.flatMap (fun z => [f z]) = l.map f
  | [] => rfl
  | x :: l => by rw [List.flatMap_cons, flat_one f l]; rfl
theorem rep_ints {t e : TypeId} {cs : List Value} {d : Dat} (hu : P.underlying t = some (.slice e)) (he : P.underlying e = some (.int .i64)) (hc : P.cellsOf e = 1) (h : Rep P G t cs d) : ∃ v, ∃ l : List Int, cs = [v] ∧ Shows G 1 v l.length (l.map iv) ∧ l.length ≤ maxLen ∧ ∀ z ∈ l, (Lit.int .i64 z).wf = true := by
  obtain ⟨d', v, xs, n, rfl, hm, hv, hE⟩ := rep_slice hu h
  rw [hc] at hv hE
  obtain ⟨l, h1, rfl, h3⟩ := rep_elems (fun z => [iv z]) (fun z => (Lit.int .i64 z).wf = true) hv.len (fun cs d h => by
    obtain ⟨z, h1, h2⟩ := rep_int he h
    exact ⟨z, h1, h2⟩) hE
  rw [← h1, flat_one] at hv
  exact ⟨v, l, rfl, hv, by omega, h3⟩
theorem rep_intss {t s e : TypeId} {cs : List Value} {d : Dat} (hu : P.underlying t = some (.slice s)) (hs : P.underlying s = some (.slice e)) (he : P.underlying e = some (.int .i64)) (hcs : P.cellsOf s = 1) (hc : P.cellsOf e = 1) (h : Rep P G t cs d) : ∃ v vs ls, cs = [v] ∧ Shows G 1 v vs.length vs ∧ ShowsLI G vs ls ∧ vs.length ≤ maxLen ∧ ∀ q ∈ ls, q.length ≤ maxLen := by
  obtain ⟨d', v, xs, n, rfl, hm, hv, hE⟩ := rep_slice hu h
  rw [hcs] at hv hE
  obtain ⟨l, h1, rfl, h3⟩ := rep_elems (fun p : Value × List Int => [p.1]) (fun p => Shows G 1 p.1 p.2.length (p.2.map iv) ∧ p.2.length ≤ maxLen) hv.len (fun cs d h => by
    obtain ⟨w, q, h1, h2, h3, _⟩ := rep_ints hs he hc h
    exact ⟨(w, q), h1, h2, h3⟩) hE
  rw [flat_one (fun p : Value × List Int => p.1)] at hv
  refine ⟨v, l.map (·.1), l.map (·.2), rfl, by rw [List.length_map, h1]; exact hv, ⟨by simp, fun i hi => ?_⟩, by rw [List.length_map]; omega, fun q hq => by obtain ⟨x, hx, rfl⟩ := List.mem_map.1 hq; exact (h3 x hx).2⟩
  have hi' : i < l.length := by simpa using hi
  have := (h3 l[i] (List.getElem_mem hi')).1
  simpa [List.getD_eq_getElem?_getD, hi'] using this
theorem rep_pat {t ar sl ss e : TypeId} {cs : List Value} {d : Dat} {f0 f1 f2 f3 f4 : Field} (ht : P.underlying t = some (.struct #[f0, f1, f2, f3, f4])) (hc : P.cellsOf t = 6)
    (o0 : f0.offset = 0) (o1 : f1.offset = 1) (o2 : f2.offset = 2) (o3 : f3.offset = 3) (o4 : f4.offset = 5) (t2 : f2.type = sl) (t3 : f3.type = ar) (t4 : f4.type = ss) (u0 : P.underlying f0.type = some .string) (u1 : P.underlying f1.type = some .bool) (u2 : P.underlying sl = some (.slice e)) (u3 : P.underlying ar = some (.array 2 sl)) (u4 : P.underlying ss = some (.slice sl)) (u5 : P.underlying e = some (.int .i64))
    (c0 : P.cellsOf f0.type = 1) (c1 : P.cellsOf f1.type = 1) (c2 : P.cellsOf sl = 1) (c3 : P.cellsOf ar = 2) (c4 : P.cellsOf ss = 1) (c5 : P.cellsOf e = 1) (h : Rep P G t cs d) :
    ∃ (base : List Nat) (late : Bool) (vp v0 v1 vt : Value) (ps p0 p1 : List Int) (tvs : List Value) (ts : List (List Int)), cs = [sv base, .bool late, vp, v0, v1, vt] ∧ (∀ b ∈ base, b < 256) ∧ base.length ≤ maxLen ∧ (Shows G 1 vp ps.length (ps.map iv) ∧ ps.length ≤ maxLen) ∧ Shows G 1 vt tvs.length tvs ∧ (ShowsLI G (v0 :: v1 :: tvs) (p0 :: p1 :: ts) ∧ tvs.length ≤ maxLen ∧ ∀ q ∈ p0 :: p1 :: ts, q.length ≤ maxLen) := by
  obtain ⟨d', hl, he⟩ := rep_struct ht h
  rw [hc] at hl
  match cs, hl with
  | [w0, w1, w2, w3, w4, w5], _ =>
    have e0 := he 0 f0 rfl
    have e1 := he 1 f1 rfl
    have e2 := he 2 f2 rfl
    have e3 := he 3 f3 rfl
    have e4 := he 4 f4 rfl
    rw [o0, c0] at e0
    rw [o1, c1] at e1
    rw [o2, t2, c2] at e2
    rw [o3, t3, c3] at e3
    rw [o4, t4, c4] at e4
    obtain ⟨base, h0, hb, hm⟩ := rep_str u0 e0
    obtain ⟨late, h1⟩ := rep_bool u1 e1
    obtain ⟨vp, ps, h2, hp, hpm, _⟩ := rep_ints u2 u5 c5 e2
    obtain ⟨vt, tvs, ts, h4, hvt, hT, hTm, hTq⟩ := rep_intss u4 u2 u5 c2 c5 e4
    obtain ⟨d2, _, hee⟩ := rep_array u3 e3
    rw [c2] at hee
    obtain ⟨v0, p0, h5, hv0, hm0, _⟩ := rep_ints u2 u5 c5 (hee 0 (by decide))
    obtain ⟨v1, p1, h6, hv1, hm1, _⟩ := rep_ints u2 u5 c5 (hee 1 (by decide))
    simp at h0 h1 h2 h4 h5 h6
    refine ⟨base, late, vp, v0, v1, vt, ps, p0, p1, tvs, ts, by rw [h0, h1, h2, h4, h5, h6], hb, hm, ⟨hp, hpm⟩, hvt, ⟨by simp [hT.1], fun i hi => ?_⟩, hTm, fun q hq => ?_⟩
    case refine_2 =>
      rcases List.mem_cons.1 hq with rfl | hq
      · exact hm0
      rcases List.mem_cons.1 hq with rfl | hq
      · exact hm1
      · exact hTq q hq
    match i with
    | 0 => exact hv0
    | 1 => exact hv1
    | i + 2 => exact hT.2 i (by simpa using hi)
end
section
variable {P : Program} {H : Type} {enc : TypeId × Value → H}
end
end Go.Proofs.YthljakcegoohlaaDoor
namespace Go.Proofs.YthljakcegoohlaaDoor
open Go Go.RowKit
end Go.Proofs.YthljakcegoohlaaDoor
namespace Go.Proofs.YthljakcegoohlaaDoor
open Go Go.RowKit
end Go.Proofs.YthljakcegoohlaaDoor
namespace Go.Proofs.YthljakcegoohlaaDoor
open Go Go.RowKit
end Go.Proofs.YthljakcegoohlaaDoor
namespace Go.Proofs.YthljakcegoohlaaDoor
open Go Go.RowKit
end Go.Proofs.YthljakcegoohlaaDoor
namespace Go.Proofs.YthljakcegoohlaaDoor
open Go Go.RowKit
end Go.Proofs.YthljakcegoohlaaDoor
namespace Go.Proofs.YthljakcegoohlaaDoor
open Go Go.RowKit
end Go.Proofs.YthljakcegoohlaaDoor
namespace Go.Proofs.YthljakcegoohlaaDoor
open Go Go.RowKit
end Go.Proofs.YthljakcegoohlaaDoor
namespace Go.Proofs.YthljakcegoohlaaDoor
open Go Go.RowKit
end Go.Proofs.YthljakcegoohlaaDoor
namespace Go.Proofs.YthljakcegoohlaaDoor
open Go Go.RowKit
end Go.Proofs.YthljakcegoohlaaDoor
namespace Go.Proofs.YthljakcegoohlaaDoor
open Go Go.RowKit
def hW (l : List Nat) (k : Nat) : Nat := (l.getD k 0 * 637696617 + l.getD (k + 1) 0 * 16777619 + l.getD (k + 2) 0) % 4294967296
end Go.Proofs.YthljakcegoohlaaDoor
namespace Go.Proofs.YthljakcegoohlaaDoor
open Go Go.RowKit
end Go.Proofs.YthljakcegoohlaaDoor
namespace Go.Proofs.YthljakcegoohlaaDoor
open Go Go.RowKit
section
variable {P : Program} {G : Mem} {R : Reg} {M : Mm}
end
end Go.Proofs.YthljakcegoohlaaDoor
namespace Go.Proofs.YthljakcegoohlaaDoor
open Go Go.RowKit
end Go.Proofs.YthljakcegoohlaaDoor
namespace Go.Proofs.YthljakcegoohlaaDoor
open Go Go.RowKit
end Go.Proofs.YthljakcegoohlaaDoor
namespace Go.Proofs.YthljakcegoohlaaDoor
open Go Go.RowKit
end Go.Proofs.YthljakcegoohlaaDoor
namespace Go.Proofs.YthljakcegoohlaaDoor
open Go Go.RowKit
end Go.Proofs.YthljakcegoohlaaDoor
namespace Go.Proofs.YthljakcegoohlaaDoor
open Go Go.RowKit
theorem in1 {x : Blk} {G : Mem} (h : x ∈ G) : ∀ z ∈ x :: G, z ∈ G := fun z hz => by
  rcases List.mem_cons.1 hz with rfl | hz
  · exact h
  · exact hz
abbrev SVy (y : SY) : Value := SV y.1 y.2.1 y.2.2.1 y.2.2.2.1 y.2.2.2.2
def doneP (dd : Bool) (n : Nat) (tn : Int) : Bool := !dd && decide ((n : Int) ≤ tn)
end Go.Proofs.YthljakcegoohlaaDoor
namespace Go.Proofs.YthljakcegoohlaaDoor
open Go Go.RowKit
end Go.Proofs.YthljakcegoohlaaDoor
namespace Go.Proofs.YthljakcegoohlaaDoor
open Go Go.RowKit
abbrev f3 (x : Nat) : Value := .agg (arr .u64 3 (wd x))
end Go.Proofs.YthljakcegoohlaaDoor
namespace Go.Proofs.YthljakcegoohlaaDoor
open Go Go.RowKit
def catEq : List Part → List Part → Prop
  | [], [] => True
  | p :: ps, q :: qs => p.1 = q.1 ∧ (∀ i, i < p.1 → p.2 i = q.2 i) ∧ catEq ps qs
  | _, _ => False
theorem catF_congr : ∀ {ps qs : List Part}, catEq ps qs → ∀ i, catF ps i = catF qs i
  | [], [], _, _ => rfl
  | p :: ps, q :: qs, ⟨h1, h2, h3⟩, i => by
    simp only [catF]
    rw [← h1]
    by_cases h : i < p.1
    · rw [if_pos h, if_pos h, h2 i h]
    · rw [if_neg h, if_neg h, catF_congr h3]
theorem cells_congr {N : Nat} {ps qs : List Part} (h : catEq ps qs) : cells N ps = cells N qs := by
  unfold cells
  rw [funext (catF_congr h)]
end Go.Proofs.YthljakcegoohlaaDoor
namespace Go.Proofs.YthljakcegoohlaaDoor
open Go Go.RowKit
section
variable {r a : Nat → Nat} {n : Int}
end
end Go.Proofs.YthljakcegoohlaaDoor
namespace Go.Proofs.YthljakcegoohlaaDoor
open Go Go.RowKit
end Go.Proofs.YthljakcegoohlaaDoor
namespace Go.Proofs.YthljakcegoohlaaDoor
open Go Go.RowKit
theorem words_step {f s : Nat → Nat} {i : Nat} (hf : ∀ j, j < 64 → f j < 256) (hi : i < 64) (hs : ∀ t, t < 16 → s t = pw f i t) :
    ∀ t, t < 16 → upd s (i / 4) ((s (i / 4) ||| (f i * 2 ^ (i % 4 * 8)) % 4294967296) % 4294967296) t = pw f (i + 1) t := fun t ht => by
  rw [hs _ (by omega), pw_step (hf i hi) (fun j hj => hf j (by omega))]
  unfold upd
  by_cases h : t = i / 4
  · rw [if_pos h, h]
  · rw [if_neg h, hs t ht, pw_other h]
theorem cut4 (f : Nat → Nat) {t : Nat} (ht : t < 16) : (((List.range 64).map f).drop (4 * t)).take 4 = [f (4 * t), f (4 * t + 1), f (4 * t + 2), f (4 * t + 3)] := by
  apply List.ext_getElem
  · simp; omega
  · intro j h1 h2
    simp only [List.getElem_take, List.getElem_drop, List.getElem_map, List.getElem_range]
    simp only [List.length_cons, List.length_nil] at h2
    rcases (by omega : j = 0 ∨ j = 1 ∨ j = 2 ∨ j = 3) with rfl | rfl | rfl | rfl <;> rfl
theorem words_all (f : Nat → Nat) : ∀ t, t < 16 → pw f 64 t = wrd ((List.range 64).map f) t := fun t ht => by
  unfold wrd
  rw [cut4 f ht, le4, pw_full (by omega)]
def mst (f : Nat → Nat) (a b c d x y : Nat) : Nat → Nat :=
  let f1 := upd f a ((f a + (f b + x) % 4294967296) % 4294967296)
  let f2 := upd f1 d (rotl ((f1 d ^^^ f1 a) % 4294967296) 16)
  let f3 := upd f2 c ((f2 c + f2 d) % 4294967296)
  let f4 := upd f3 b (rotl ((f3 b ^^^ f3 c) % 4294967296) 20)
  let f5 := upd f4 a ((f4 a + (f4 b + y) % 4294967296) % 4294967296)
  let f6 := upd f5 d (rotl ((f5 d ^^^ f5 a) % 4294967296) 24)
  let f7 := upd f6 c ((f6 c + f6 d) % 4294967296)
  upd f7 b (rotl ((f7 b ^^^ f7 c) % 4294967296) 25)
def mat (f : Nat → Nat) (a b c d x y t : Nat) : Nat :=
  let q := bq (f a) (f b) (f c) (f d) x y
  if t = a then q.1 else if t = b then q.2.1 else if t = c then q.2.2.1 else if t = d then q.2.2.2 else f t
theorem mst_eqs {s : Nat → Nat} {a b c d x y q1 q2 q3 q4 q5 q6 q7 q8 : Nat} (ab : a ≠ b) (ac : a ≠ c) (ad : a ≠ d) (bc : b ≠ c) (bd : b ≠ d) (cd : c ≠ d) (h1 : q1 = (s a + (s b + x) % 4294967296) % 4294967296)
    (h2 : q2 = rotl ((upd s a q1 d ^^^ upd s a q1 a) % 4294967296) 16)
    (h3 : q3 = (upd (upd s a q1) d q2 c + upd (upd s a q1) d q2 d) % 4294967296)
    (h4 : q4 = rotl ((upd (upd (upd s a q1) d q2) c q3 b ^^^ upd (upd (upd s a q1) d q2) c q3 c) % 4294967296) 20)
    (h5 : q5 = (upd (upd (upd (upd s a q1) d q2) c q3) b q4 a + (upd (upd (upd (upd s a q1) d q2) c q3) b q4 b + y) % 4294967296) % 4294967296)
    (h6 : q6 = rotl ((upd (upd (upd (upd (upd s a q1) d q2) c q3) b q4) a q5 d ^^^ upd (upd (upd (upd (upd s a q1) d q2) c q3) b q4) a q5 a) % 4294967296) 24)
    (h7 : q7 = (upd (upd (upd (upd (upd (upd s a q1) d q2) c q3) b q4) a q5) d q6 c + upd (upd (upd (upd (upd (upd s a q1) d q2) c q3) b q4) a q5) d q6 d) % 4294967296)
    (h8 : q8 = rotl ((upd (upd (upd (upd (upd (upd (upd s a q1) d q2) c q3) b q4) a q5) d q6) c q7 b ^^^ upd (upd (upd (upd (upd (upd (upd s a q1) d q2) c q3) b q4) a q5) d q6) c q7 c) % 4294967296) 25) :
    upd (upd (upd (upd (upd (upd (upd (upd s a q1) d q2) c q3) b q4) a q5) d q6) c q7) b q8 = mat s a b c d x y := by
  have ba := ab.symm
  have ca := ac.symm
  have da := ad.symm
  have cb := bc.symm
  have db := bd.symm
  have dc := cd.symm
  simp only [updS, updN _ _ ab, updN _ _ ac, updN _ _ ad, updN _ _ bc, updN _ _ bd, updN _ _ cd, updN _ _ ba, updN _ _ ca, updN _ _ da, updN _ _ cb, updN _ _ db, updN _ _ dc] at h1 h2 h3 h4 h5 h6 h7 h8
  have eA : (bq (s a) (s b) (s c) (s d) x y) = (q5, q8, q7, q6) := by
    unfold bq
    simp only
    rw [← h1, ← h2, ← h3, ← h4, ← h5, ← h6, ← h7, ← h8]
  funext t
  unfold mat
  rw [eA]
  by_cases ha : t = a
  · subst ha
    simp only [updS, updN _ _ ab, updN _ _ ac, updN _ _ ad, if_pos]
  · by_cases hb : t = b
    · subst hb
      simp only [updS, if_neg ha, if_pos]
    · by_cases hc : t = c
      · subst hc
        simp only [updS, updN _ _ cb, if_neg ha, if_neg hb, if_pos]
      · by_cases hd : t = d
        · subst hd
          simp only [updS, updN _ _ db, updN _ _ dc, if_neg ha, if_neg hb, if_neg hc, if_pos]
        · simp only [if_neg ha, if_neg hb, if_neg hc, if_neg hd, updN _ _ ha, updN _ _ hb, updN _ _ hc, updN _ _ hd]
theorem mst_mat (f : Nat → Nat) {a b c d : Nat} (x y : Nat) (ab : a ≠ b) (ac : a ≠ c) (ad : a ≠ d) (bc : b ≠ c) (bd : b ≠ d) (cd : c ≠ d) : mst f a b c d x y = mat f a b c d x y := mst_eqs ab ac ad bc bd cd rfl rfl rfl rfl rfl rfl rfl rfl
def sgf (j : Nat) : Nat := sigL.getD j 0
def colM (m : Nat → Nat) (r : Nat) (f : Nat → Nat) : Nat → Nat → Nat
  | 0 => f
  | i + 1 => mat (colM m r f i) i (4 + i) (8 + i) (12 + i) (m (sig r (2 * i))) (m (sig r (2 * i + 1)))
def diaM (m : Nat → Nat) (r : Nat) (f : Nat → Nat) : Nat → Nat → Nat
  | 0 => f
  | i + 1 => mat (diaM m r f i) i (4 + (i + 1) % 4) (8 + (i + 2) % 4) (12 + (i + 3) % 4) (m (sig r (8 + 2 * i))) (m (sig r (9 + 2 * i)))
def rndM (m : Nat → Nat) (f : Nat → Nat) : Nat → Nat → Nat
  | 0 => f
  | r + 1 => diaM m r (colM m r (rndM m f r) 4) 4
theorem colM_zero (m : Nat → Nat) (r : Nat) (f : Nat → Nat) : f = colM m r f 0 := by rw [colM]
theorem diaM_zero (m : Nat → Nat) (r : Nat) (f : Nat → Nat) : f = diaM m r f 0 := by rw [diaM]
theorem rndM_zero (m : Nat → Nat) (f : Nat → Nat) : f = rndM m f 0 := by rw [rndM]
theorem colM_succ (m : Nat → Nat) (r : Nat) (f : Nat → Nat) (i : Nat) : mat (colM m r f i) i (4 + i) (8 + i) (12 + i) (m (sig r (2 * i))) (m (sig r (2 * i + 1))) = colM m r f (i + 1) := by rw [colM]
theorem diaM_succ (m : Nat → Nat) (r : Nat) (f : Nat → Nat) (i : Nat) : mat (diaM m r f i) i (4 + (i + 1) % 4) (8 + (i + 2) % 4) (12 + (i + 3) % 4) (m (sig r (8 + 2 * i))) (m (sig r (9 + 2 * i))) = diaM m r f (i + 1) := by rw [diaM]
theorem rndM_succ (m : Nat → Nat) (f : Nat → Nat) (r : Nat) : diaM m r (colM m r (rndM m f r) 4) 4 = rndM m f (r + 1) := by rw [rndM]
theorem col_brn (m : Nat → Nat) (r : Nat) (f : Nat → Nat) : ∀ i, i ≤ 4 → ∀ t, t < 16 → colM m r f i t = if t % 4 < i then brn (fun c => m (sig r (2 * c))) (fun c => m (sig r (2 * c + 1))) f t else f t
  | 0, _, t, _ => by rw [if_neg (by omega), colM]
  | i + 1, hi, t, ht => by
    have ih := col_brn m r f i (by omega)
    rw [colM]
    exact brn_step (by omega) ih _ rfl rfl t ht
theorem shp_at (f : Nat → Nat) {t : Nat} (ht : t < 16) : shn 1 (shp 1 f) t = f t := by
  unfold shn shp
  congr 1
  omega
theorem dia_brn (m : Nat → Nat) (r : Nat) (f : Nat → Nat) : ∀ i, i ≤ 4 → ∀ t, t < 16 → diaM m r f i t = shn 1 (fun u => if u % 4 < i then brn (fun c => m (sig r (8 + 2 * c))) (fun c => m (sig r (9 + 2 * c))) (shp 1 f) u else shp 1 f u) t
  | 0, _, t, ht => by
    rw [diaM]
    exact ((congrArg (fun g => shn 1 g t) (funext fun u => if_neg (by omega))).trans (shp_at f ht)).symm
  | i + 1, hi, t, ht => by
    have ih := dia_brn m r f i (by omega)
    have hs : ∀ u, u < 16 → shp 1 (diaM m r f i) u = if u % 4 < i then brn (fun c => m (sig r (8 + 2 * c))) (fun c => m (sig r (9 + 2 * c))) (shp 1 f) u else shp 1 f u := fun u hu => by
      unfold shp
      rw [ih _ (by omega)]
      unfold shn
      rw [show 4 * ((4 * (u / 4) + (u % 4 + 4 + 1 * (u / 4)) % 4) / 4) + ((4 * (u / 4) + (u % 4 + 4 + 1 * (u / 4)) % 4) % 4 + 4 - 1 * ((4 * (u / 4) + (u % 4 + 4 + 1 * (u / 4)) % 4) / 4)) % 4 = u by omega]
      rfl
    have st := brn_step (by omega : i < 4) hs _ rfl rfl (4 * (t / 4) + (t % 4 + 4 - 1 * (t / 4)) % 4) (by omega)
    rw [diaM]
    refine Eq.trans ?_ st
    unfold mat
    have e0 : shp 1 (diaM m r f i) i = diaM m r f i i := by unfold shp; congr 1; omega
    have e1 : shp 1 (diaM m r f i) (4 + i) = diaM m r f i (4 + (i + 1) % 4) := by unfold shp; congr 1; omega
    have e2 : shp 1 (diaM m r f i) (8 + i) = diaM m r f i (8 + (i + 2) % 4) := by unfold shp; congr 1; omega
    have e3 : shp 1 (diaM m r f i) (12 + i) = diaM m r f i (12 + (i + 3) % 4) := by unfold shp; congr 1; omega
    rw [e0, e1, e2, e3]
    obtain ⟨q, hq⟩ : ∃ q, q = bq (diaM m r f i i) (diaM m r f i (4 + (i + 1) % 4)) (diaM m r f i (8 + (i + 2) % 4)) (diaM m r f i (12 + (i + 3) % 4)) (m (sig r (8 + 2 * i))) (m (sig r (9 + 2 * i))) := ⟨_, rfl⟩
    simp only
    rw [← hq]
    obtain ⟨u, hu⟩ : ∃ u, u = 4 * (t / 4) + (t % 4 + 4 - 1 * (t / 4)) % 4 := ⟨_, rfl⟩
    rw [← hu]
    have k0 : (u = i) = (t = i) := propext ⟨fun h => by omega, fun h => by omega⟩
    have k1 : (u = 4 + i) = (t = 4 + (i + 1) % 4) := propext ⟨fun h => by omega, fun h => by omega⟩
    have k2 : (u = 8 + i) = (t = 8 + (i + 2) % 4) := propext ⟨fun h => by omega, fun h => by omega⟩
    have k3 : (u = 12 + i) = (t = 12 + (i + 3) % 4) := propext ⟨fun h => by omega, fun h => by omega⟩
    have k4 : shp 1 (diaM m r f i) u = diaM m r f i t := by
      unfold shp
      rw [show 4 * (u / 4) + (u % 4 + 4 + 1 * (u / 4)) % 4 = t by omega]
    simp only [k0, k1, k2, k3, k4]
theorem brn_congr {x y f x2 y2 g : Nat → Nat} (hx : ∀ c, c < 4 → x c = x2 c) (hy : ∀ c, c < 4 → y c = y2 c) (h : ∀ t, t < 16 → f t = g t) : ∀ t, t < 16 → brn x y f t = brn x2 y2 g t := fun t ht => by
  unfold brn
  rw [h _ (by omega), h _ (by omega), h _ (by omega), h _ (by omega), hx _ (by omega), hy _ (by omega)]
theorem shp_zero (f : Nat → Nat) (t : Nat) : shp 0 f t = f t := by unfold shp; congr 1; omega
theorem shn_zero (f : Nat → Nat) (t : Nat) : shn 0 f t = f t := by unfold shn; congr 1; omega
theorem rnd_brs {m w : Nat → Nat} {l : List Nat} (hm : ∀ t, t < 16 → m t = wrd l t) : ∀ r t, t < 16 → rndM m w r t = brs l w r t
  | 0, t, _ => by rw [rndM, brs]
  | r + 1, t, ht => by
    have ih := rnd_brs (w := w) hm r
    have c4 : ∀ t, t < 16 → colM m r (rndM m w r) 4 t = bpart l r (brs l w r) 1 t := fun t ht => by
      rw [col_brn m r _ 4 (by omega) t ht, if_pos (by omega), bpart, bpart, bstep, shn_zero]
      exact brn_congr (fun c hc => (hm _ (sig_lt _ _)).trans (congrArg (fun z => wrd l (sig r z)) (by omega))) (fun c hc => (hm _ (sig_lt _ _)).trans (congrArg (fun z => wrd l (sig r z)) (by omega))) (fun u hu => (ih u hu).trans (shp_zero _ u).symm) t ht
    rw [rndM, brs, dia_brn m r _ 4 (by omega) t ht, bpart, bstep]
    unfold shn
    refine Eq.trans (if_pos (by omega)) ?_
    refine brn_congr (fun c hc => (hm _ (sig_lt _ _)).trans (congrArg (fun z => wrd l (sig r z)) (by omega))) (fun c hc => (hm _ (sig_lt _ _)).trans (congrArg (fun z => wrd l (sig r z)) (by omega))) (fun u hu => ?_) _ (by omega)
    unfold shp
    exact c4 _ (by omega)
theorem sqd_step {h s v z : Nat → Nat} {l : List Nat} {many : Nat} {last : Bool} {q : Nat} (hq : q < 8) (hb : ∀ t, t < 16 → v t = brs l (w0 h many last) 10 t) (hz : z = sqz h l many last) (hs : ∀ t, t < 8 → s t = if t < q then z t else h t) :
    ∀ t, t < 8 → upd s q ((s q ^^^ (v q ^^^ v (8 + q)) % 4294967296) % 4294967296) t = if t < q + 1 then z t else h t := by
  rw [hb q (by omega), hb (8 + q) (by omega)]
  subst hz
  exact sqz_step hq rfl hs
end Go.Proofs.YthljakcegoohlaaDoor
namespace Go.Proofs.YthljakcegoohlaaDoor
open Go Go.RowKit
theorem spr_zero {x : Nat} (h : x < 4294967296) : (x ^^^ 0 % 4294967296) % 4294967296 = x := by simp; omega
theorem spr_false {h s : Nat → Nat} {many : Nat} (hs : ∀ t, t < 16 → s t = if t % 8 < 8 then w00 h t else 0) : ∀ t, t < 16 → upd (upd s 12 ((s 12 ^^^ many % 4294967296) % 4294967296)) 13 ((upd s 12 ((s 12 ^^^ many % 4294967296) % 4294967296) 13 ^^^ 0 % 4294967296) % 4294967296) t = w0 h many false t := fun t ht => by
  have e : upd s 12 ((s 12 ^^^ many % 4294967296) % 4294967296) 13 = ivf 5 := by
    rw [updN _ _ (by decide), hs 13 (by decide), if_pos (by decide)]; rfl
  rw [e, spr_zero (ivf_lt 5)]
  by_cases h1 : t = 13
  · rw [h1, updS]; rfl
  · rw [updN _ _ h1]; exact w0_false hs t ht
theorem spr_true {h s : Nat → Nat} {many : Nat} (hs : ∀ t, t < 16 → s t = if t % 8 < 8 then w00 h t else 0) : ∀ t, t < 16 → upd (upd (upd s 12 ((s 12 ^^^ many % 4294967296) % 4294967296)) 13 ((upd s 12 ((s 12 ^^^ many % 4294967296) % 4294967296) 13 ^^^ 0 % 4294967296) % 4294967296)) 14 ((4294967295 ^^^ upd (upd s 12 ((s 12 ^^^ many % 4294967296) % 4294967296)) 13 ((upd s 12 ((s 12 ^^^ many % 4294967296) % 4294967296) 13 ^^^ 0 % 4294967296) % 4294967296) 14) % 4294967296) t = w0 h many true t := fun t ht => by
  have e := spr_false (many := many) hs
  by_cases h1 : t = 14
  · rw [h1, updS, e 14 (by decide)]; rfl
  · rw [updN _ _ h1, e t ht]
    unfold w0
    by_cases h2 : t = 12
    · rw [if_pos h2, if_pos h2]
    · rw [if_neg h2, if_neg h2, if_neg (by simp), if_neg (by simp [h1])]
theorem hol_at (w : Nat → Nat) : ∀ n i, i < 4 * n → (hol w n).getD i 0 = w (i / 4) / 256 ^ (i % 4) % 256
  | 0, i, h => by omega
  | n + 1, i, h => by
    rw [hol, List.getD_eq_getElem?_getD]
    by_cases hi : i < 4 * n
    · rw [List.getElem?_append_left (by rw [hol_len]; exact hi), ← List.getD_eq_getElem?_getD, hol_at w n i hi]
    · rw [List.getElem?_append_right (by rw [hol_len]; omega), hol_len, List.getElem?_eq_getElem (by rw [lowl_len]; omega)]
      rw [show i / 4 = n by omega, show i % 4 = i - 4 * n by omega]
      simp [lowl]
theorem hsum_at (w : Nat → Nat) {i : Nat} (hi : i < 32) : w (i / 4) / 2 ^ (i % 4 * 8) % 256 = hsumf w i := by
  unfold hsumf
  rw [hol_at w 8 i (by omega), Nat.mul_comm (i % 4) 8, Nat.pow_mul]
def heldP (S : List Nat) (p j : Nat) : Nat := if j < p - 64 * nblk p then S.getD (64 * nblk p + j) 0 else 0
def AddInv (h d : Nat → Nat) (n ln : Nat) (l : List Nat) (hh g : Nat → Nat) (nn q : Nat) : Prop :=
  ln ≤ q ∧ q ≤ ln + l.length ∧ hh = hacc h (ln - n) (sS d n l) (nblk (n + (q - ln))) ∧ (∀ j, j < 64 → g j = heldP (sS d n l) (n + (q - ln)) j) ∧ nn = n + (q - ln) - 64 * nblk (n + (q - ln))
theorem sS_low (d : Nat → Nat) {n j : Nat} (l : List Nat) (h : j < n) : (sS d n l).getD j 0 = d j := by
  unfold sS
  rw [List.getD_eq_getElem?_getD, List.getElem?_append_left (by simpa using h), List.getElem?_map, List.getElem?_range h]
  rfl
theorem sS_high (d : Nat → Nat) (n j : Nat) (l : List Nat) : (sS d n l).getD (n + j) 0 = l.getD j 0 := by
  unfold sS
  rw [List.getD_eq_getElem?_getD, List.getElem?_append_right (by simp), List.length_map, List.length_range, Nat.add_sub_cancel_left, ← List.getD_eq_getElem?_getD]
theorem drop_at (l : List Nat) (c j : Nat) : (l.drop c).getD j 0 = l.getD (c + j) 0 := by
  rw [List.getD_eq_getElem?_getD, List.getElem?_drop, ← List.getD_eq_getElem?_getD]
theorem add_first {h d : Nat → Nat} {n ln : Nat} (l : List Nat) (hok : okB n ln d = true) : AddInv h d n ln l h d n ln := by
  obtain ⟨_, hnl, hn, _, hz⟩ := okB_open hok
  have hb : nblk (n + (ln - ln)) = 0 := by unfold nblk; omega
  refine ⟨Nat.le_refl _, by omega, by rw [hb]; rfl, fun j hj => ?_, by rw [hb]; omega⟩
  unfold heldP
  rw [hb]
  by_cases h1 : j < n
  · rw [if_pos (by omega), show 64 * 0 + j = j by omega, sS_low d l h1]
  · rw [if_neg (by omega), hz j (by omega) hj]
theorem add_lt {h d hh g : Nat → Nat} {n ln nn q : Nat} {l : List Nat} (hd : ∀ j, j < 64 → d j < 256) (hn : n ≤ 64) (hl : ∀ b ∈ l, b < 256) (hi : AddInv h d n ln l hh g nn q) : ∀ j, j < 64 → g j < 256 := fun j hj => by
  rw [hi.2.2.2.1 j hj]
  unfold heldP
  split
  · exact getD_lt (sS_lt (n := n) (fun j hj => hd j (by omega)) hl) _
  · decide
theorem add_nn {h d hh g : Nat → Nat} {n ln nn q : Nat} {l : List Nat} (hi : AddInv h d n ln l hh g nn q) : nn ≤ 64 := by
  rw [hi.2.2.2.2]; unfold nblk; omega
theorem add_full {h d hh g : Nat → Nat} {n ln nn q : Nat} {l : List Nat} (hnl : n ≤ ln) (hi : AddInv h d n ln l hh g nn q) (hN : nn = 64) (hm : (ln - n) % 64 = 0) {k : Nat} (hk : k = min (l.drop (q - ln)).length 64) (h0 : 0 < (l.drop (q - ln)).length) {hh' g' : Nat → Nat} {nn' q' : Nat} (e1 : hh' = sqz hh ((List.range 64).map g) q false) (e2 : ∀ j, j < 64 → g' j = if 0 ≤ j ∧ j < 0 + k then (l.drop (q - ln)).getD (j - 0) 0 else 0) (e3 : nn' = 0 + k) (e4 : q' = q + k) : AddInv h d n ln l hh' g' nn' q' := by
  obtain ⟨i1, i2, i3, i4, i5⟩ := hi
  rw [List.length_drop] at hk h0
  obtain ⟨B, hB⟩ : ∃ B, B = nblk (n + (q - ln)) := ⟨_, rfl⟩
  have hp : n + (q - ln) = 64 * (B + 1) := by have := hB; unfold nblk at this; omega
  have hp' : n + (q' - ln) = 64 * (B + 1) + k := by omega
  have hB' : nblk (n + (q' - ln)) = B + 1 := by unfold nblk; omega
  have hfull : (List.range 64).map g = ((sS d n l).drop (64 * B)).take 64 := by
    apply List.ext_getElem
    · simp [sS_len]; omega
    · intro j h1 h2
      simp only [List.getElem_map, List.getElem_range, List.getElem_take, List.getElem_drop]
      have hj : j < 64 := by simpa using h1
      rw [i4 j hj]
      unfold heldP
      rw [← hB, if_pos (by omega), List.getD_eq_getElem?_getD, List.getElem?_eq_getElem (by rw [sS_len]; omega)]
      rfl
  refine ⟨by omega, by omega, ?_, fun j hj => ?_, by rw [hB']; omega⟩
  · rw [e1, hB', hacc, hfull, i3, ← hB, show ln - n + 64 * (B + 1) = q by omega]
  · rw [e2 j hj]
    unfold heldP
    rw [hB']
    by_cases h1 : j < k
    · rw [if_pos (by omega), if_pos (by omega), drop_at, Nat.sub_zero, show 64 * (B + 1) + j = n + (q - ln + j) by omega, sS_high]
    · rw [if_neg (by omega), if_neg (by omega)]
theorem add_more {h d hh g : Nat → Nat} {n ln nn q : Nat} {l : List Nat} (hi : AddInv h d n ln l hh g nn q) (hN : nn < 64) {k : Nat} (hk : k = min (l.drop (q - ln)).length (64 - nn)) (h0 : 0 < (l.drop (q - ln)).length) {g' : Nat → Nat} {nn' q' : Nat} (e2 : ∀ j, j < 64 → g' j = if nn ≤ j ∧ j < nn + k then (l.drop (q - ln)).getD (j - nn) 0 else g j) (e3 : nn' = nn + k) (e4 : q' = q + k) : AddInv h d n ln l hh g' nn' q' := by
  obtain ⟨i1, i2, i3, i4, i5⟩ := hi
  rw [List.length_drop] at hk h0
  obtain ⟨B, hB⟩ : ∃ B, B = nblk (n + (q - ln)) := ⟨_, rfl⟩
  rw [← hB] at i3 i5
  have hpB : 64 * B ≤ n + (q - ln) := by rw [hB]; exact nblk_le _
  have hB' : nblk (n + (q' - ln)) = B := by have := hB; unfold nblk at this ⊢; omega
  refine ⟨by omega, by omega, by rw [hB']; exact i3, fun j hj => ?_, by rw [hB']; omega⟩
  rw [e2 j hj]
  unfold heldP
  rw [hB']
  by_cases h1 : nn ≤ j ∧ j < nn + k
  · rw [if_pos h1, if_pos (by omega), drop_at, show 64 * B + j = n + (q - ln + (j - nn)) by omega, sS_high]
  · rw [if_neg h1, i4 j hj]
    unfold heldP
    rw [← hB]
    by_cases h2 : j < nn
    · rw [if_pos (by omega), if_pos (by omega)]
    · rw [if_neg (by omega), if_neg (by omega)]
theorem add_shows {B : Mem} {bv : Value} {l : List Nat} {q ln k : Nat} (h : Shows B 1 bv (l.drop (q - ln)).length ((l.drop (q - ln)).map by8)) (hk : k ≤ (l.drop (q - ln)).length) (hq : ln ≤ q) : Shows B 1 (slPart 1 bv k (l.drop (q - ln)).length) (l.drop (q + k - ln)).length ((l.drop (q + k - ln)).map by8) :=
  h.cut hk (Nat.le_refl _) (by rw [List.drop_drop, List.take_of_length_le (by simp; omega), show q - ln + k = q + k - ln by omega])
theorem cH_congr {h h' d d' : Nat → Nat} {n n' ln ln' : Nat} (hh : h = h') (hd : ∀ j, j < 64 → d j = d' j) (hn : n = n') (hl : ln = ln') : Value.agg (cells 74 [pI .u32 8 h, pI .u8 64 d, pV (.int .i64 (n : Int)), pV (.int .i64 (ln : Int))]) = Value.agg (cells 74 [pI .u32 8 h', pI .u8 64 d', pV (.int .i64 (n' : Int)), pV (.int .i64 (ln' : Int))]) := by
  subst hh hn hl
  congr 1
  exact cells_congr ⟨rfl, fun _ _ => rfl, rfl, fun i hi => congrArg (fun z : Nat => Value.int .u8 (z : Int)) (hd i hi), rfl, fun _ _ => rfl, rfl, fun _ _ => rfl, trivial⟩
theorem add_last {h d hh g : Nat → Nat} {n ln nn q : Nat} {l : List Nat} (hi : AddInv h d n ln l hh g nn q) (h0 : (l.drop (q - ln)).length = 0) : hh = hacc h (ln - n) (sS d n l) (nblk (sS d n l).length) ∧ (∀ j, j < 64 → g j = ((sS d n l).drop (64 * nblk (sS d n l).length)).getD j 0) ∧ nn = ((sS d n l).drop (64 * nblk (sS d n l).length)).length ∧ q = ln + l.length := by
  obtain ⟨i1, i2, i3, i4, i5⟩ := hi
  rw [List.length_drop] at h0
  have hp : n + (q - ln) = (sS d n l).length := by rw [sS_len]; omega
  rw [hp] at i3 i4 i5
  refine ⟨i3, fun j hj => ?_, by rw [i5, List.length_drop], by omega⟩
  rw [i4 j hj, drop_at]
  unfold heldP
  by_cases h1 : j < (sS d n l).length - 64 * nblk (sS d n l).length
  · rw [if_pos h1]
  · rw [if_neg h1, List.getD_eq_getElem?_getD, List.getElem?_eq_none (by omega)]; rfl
end Go.Proofs.YthljakcegoohlaaDoor
namespace Go.Proofs.YthljakcegoohlaaDoor
open Go Go.RowKit
theorem tur_first {k : Nat → Nat} {x n : Nat} : ∀ t, t < n → k t = if t < 0 then (k t ^^^ x) % 256 else k t := fun t _ => by rw [if_neg (Nat.not_lt_zero t)]
theorem tur_next {k s : Nat → Nat} {x i n v : Nat} (h : ∀ t, t < n → s t = if t < i then (k t ^^^ x) % 256 else k t) (hi : i < n) (hv : v = (s i ^^^ x) % 256) : ∀ t, t < n → upd s i v t = if t < i + 1 then (k t ^^^ x) % 256 else k t := fun t ht => by
  unfold upd
  by_cases e : t = i
  · subst e
    have hs := h t ht
    rw [if_neg (Nat.lt_irrefl t)] at hs
    rw [if_pos rfl, if_pos (by omega), hv, hs]
  · rw [if_neg e, h t ht]
    by_cases h1 : t < i
    · rw [if_pos h1, if_pos (by omega)]
    · rw [if_neg h1, if_neg (by omega)]
theorem tur_last {p : List Nat} {s : Nat → Nat} {x : Nat} (hp : p.length = 64) (h : ∀ t, t < 64 → s t = if t < 64 then (p.getD t 0 ^^^ x) % 256 else p.getD t 0) : ∀ t, t < 64 → s t = (xorl p x).getD t 0 := fun t ht => by
  rw [h t ht, if_pos ht]
  simp [xorl, List.getD_eq_getElem?_getD, List.getElem?_eq_getElem (show t < p.length by omega)]
theorem fit_at {k l : List Nat} (h : mkey k = l) (hl : l.length ≤ 64) {n : Nat} (hn : n = min l.length 64) : ∀ j, j < 64 → (if 0 ≤ j ∧ j < 0 + n then l.getD (j - 0) 0 else 0) = (mpad k).getD j 0 := fun j hj => by
  unfold mpad
  rw [h, Nat.sub_zero, List.getD_eq_getElem?_getD, List.getD_eq_getElem?_getD]
  by_cases hk : j < l.length
  · rw [if_pos (by omega), List.getElem?_append_left hk]
  · rw [if_neg (by omega), List.getElem?_append_right (by omega)]
    rw [← List.getD_eq_getElem?_getD]
    exact zrs_at (by omega)
theorem shows32 (r : Nat) (f : Nat → Nat) (t : TypeId) : Shows [⟨r, arr .u8 32 f, t⟩] 1 (.slice (some ⟨r, 0, none⟩) 32 32) ((List.range 32).map f).length (((List.range 32).map f).map by8) := by
  have h := arr_shows r 32 f t 0 32 32 (by decide) (by decide)
  simp only [Nat.zero_add] at h
  exact h
end Go.Proofs.YthljakcegoohlaaDoor
namespace Go.Proofs.YthljakcegoohlaaDoor
open Go.ChangeShapes Go.WideShapes Go.ChangeAt Go.RowKit
section
variable {P : Program} {W : World}
def RdT (P : Program) (W : World) (t : TypeId) (cs : List Value) (d : DataW Unit) : Prop := ∃ fuel p, DataW.trod (fun _ => ()) P W 0 (fun _ => true) false fuel t cs = some (d, p)
def VarT (P : Program) (W : World) (n : String) (d : DataW Unit) : Prop := ∃ g t cs, P.globalNamed n = some g ∧ (P.globals[g]?).map (·.type) = some t ∧ W.var? P n = some cs ∧ RdT P W t cs.toList d
theorem laid_vars : ∀ {l : List (String × DataW Unit)} {ps : List MemPlace}, DataW.LaidVars P W l ps → ∀ x ∈ l, VarT P W x.1 x.2
  | [], _, _, x, hx => absurd hx List.not_mem_nil
  | (n, d) :: r, ps, h, x, hx => by
    obtain ⟨g, t, cs, fuel, p, q, h1, h2, h3, h4, h5, _⟩ := h
    rcases List.mem_cons.1 hx with rfl | hx
    · exact ⟨g, t, cs, h1, h2, h3, fuel, p, h4⟩
    · exact laid_vars h5 x hx
theorem laid_metH {l : List (String × DataW Unit)} (hp : (l.all fun x => x.2.handleName?.isNone) = true) (h : laidMetH P l W) : ∀ x ∈ l, VarT P W x.1 x.2 := by
  rw [MakeChecks.laidMetH_plain _ _ _ hp] at h
  obtain ⟨ps, h1, _⟩ := h
  exact laid_vars h1
theorem cut_one {cs : List Value} {r : Nat} {v : Value} (h : (cs.drop r).take 1 = [v]) : cs[r]? = some v := by
  have h0 : ((cs.drop r).take 1)[0]? = some v := by rw [h]; rfl
  simpa using h0
theorem rd_ints {k : IntKind} {N : Nat} {e T : TypeId} {zs : List Int} {cs : List Value} (hT : P.underlying T = some (.array N e)) (he : P.underlying e = some (.int k)) (hc : P.cellsOf e = 1) (h : RdT P W T cs (.agg (zs.map fun n => .lit (.int k n)))) : ∀ r, r < N → cs[r]? = some (.int k (zs.getD r 0)) := by
  obtain ⟨fuel, p, hd⟩ := h
  obtain ⟨xs, m, _, ex, _, hl, hel⟩ := DataW.trod_array hT hd
  have e3 : (xs.map (·.1)) = zs.map fun n => .lit (.int k n) := (DataW.agg.inj (Prod.mk.inj ex).1).symm
  have hlen : zs.length = N := by
    have := congrArg List.length e3
    simpa [hl] using this.symm
  intro r hr
  have hE := hel r hr
  rw [hc, Nat.mul_one, List.getElem?_eq_getElem (by omega)] at hE
  obtain ⟨z, e1, e2, _⟩ := DataW.trod_int he hE
  have e4 : (xs.map (·.1))[r]? = (zs.map fun n => (DataW.lit (.int k n) : DataW Unit))[r]? := by rw [e3]
  rw [List.getElem?_map, List.getElem?_map, List.getElem?_eq_getElem (by omega : r < xs.length), List.getElem?_eq_getElem (by omega : r < zs.length), e2] at e4
  have hz : z = zs.getD r 0 := by
    simp only [Option.map_some, Option.some.injEq, DataW.lit.injEq, Lit.int.injEq, true_and] at e4
    rw [e4, List.getD, List.getElem?_eq_getElem (by omega : r < zs.length)]; rfl
  rw [← hz]
  exact cut_one e1
theorem rd_rows {k : IntKind} {M N : Nat} {e E T : TypeId} {rs : List (List Int)} {cs : List Value} (hT : P.underlying T = some (.array M E)) (hE : P.underlying E = some (.array N e)) (he : P.underlying e = some (.int k)) (hc : P.cellsOf e = 1) (hcE : P.cellsOf E = N)
    (h : RdT P W T cs (.agg (rs.map fun row => .agg (row.map fun n => .lit (.int k n))))) : ∀ r, r < M * N → cs[r]? = some (.int k ((rs.getD (r / N) []).getD (r % N) 0)) := by
  obtain ⟨fuel, p, hd⟩ := h
  obtain ⟨xs, m, _, ex, _, hl, hel⟩ := DataW.trod_array hT hd
  have e3 : (xs.map (·.1)) = rs.map fun row => .agg (row.map fun n => .lit (.int k n)) := (DataW.agg.inj (Prod.mk.inj ex).1).symm
  have hlen : rs.length = M := by
    have := congrArg List.length e3
    simpa [hl] using this.symm
  intro r hr
  have hN : 0 < N := Nat.pos_of_ne_zero fun h0 => by subst h0; simp at hr
  have hi : r / N < M := Nat.div_lt_of_lt_mul (by rw [Nat.mul_comm]; exact hr)
  have hj : r % N < N := Nat.mod_lt _ hN
  have hR := hel (r / N) hi
  rw [hcE, List.getElem?_eq_getElem (by omega)] at hR
  have e4 : (xs.map (·.1))[r / N]? = (rs.map fun row => (DataW.agg (row.map fun n => .lit (.int k n)) : DataW Unit))[r / N]? := by rw [e3]
  rw [List.getElem?_map, List.getElem?_map, List.getElem?_eq_getElem (by omega : r / N < xs.length), List.getElem?_eq_getElem (by omega : r / N < rs.length)] at e4
  simp only [Option.map_some, Option.some.injEq] at e4
  have hg : rs.getD (r / N) [] = rs[r / N] := by rw [List.getD, List.getElem?_eq_getElem (by omega : r / N < rs.length)]; rfl
  rw [hg]
  have hrow := rd_ints (P := P) (W := W) (zs := rs[r / N]) hE he hc ⟨m, (xs[r / N]).2, by rw [hR, ← e4]⟩ (r % N) hj
  rw [← hrow, List.getElem?_take_of_lt hj, List.getElem?_drop]
  congr 1
  have := Nat.div_add_mod r N
  rw [Nat.mul_comm]; omega
theorem rin_tab {n : String} {g N : Nat} {T : TypeId} {k : IntKind} {f : Nat → Nat} {d : DataW Unit} (hg : P.globalNamed n = some g) (ht : (P.globals[g]?).map (·.type) = some T) (hN : 0 < N) (h : VarT P W n d) (hr : ∀ cs, RdT P W T cs d → ∀ r, r < N → cs[r]? = some (.int k (f r : Int))) : RIn W ⟨g, arr k N f, T⟩ := by
  obtain ⟨g', t, cs, h1, h2, h3, h4⟩ := h
  obtain rfl := Option.some.inj (hg.symm.trans h1)
  obtain rfl := Option.some.inj (ht.symm.trans h2)
  have key : ∀ r, r < N → W.cell? ⟨g, r, none⟩ = some (.int k (f r : Int)) := fun r hrr => by
    rw [World.var?_cell hg h3 r]
    have := hr cs.toList h4 r hrr
    simpa using this
  refine ⟨?_, fun o ho => ?_⟩
  · have h0 := key 0 hN
    unfold World.cell? at h0
    cases hh : W.heap[g]? with
    | none => rw [hh] at h0; cases h0
    | some b => exact (Array.getElem?_eq_some_iff.1 hh).1
  · have ho : o < N := by simpa [arr_size] using ho
    show W.cell? ⟨g, o, none⟩ = (arr k N f)[o]?
    rw [arr_get ho]; exact key o ho
theorem memR_nil : MemR [] W := fun _ h => absurd h List.not_mem_nil
theorem memR_cons {x : Blk} {m : Mem} (h : RIn W x) (hm : MemR m W) : MemR (x :: m) W := fun y hy => by
  rcases List.mem_cons.1 hy with rfl | hy
  · exact h
  · exact hm y hy
theorem memR_app {m m' : Mem} (h : MemR m W) (hm : MemR m' W) : MemR (m ++ m') W := fun y hy => by
  rcases List.mem_append.1 hy with hy | hy
  · exact h y hy
  · exact hm y hy
end
end Go.Proofs.YthljakcegoohlaaDoor
namespace Go.Proofs.YthljakcegoohlaaDoor
open Go Go.ChangeShapes Go.WideShapes Go.ChangeAt Go.RowKit
section
variable {H : Type} {enc : TypeId × Value → H} {P : Program} {w : World} {base : Nat} {spare : Nat → Bool} {held : Bool}
end
theorem wf_byte (z : Int) (h : (Lit.int .u8 z).wf = true) : ∃ c : Nat, z = (c : Int) ∧ c < 256 := by
  have := wf_u8 z h
  exact ⟨z.toNat, by omega, by omega⟩
end Go.Proofs.YthljakcegoohlaaDoor
namespace Go.Proofs.YthljakcegoohlaaDoor
open Go Go.ChangeShapes Go.WideShapes Go.ChangeAt Go.RowKit
section
variable {P : Program} {G : Mem}
theorem rep_key {t e : TypeId} {cs : List Value} {d : Dat} (ht : P.underlying t = some (.array 32 e)) (he : P.underlying e = some (.int .u8)) (hc : P.cellsOf e = 1) (hct : P.cellsOf t = 32) (h : Rep P G t cs d) : ∃ f, cs = keyC f ∧ B32 f := by
  obtain ⟨d', hl, hi⟩ := rep_array ht h
  rw [hct] at hl
  rw [hc] at hi
  have key : ∀ i, i < 32 → ∃ c : Nat, cs[i]? = some (by8 c) ∧ c < 256 := fun i h32 => by
    obtain ⟨z, h1, h2⟩ := rep_int he (hi i h32)
    obtain ⟨c, rfl, hc2⟩ := wf_byte z h2
    rw [Nat.mul_one] at h1
    have h3 : ((cs.drop i).take 1)[0]? = some (by8 c) := by rw [h1]; rfl
    exact ⟨c, by simpa using h3, hc2⟩
  refine ⟨fun i => match cs[i]? with
    | some (.int _ z) => z.toNat
    | _ => 0, ?_, fun i h32 => ?_⟩
  · apply List.ext_getElem?
    intro i
    by_cases h32 : i < 32
    · obtain ⟨c, h1, _⟩ := key i h32
      rw [h1]
      simp [keyC, ky, List.getElem?_range h32, h1]
    · rw [List.getElem?_eq_none (by omega), List.getElem?_eq_none (by simp; omega)]
  · obtain ⟨c, h1, h2⟩ := key i h32
    simp only [h1]
    simpa using h2
theorem rep_keys {t k e : TypeId} {cs : List Value} {d : Dat} (hu : P.underlying t = some (.slice k)) (ht : P.underlying k = some (.array 32 e)) (he : P.underlying e = some (.int .u8)) (hc : P.cellsOf e = 1) (hct : P.cellsOf k = 32) (h : Rep P G t cs d) :
    ∃ v, ∃ ps : List (Nat → Nat), cs = [v] ∧ Shows G 32 v ps.length (psC ps) ∧ (∀ p ∈ ps, B32 p) ∧ ps.length ≤ maxLen := by
  obtain ⟨d', v, xs, n, rfl, hm, hv, hE⟩ := rep_slice hu h
  rw [hct] at hv hE
  obtain ⟨l, h1, rfl, h3⟩ := rep_elems keyC B32 hv.len (fun cs d h => rep_key ht he hc hct h) hE
  exact ⟨v, l, rfl, by rw [h1]; exact hv, h3, by omega⟩
end
theorem seg_cut {cs : Array Value} {off : Nat} {v : Value} (h : (cs.toList.drop off).take 1 = [v]) : ∀ j, j < 1 → cs[off + j]? = some v := fun j hj => by
  have h0 : ((cs.toList.drop off).take 1)[0]? = some v := by rw [h]; rfl
  obtain rfl : j = 0 := by omega
  simpa using h0
theorem seg_six {cs : Array Value} {l : List Value} (h : (cs.toList.drop 0).take 6 = l) (i : Nat) (hi : i < 6) {v : Value} (hv : l[i]? = some v) : ∀ j, j < 1 → cs[i + j]? = some v := fun j hj => by
  obtain rfl : j = 0 := by omega
  rw [← h, List.getElem?_take_of_lt hi] at hv
  simpa using hv
theorem seg_u {cs : Array Value} {off : Nat} {g : Nat → Nat} (h : ∀ j, j < 1 → cs[off + j]? = some (.int .u64 (g j : Int))) : ∀ j, j < 1 → cs[off + j]? = some (u (g 0)) := fun j hj => by
  obtain rfl : j = 0 := by omega
  exact h 0 hj
end Go.Proofs.YthljakcegoohlaaDoor
/-
  Facts on this program's types, in tables.
-/
namespace Go.Proofs.YthljakcegoohlaaDoor
open Go Go.RowKit
def lkT {α : Type} : List (Nat × α) → Nat → Option α
  | [], _ => none
  | (k, a) :: l, t => bif Nat.beq k t then some a else lkT l t
theorem lkT_map {α : Type} {f : Nat → Option α} : ∀ {L : List (Nat × α)} {t : Nat} {d : α}, L.map (fun p => f p.1) = L.map (fun p => some p.2) → lkT L t = some d → f t = some d
  | [], _, _, _, h => by cases h
  | (k, a) :: L, t, d, h, hk => by
    rw [List.map_cons, List.map_cons, List.cons.injEq] at h
    unfold lkT at hk
    cases hb : Nat.beq k t with
    | true => rw [hb] at hk; rw [← Nat.eq_of_beq_eq_true hb, h.1]; exact hk
    | false => rw [hb] at hk; exact lkT_map h.2 hk
theorem mixed : Tryd.prog.follows .mixedOrders = true := by kernel_rfl
def tbu : List (Nat × TypeDesc) := [(3, (.int .i64)), (4, (.bool)), (5, (.int .u8)), (9, (.string)), (24, (.slice 22)), (26, (.struct #[.mk "Base" 9 0 false "" "" 0, .mk "Late" 4 1 false "" "" 16, .mk "Psks" 22 2 false "" "" 24, .mk "Pre" 23 3 false "" "" 48, .mk "Turns" 24 5 false "" "" 96])), (28, (.array 32 5)), (29, (.int .u64)), (31, (.struct #[.mk "Has" 4 0 false "" "" 0, .mk "Key" 28 1 false "" "" 1, .mk "N" 29 33 false "" "" 40])), (33, (.struct #[.mk "Cipher" 31 0 false "" "" 0, .mk "Chain" 28 34 false "" "" 48, .mk "Hash" 28 66 false "" "" 80])), (36, (.struct #[.mk "Pattern" 26 0 false "" "" 0, .mk "First" 4 6 false "" "" 120, .mk "Turn" 3 7 false "" "" 128, .mk "Dead" 4 8 false "" "" 136, .mk "Sym" 33 9 false "" "" 144, .mk "Own" 28 107 false "" "" 256, .mk "Fresh" 28 139 false "" "" 288, .mk "Has" 4 171 false "" "" 320, .mk "Their" 28 172 false "" "" 321, .mk "Knows" 4 204 false "" "" 353, .mk "Newest" 28 205 false "" "" 354, .mk "Saw" 4 237 false "" "" 386, .mk "Psks" 34 238 false "" "" 392, .mk "Used" 3 239 false "" "" 416])), (38, (.array 2 31)), (43, (.array 2 28)), (46, (.array 3 28)), (48, (.slice 5)), (56, (.array 64 5)), (57, (.array 64 5)), (61, (.slice 48)), (62, (.int .u32)), (63, (.array 8 62)), (65, (.struct #[.mk "H" 63 0 false "" "" 0, .mk "Held" 56 8 false "" "" 32, .mk "N" 3 72 false "" "" 96, .mk "Len" 3 73 false "" "" 104])), (78, (.array 4 62)), (79, (.array 4 78)), (85, (.array 16 62)), (90, (.array 16 3)), (91, (.array 10 90)), (92, (.int .u64))]
theorem tbu_ok : tbu.map (fun p => (fun t => Tryd.prog.underlying t) p.1) = tbu.map (fun p => some p.2) := by kernel_rfl
set_option maxRecDepth 100000 in
theorem Tu {T : TypeId} {d : TypeDesc} (h : lkT tbu T = some d) : Tryd.prog.underlying T = some d := lkT_map (L := tbu) (f := fun t => Tryd.prog.underlying t) tbu_ok h
theorem Uu (T : TypeId) {d : TypeDesc} (h : lkT tbu T = some d := by rfl) : Tryd.prog.underlying T = some d := Tu h
def tbz : List (Nat × Nat) := [(3, 1), (4, 1), (5, 1), (24, 1), (26, 6), (28, 32), (31, 34), (33, 98), (36, 240), (38, 68), (43, 64), (46, 96), (48, 1), (56, 64), (57, 64), (62, 1), (63, 8), (65, 74), (78, 4), (79, 16), (85, 16), (90, 16)]
theorem tbz_ok : tbz.map (fun p => (fun t => (Tryd.prog.info? t).map (·.size)) p.1) = tbz.map (fun p => some p.2) := by kernel_rfl
set_option maxRecDepth 100000 in
theorem Tz {T : TypeId} {d : Nat} (h : lkT tbz T = some d) : (Tryd.prog.info? T).map (·.size) = some d := lkT_map (L := tbz) (f := fun t => (Tryd.prog.info? t).map (·.size)) tbz_ok h
theorem Uz (T : TypeId) {d : Nat} (h : lkT tbz T = some d := by rfl) : (Tryd.prog.info? T).map (·.size) = some d := Tz h
def tby : List (Nat × Nat) := [(5, 1)]
theorem tby_ok : tby.map (fun p => (fun t => (Tryd.prog.info? t).map (·.bytes)) p.1) = tby.map (fun p => some p.2) := by kernel_rfl
set_option maxRecDepth 100000 in
theorem Ty {T : TypeId} {d : Nat} (h : lkT tby T = some d) : (Tryd.prog.info? T).map (·.bytes) = some d := lkT_map (L := tby) (f := fun t => (Tryd.prog.info? t).map (·.bytes)) tby_ok h
theorem Uy (T : TypeId) {d : Nat} (h : lkT tby T = some d := by rfl) : (Tryd.prog.info? T).map (·.bytes) = some d := Ty h
def tbb : List (Nat × Value) := [(5, (.int .u8 0)), (28, (.agg (arr .u8 32 fun _ => 0))), (31, (.agg (cells 34 [pV (.bool false), pI .u8 32 fun _ => 0, pV (.int .u64 0)]))), (38, (.agg (cells 68 [pV (.bool false), pI .u8 32 fun _ => 0, pV (.int .u64 0), pV (.bool false), pI .u8 32 fun _ => 0, pV (.int .u64 0)]))), (43, (.agg (arr .u8 64 fun _ => 0))), (46, (.agg (arr .u8 96 fun _ => 0))), (48, (.slice none 0 0)), (56, (.agg (arr .u8 64 fun _ => 0))), (57, (.agg (arr .u8 64 fun _ => 0))), (63, (.agg (arr .u32 8 fun _ => 0))), (65, (.agg (cells 74 [pI .u32 8 fun _ => 0, pI .u8 64 fun _ => 0, pV (.int .i64 0), pV (.int .i64 0)]))), (79, (.agg (arr .u32 16 fun _ => 0))), (85, (.agg (arr .u32 16 fun _ => 0)))]
theorem tbb_ok : tbb.map (fun p => (fun t => (Tryd.prog.info? t).bind (·.zero)) p.1) = tbb.map (fun p => some p.2) := by kernel_rfl
set_option maxRecDepth 100000 in
theorem Tb {T : TypeId} {d : Value} (h : lkT tbb T = some d) : (Tryd.prog.info? T).bind (·.zero) = some d := lkT_map (L := tbb) (f := fun t => (Tryd.prog.info? t).bind (·.zero)) tbb_ok h
theorem Ub (T : TypeId) {d : Value} (h : lkT tbb T = some d := by rfl) : (Tryd.prog.info? T).bind (·.zero) = some d := Tb h
def tbn : List Nat := [4, 5, 6, 7, 8, 9, 10, 11, 12, 13, 14, 15, 16, 17, 18, 19, 20, 21, 22, 23, 24, 25, 26, 27, 28, 29, 30, 31, 32, 33, 34, 35, 36, 37, 38, 39, 40, 41, 42, 43, 44]
theorem tbn_ok : tbn.all (fun f => enters Tryd.prog f) = true := by kernel_rfl
theorem Un (f : FuncId) (h : tbn.contains f = true := by rfl) : enters Tryd.prog f = true := List.all_eq_true.1 tbn_ok f (List.contains_iff_mem.1 h)
end Go.Proofs.YthljakcegoohlaaDoor
