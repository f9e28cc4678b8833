import Derived.Test.YtacflmjoigffpaaGreatDoorKX4
namespace Go.Proofs.YtacflmjoigffpaaGreatDoor
open Go Go.RowKit
def z6z (k nn : Nat → Nat) : Nat → Nat := fun j => z13 k 0 nn j
theorem zjj (k nn : Nat → Nat) : ∀ j, j < 32 → z6z k nn j < 256 := fun _ _ => zab _ _ _ _
def z3f (l : List Nat) : List Nat := l ++ zrs ((16 - l.length % 16) % 16)
theorem z3s (l : List Nat) : (z3f l).length ≤ l.length + 15 := by simp [z3f, Y3]; omega
theorem z6S {l : List Nat} (h : ∀ b ∈ l, b < 256) : ∀ b ∈ z3f l, b < 256 := fun b hb => by
 rcases List.mem_append.1 hb with hb | hb
 ·exact h b hb
 ·exact zkA _ b hb
def ZP (ad b : List Nat) : List Nat := z3f ad ++ z3f b ++ vG ad.length 8 ++ vG b.length 8
theorem z2L (ad b : List Nat) : (ZP ad b).length ≤ ad.length + b.length + 46 := by
 have h1 := z3s ad
 have h2 := z3s b
 simp [ZP, xk]; omega
theorem zea {ad b : List Nat} (h1 : ∀ x ∈ ad, x < 256) (h2 : ∀ x ∈ b, x < 256) : ∀ x ∈ ZP ad b, x < 256 := fun x hx => by
 unfold ZP at hx
 rcases List.mem_append.1 hx with hx | hx
 ·rcases List.mem_append.1 hx with hx | hx
  ·rcases List.mem_append.1 hx with hx | hx
   ·exact z6S h1 x hx
   ·exact z6S h2 x hx
  ·exact Xa _ _ x hx
 ·exact Xa _ _ x hx
def z7n (k nn : Nat → Nat) (ad b : List Nat) : List Nat := (List.range 16).map (ptg (z6z k nn) (ZP ad b))
theorem zeW (k nn : Nat → Nat) (ad b : List Nat) : (z7n k nn ad b).length = 16 := by simp [z7n]
theorem ziU (k nn : Nat → Nat) (ad b : List Nat) : ∀ x ∈ z7n k nn ad b, x < 256 := wB fun _ _ => zd5 _ _ _
def vJ (k nn : Nat → Nat) (ad tx : List Nat) : List Nat := vQ k 1 nn tx 0 ++ z7n k nn ad (vQ k 1 nn tx 0)
theorem xB (k nn : Nat → Nat) (ad tx : List Nat) : (vJ k nn ad tx).length = tx.length + 16 := by
 simp [vJ, zeW, xu]
theorem z15 (k nn : Nat → Nat) (ad tx : List Nat) : ∀ x ∈ vJ k nn ad tx, x < 256 := fun x hx => by
 rcases List.mem_append.1 hx with hx | hx
 ·exact z3H _ _ _ _ _ x hx
 ·exact ziU _ _ _ _ x hx
def XO (k nn : Nat → Nat) (ad b : List Nat) : Prop := z7n k nn ad (b.take (b.length - 16)) = b.drop (b.length - 16)
def XD (k nn : Nat → Nat) (b : List Nat) : List Nat := vQ k 1 nn (b.take (b.length - 16)) 0
theorem vU (k nn : Nat → Nat) (b : List Nat) : (XD k nn b).length = b.length - 16 := by
 simp [XD, xu]
theorem z81 (k nn : Nat → Nat) (ad tx : List Nat) : XO k nn ad (vJ k nn ad tx) := by
 unfold XO
 rw [xB, show tx.length + 16 - 16 = tx.length by omega]
 unfold vJ
 have hl : (vQ k 1 nn tx 0).length = tx.length := xu k 1 nn tx 0
 rw [List.take_append_of_le_length (by omega), List.drop_append_of_le_length (by omega), List.take_of_length_le (by omega), List.drop_eq_nil_of_le (by omega)]
 rfl
theorem zaC (k nn : Nat → Nat) (ad : List Nat) {tx : List Nat} (ht : ∀ x ∈ tx, x < 256) : XD k nn (vJ k nn ad tx) = tx := by
 unfold XD
 rw [xB, show tx.length + 16 - 16 = tx.length by omega]
 unfold vJ
 have hl : (vQ k 1 nn tx 0).length = tx.length := xu k 1 nn tx 0
 rw [List.take_append_of_le_length (by omega), List.take_of_length_le (by omega)]
 exact zcK k 1 nn ht
theorem zck (l : List Nat) (n : Nat) : (l.drop 0).take (min l.length n - 0) = l.take n := by
 rw [List.drop_zero, Nat.sub_zero]
 by_cases h : l.length ≤ n
 ·rw [Nat.min_eq_left h, List.take_length, List.take_of_length_le h]
 ·rw [Nat.min_eq_right (by omega)]
abbrev cC (has : Bool) (k : Nat → Nat) (n : Nat) : Array Value := zr 34 [pV (.bool has), pI .u8 32 k, pV (u n)]
abbrev CV (has : Bool) (k : Nat → Nat) (n : Nat) : Value := .agg (cC has k n)
abbrev CZ : Value := .agg (zr 34 [pV (.bool false), pI .u8 32 (fun _ => 0), pV (.int .u64 0)])
def xT (n j : Nat) : Nat := if 4 ≤ j then n / 256 ^ (j - 4) % 256 else 0
theorem z4c (n : Nat) : ∀ j, j < 12 → xT n j < 256 := fun j _ => by
 unfold xT
 split
 ·exact Nat.mod_lt _ (by decide)
 ·decide
def okC (has : Bool) (k : Nat → Nat) (n : Nat) : Bool := has || (decide (n = 0) && y4 32 k (fun _ => 0))
theorem zlz (has : Bool) (k : Nat → Nat) (n : Nat) : (has = true ∧ okC has k n = true) ∨ (has = false ∧ n ≠ 0 ∧ okC has k n = false) ∨ (has = false ∧ n = 0 ∧ y4 32 k (fun _ => 0) = false ∧ okC has k n = false) ∨ (has = false ∧ n = 0 ∧ y4 32 k (fun _ => 0) = true ∧ okC has k n = true) := by
 unfold okC
 cases has
 ·right
  by_cases h : n = 0
  ·right
   cases hk : y4 32 k (fun _ => 0)
   ·exact .inl ⟨rfl, h, rfl, by simp⟩
   ·exact .inr ⟨rfl, h, rfl, by simp [h]⟩
  ·exact .inl ⟨rfl, h, by simp [h]⟩
 ·exact .inl ⟨rfl, rfl⟩
abbrev ivL : List Nat := [1779033703, 3144134277, 1013904242, 2773480762, 1359893119, 2600822924, 528734635, 1541459225]
def ivf (j : Nat) : Nat := ivL.getD j 0
theorem zlJ (j : Nat) : ivf j < 4294967296 := by
 unfold ivf
 rw [List.getD_eq_getElem?_getD]
 cases h : ivL[j]? with
 | none => simp
 | some b =>
  have : b ∈ ivL := List.mem_of_getElem? h
  have all : ∀ b ∈ ivL, b < 4294967296 := by decide +kernel
  exact all b this
abbrev zhj : List Nat := [0, 1, 2, 3, 4, 5, 6, 7, 8, 9, 10, 11, 12, 13, 14, 15, 14, 10, 4, 8, 9, 15, 13, 6, 1, 12, 0, 2, 11, 7, 5, 3, 11, 8, 12, 0, 5, 2, 15, 13, 10, 14, 3, 6, 7, 1, 9, 4, 7, 9, 3, 1, 13, 12, 11, 14, 2, 6, 5, 10, 4, 0, 15, 8,
 9, 0, 5, 7, 2, 4, 10, 15, 14, 1, 11, 12, 6, 8, 3, 13, 2, 12, 6, 10, 0, 11, 8, 3, 4, 13, 7, 5, 15, 14, 1, 9, 12, 5, 1, 15, 14, 13, 4, 10, 0, 7, 6, 3, 9, 2, 8, 11, 13, 11, 7, 14, 12, 1, 3, 9, 5, 0, 15, 4, 8, 6, 2, 10,
 6, 15, 14, 9, 11, 3, 0, 8, 12, 2, 13, 7, 1, 4, 10, 5, 10, 2, 8, 4, 7, 6, 1, 5, 15, 11, 9, 14, 3, 12, 13, 0]
def sig (r i : Nat) : Nat := zhj.getD (16 * r + i) 0
theorem vE (r i : Nat) : sig r i < 16 := by
 unfold sig
 rw [List.getD_eq_getElem?_getD]
 cases h : zhj[16 * r + i]? with
 | none => simp
 | some b =>
  have : b ∈ zhj := List.mem_of_getElem? h
  have all : ∀ b ∈ zhj, b < 16 := by decide +kernel
  exact all b this
def bq (a b d e x y : Nat) : Nat × Nat × Nat × Nat :=
 let a1 := (a + (b + x) % 4294967296) % 4294967296
 let e1 := vH ((e ^^^ a1) % 4294967296) 16
 let d1 := (d + e1) % 4294967296
 let b1 := vH ((b ^^^ d1) % 4294967296) 20
 let a2 := (a1 + (b1 + y) % 4294967296) % 4294967296
 let e2 := vH ((e1 ^^^ a2) % 4294967296) 24
 let d2 := (d1 + e2) % 4294967296
 let b2 := vH ((b1 ^^^ d2) % 4294967296) 25
 (a2, b2, d2, e2)
def brn (x y : Nat → Nat) (f : Nat → Nat) (t : Nat) : Nat :=
 let q := bq (f (t % 4)) (f (4 + t % 4)) (f (8 + t % 4)) (f (12 + t % 4)) (x (t % 4)) (y (t % 4))
 if t < 4 then q.1 else if t < 8 then q.2.1 else if t < 12 then q.2.2.1 else q.2.2.2
theorem z4K {x y f s : Nat → Nat} {k : Nat} (hk : k < 4) (hs : ∀ t, t < 16 → s t = if t % 4 < k then brn x y f t else f t) (q : Nat × Nat × Nat × Nat) (hq : q = bq (s k) (s (4 + k)) (s (8 + k)) (s (12 + k)) (x k) (y k)) {g : Nat → Nat} (hg : g = fun t => if t = k then q.1 else if t = 4 + k then q.2.1 else if t = 8 + k then q.2.2.1 else if t = 12 + k then q.2.2.2 else s t) :
  ∀ t, t < 16 → g t = if t % 4 < k + 1 then brn x y f t else f t := by
 have e0 : s k = f k := by rw [hs k (by omega), if_neg (by omega)]
 have e1 : s (4 + k) = f (4 + k) := by rw [hs _ (by omega), if_neg (by omega)]
 have e2 : s (8 + k) = f (8 + k) := by rw [hs _ (by omega), if_neg (by omega)]
 have e3 : s (12 + k) = f (12 + k) := by rw [hs _ (by omega), if_neg (by omega)]
 rw [e0, e1, e2, e3] at hq
 intro t ht
 rw [hg]
 by_cases hm : t % 4 = k
 ·rw [if_pos (by omega)]
  unfold brn
  rw [hm, ← hq]
  have : t = k ∨ t = 4 + k ∨ t = 8 + k ∨ t = 12 + k := by omega
  rcases this with h | h | h | h
  ·simp only; rw [if_pos h, if_pos (by omega)]
  ·simp only; rw [if_neg (by omega), if_pos h, if_neg (by omega), if_pos (by omega)]
  ·simp only; rw [if_neg (by omega), if_neg (by omega), if_pos h, if_neg (by omega), if_neg (by omega), if_pos (by omega)]
  ·simp only; rw [if_neg (by omega), if_neg (by omega), if_neg (by omega), if_pos h, if_neg (by omega), if_neg (by omega), if_neg (by omega)]
 ·simp only
  rw [if_neg (by omega), if_neg (by omega), if_neg (by omega), if_neg (by omega), hs t ht]
  by_cases hlt : t % 4 < k
  ·rw [if_pos hlt, if_pos (by omega)]
  ·rw [if_neg hlt, if_neg (by omega)]
theorem z8a (f : Nat → Nat) (a v : Nat) : upd f a v a = v := if_pos rfl
theorem vF (f : Nat → Nat) {a t : Nat} (v : Nat) (h : t ≠ a) : upd f a v t = f t := if_neg h
def shp (p : Nat) (f : Nat → Nat) (t : Nat) : Nat := f (4 * (t / 4) + (t % 4 + 4 + p * (t / 4)) % 4)
def shn (p : Nat) (f : Nat → Nat) (t : Nat) : Nat := f (4 * (t / 4) + (t % 4 + 4 - p * (t / 4)) % 4)
def xw (l : List Nat) (r p c : Nat) : Nat := wrd l (sig r (8 * p + 2 * c))
def yw (l : List Nat) (r p c : Nat) : Nat := wrd l (sig r (8 * p + 2 * c + 1))
def zdF (l : List Nat) (r p : Nat) (g : Nat → Nat) : Nat → Nat := shn p (brn (xw l r p) (yw l r p) (shp p g))
def z2A (l : List Nat) (r : Nat) (g : Nat → Nat) : Nat → Nat → Nat
 | 0 => g
 | p + 1 => zdF l r p (z2A l r g p)
def brs (l : List Nat) (w : Nat → Nat) : Nat → Nat → Nat
 | 0 => w
 | r + 1 => z2A l r (brs l w r) 2
def w00 (h : Nat → Nat) (t : Nat) : Nat := if t < 8 then h t else ivf (t - 8)
def w0 (h : Nat → Nat) (many : Nat) (last : Bool) (t : Nat) : Nat := if t = 12 then (w00 h 12 ^^^ many % 4294967296) % 4294967296 else if t = 14 ∧ last = true then (4294967295 ^^^ w00 h 14) % 4294967296 else w00 h t
def sqz (h : Nat → Nat) (l : List Nat) (many : Nat) (last : Bool) (t : Nat) : Nat := (h t ^^^ (brs l (w0 h many last) 10 t ^^^ brs l (w0 h many last) 10 (8 + t)) % 4294967296) % 4294967296
theorem z6p {h s : Nat → Nat} {i : Nat} (hi : i < 8) (hs : ∀ t, t < 16 → s t = if t % 8 < i then w00 h t else 0) : ∀ t, t < 16 → upd (upd s i (h i)) (8 + i) (ivf i) t = if t % 8 < i + 1 then w00 h t else 0 := fun t ht => by
 unfold upd
 by_cases h1 : t = 8 + i
 ·rw [if_pos h1, if_pos (by omega)]
  unfold w00
  rw [if_neg (by omega), show t - 8 = i by omega]
 ·rw [if_neg h1]
  by_cases h2 : t = i
  ·rw [if_pos h2, if_pos (by omega)]
   unfold w00
   rw [if_pos (by omega), h2]
  ·rw [if_neg h2, hs t ht]
   by_cases h3 : t % 8 < i
   ·rw [if_pos h3, if_pos (by omega)]
   ·rw [if_neg h3, if_neg (by omega)]
theorem zey {h s : Nat → Nat} {many : Nat} (hs : ∀ t, t < 16 → s t = if t % 8 < 8 then w00 h t else 0) : ∀ t, t < 16 → upd s 12 ((s 12 ^^^ many % 4294967296) % 4294967296) t = w0 h many false t := fun t ht => by
 have hw : ∀ t, t < 16 → s t = w00 h t := fun t ht => by rw [hs t ht, if_pos (by omega)]
 unfold upd w0
 by_cases h1 : t = 12
 ·rw [if_pos h1, if_pos h1, hw 12 (by decide)]
 ·rw [if_neg h1, if_neg h1, if_neg (by simp), hw t ht]
theorem zhl {h s b1 : Nat → Nat} {l : List Nat} {many : Nat} {last : Bool} {q : Nat} (hq : q < 8) (hb : b1 = brs l (w0 h many last) 10) (hs : ∀ t, t < 8 → s t = if t < q then sqz h l many last t else h t) :
  ∀ t, t < 8 → upd s q ((s q ^^^ (b1 q ^^^ b1 (8 + q)) % 4294967296) % 4294967296) t = if t < q + 1 then sqz h l many last t else h t := fun t ht => by
 have e : s q = h q := by rw [hs q hq, if_neg (by omega)]
 unfold upd
 by_cases h1 : t = q
 ·rw [if_pos h1, if_pos (by omega), e, hb, h1]; rfl
 ·rw [if_neg h1, hs t ht]
  by_cases h2 : t < q
  ·rw [if_pos h2, if_pos (by omega)]
  ·rw [if_neg h2, if_neg (by omega)]
theorem Xh {r n : Nat} {k : IntKind} {f g : Nat → Nat} {t : TypeId} (h : f = g) : some (⟨r, arr k n f, t⟩ : Blk) = some ⟨r, arr k n g, t⟩ := by rw [h]
def z5s : Nat → Nat := upd ivf 0 ((ivf 0 ^^^ 16842784) % 4294967296)
def nbl (ln : Nat) : Nat := if ln % 64 = 0 ∧ 0 < ln then 64 else ln % 64
def okB (n ln : Nat) (d : Nat → Nat) : Bool := (List.range 64).all (fun j => decide (j < n) || decide (d j = 0)) && decide (n = nbl ln)
theorem z5l {n ln : Nat} {d : Nat → Nat} (h : okB n ln d = true) : n = nbl ln ∧ n ≤ ln ∧ n ≤ 64 ∧ (ln - n) % 64 = 0 ∧ ∀ j, n ≤ j → j < 64 → d j = 0 := by
 unfold okB at h
 rw [Bool.and_eq_true, List.all_eq_true] at h
 obtain ⟨h1, h2⟩ := h
 have e : n = nbl ln := of_decide_eq_true h2
 have e2 := e
 unfold nbl at e2
 refine ⟨e, ?_, ?_, ?_, fun j hj hj2 => ?_⟩
 ·split at e2 <;> omega
 ·split at e2 <;> omega
 ·split at e2 <;> omega
 ·have := h1 j (List.mem_range.2 hj2)
  have hn : ¬ j < n := by omega
  simpa [hn] using this
def XB (h : Nat → Nat) (base : Nat) (S : List Nat) : Nat → Nat → Nat
 | 0 => h
 | k + 1 => sqz (XB h base S k) ((S.drop (64 * k)).take 64) (base + 64 * (k + 1)) false
def xc (n : Nat) : Nat := (n - 1) / 64
def hol (w : Nat → Nat) : Nat → List Nat
 | 0 => []
 | i + 1 => hol w i ++ vG (w i) 4
theorem z02 (w : Nat → Nat) : ∀ i, (hol w i).length = 4 * i
 | 0 => rfl
 | i + 1 => by rw [hol, List.length_append, z02 w i, xk]; omega
theorem ze9 (w : Nat → Nat) : ∀ i, ∀ b ∈ hol w i, b < 256
 | 0, b, h => by simp [hol] at h
 | i + 1, b, h => by
  rcases List.mem_append.1 h with h | h
  ·exact ze9 w i b h
  ·exact Xa _ _ b h
def VL (w : Nat → Nat) (j : Nat) : Nat := (hol w 8).getD j 0
theorem zgR (w : Nat → Nat) (j : Nat) : VL w j < 256 := Zm (ze9 w 8) j
def xl (m : List Nat) : List Nat := m.drop (64 * xc m.length)
theorem zaK (m : List Nat) : (xl m).length = nbl m.length := by
 unfold xl xc nbl
 rw [List.length_drop]
 split <;> omega
theorem zga {m : List Nat} (h : ∀ b ∈ m, b < 256) : ∀ b ∈ xl m, b < 256 := fun b hb => h b (List.mem_of_mem_drop hb)
def z4n (m : List Nat) : Nat → Nat := XB z5s 0 m (xc m.length)
def ZA (m : List Nat) (i : Nat) : Nat := (xl m).getD i 0
theorem z6E {m : List Nat} (hm : ∀ b ∈ m, b < 256) (j : Nat) : ZA m j < 256 := Zm (zga hm) j
theorem zf4 (m : List Nat) : okB (xl m).length m.length (ZA m) = true := by
 unfold okB
 rw [Bool.and_eq_true, List.all_eq_true]
 refine ⟨fun j _ => ?_, decide_eq_true (zaK m)⟩
 by_cases h : j < (xl m).length
 ·simp [h]
 ·have : ZA m j = 0 := by
   unfold ZA
   rw [List.getD_eq_getElem?_getD, List.getElem?_eq_none (by omega)]; rfl
  simp [this]
theorem zfV (m l : List Nat) : sS (ZA m) (xl m).length l = xl m ++ l := by
 unfold sS
 congr 1
 apply List.ext_getElem
 ·simp
 ·intro j h1 h2
  simp only [List.getElem_map, List.getElem_range]
  unfold ZA
  rw [List.getD_eq_getElem?_getD, List.getElem?_eq_getElem h2]; rfl
theorem z58 (h : Nat → Nat) (base : Nat) (m l : List Nat) : ∀ k, 64 * k ≤ m.length → XB h base (m ++ l) k = XB h base m k
 | 0, _ => rfl
 | k + 1, hk => by
  rw [XB, XB, z58 h base m l k (by omega), List.drop_append_of_le_length (by omega), List.take_append_of_le_length (by simp; omega)]
theorem z0g (n : Nat) : 64 * xc n ≤ n := by unfold xc; omega
theorem z11 (m l : List Nat) (k : Nat) : (m ++ l).drop (64 * (xc m.length + k)) = (xl m ++ l).drop (64 * k) := by
 have e : (m ++ l).drop (64 * xc m.length) = xl m ++ l := List.drop_append_of_le_length (z0g _)
 rw [← e, List.drop_drop, Nat.mul_add]
theorem z5x (m l : List Nat) : ∀ k, XB z5s 0 (m ++ l) (xc m.length + k) = XB (z4n m) (64 * xc m.length) (xl m ++ l) k
 | 0 => z58 z5s 0 m l _ (z0g _)
 | k + 1 => by
  show XB z5s 0 (m ++ l) (xc m.length + k + 1) = _
  rw [XB, XB, z5x m l k, z11, show 0 + 64 * (xc m.length + k + 1) = 64 * xc m.length + 64 * (k + 1) by omega]
theorem zjo (m : List Nat) : m.length - (xl m).length = 64 * xc m.length := by
 have := z0g m.length
 rw [show (xl m).length = m.length - 64 * xc m.length by simp [xl]]
 omega
theorem zg9 (m l : List Nat) : xc m.length + xc (xl m ++ l).length = xc (m ++ l).length := by
 have e : (xl m).length = m.length - 64 * xc m.length := by simp [xl]
 rw [List.length_append, List.length_append, e]
 unfold xc
 omega
theorem zg2 (m l : List Nat) : XB (z4n m) (64 * xc m.length) (xl m ++ l) (xc (xl m ++ l).length) = z4n (m ++ l) := by
 rw [← z5x, zg9 m l]; rfl
theorem zaV (m l : List Nat) : (xl m ++ l).drop (64 * xc (xl m ++ l).length) = xl (m ++ l) := by
 rw [← z11, zg9 m l]; rfl
def XA (m : List Nat) (j : Nat) : Nat := if m.length ≤ 1073741824 then VL (sqz (z4n m) ((List.range 64).map (ZA m)) m.length true) j else VL (sqz (fun _ => 0) ((List.range 64).map fun _ => 0) 0 true) j
theorem z07 (m : List Nat) (j : Nat) : XA m j < 256 := by unfold XA; split <;> exact zgR _ _
abbrev cB (m : List Nat) : Array Value := zr 74 [pI .u32 8 (z4n m), pI .u8 64 (ZA m), pV (.int .i64 ((xl m).length : Nat)), pV (.int .i64 (m.length : Nat))]
abbrev stB (m : List Nat) : Value := .agg (cB m)
theorem zbm : ZA [] = fun _ => 0 := by funext i; simp [ZA, xl]
theorem zh0 : z4n [] = z5s := rfl
theorem z8l {m : List Nat} (h : m.length ≤ 1073741824) : XA m = VL (sqz (z4n m) ((List.range 64).map (ZA m)) m.length true) := by funext j; unfold XA; rw [if_pos h]
def bsl (l : List Nat) : List Nat := (List.range 32).map (XA l)
theorem ziA (l : List Nat) : (bsl l).length = 32 := by simp [bsl]
theorem zl9 (l : List Nat) : ∀ b ∈ bsl l, b < 256 := wB fun _ _ => z07 _ _
def Xu (l : List Nat) (c : Nat) : List Nat := l.map fun b => (b ^^^ c) % 256
theorem wG (l : List Nat) (c : Nat) : (Xu l c).length = l.length := by simp [Xu]
theorem zjY (l : List Nat) (c : Nat) : ∀ b ∈ Xu l c, b < 256 := fun b hb => by
 obtain ⟨x, _, rfl⟩ := List.mem_map.1 hb
 exact Nat.mod_lt _ (by decide)
def z7j (k : List Nat) : List Nat := if 64 < k.length then bsl k else k
theorem z4b (k : List Nat) : (z7j k).length ≤ 64 := by unfold z7j; split <;> simp_all [ziA]
def z2h (k : List Nat) : List Nat := z7j k ++ zrs (64 - (z7j k).length)
theorem zf5 (k : List Nat) : (z2h k).length = 64 := by have := z4b k; simp [z2h, Y3]; omega
def mac (k s : List Nat) (j : Nat) : Nat := XA (Xu (z2h k) 92 ++ bsl (Xu (z2h k) 54 ++ s)) j
theorem XN (k s : List Nat) (j : Nat) : mac k s j < 256 := z07 _ _
def znq (k s : List Nat) : List Nat := (List.range 32).map (mac k s)
theorem zj7 (k s : List Nat) : ∀ b ∈ znq k s, b < 256 := wB fun _ _ => XN _ _ _
def YL (a b c : Nat → Nat) (t : Nat) : Nat := if t < 32 then a t else if t < 64 then b (t - 32) else c (t - 64)
def z7l (a b : Nat → Nat) (t : Nat) : Nat := if t < 32 then a t else b (t - 32)
def kT (c : Nat → Nat) (s : List Nat) : List Nat := znq ((List.range 32).map c) s
def kA (c : Nat → Nat) (s : List Nat) : Nat → Nat := mac (kT c s) [1]
def kB (c : Nat → Nat) (s : List Nat) : Nat → Nat := mac (kT c s) ((List.range 32).map (kA c s) ++ [2])
def kC (c : Nat → Nat) (s : List Nat) : Nat → Nat := mac (kT c s) ((List.range 32).map (kB c s) ++ [3])
theorem znI (c : Nat → Nat) (s : List Nat) : ∀ b ∈ kT c s, b < 256 := zj7 _ _
theorem zcW {l : List Nat} {x : Nat} (h : ∀ b ∈ l, b < 256) (hx : x < 256) : ∀ b ∈ l ++ [x], b < 256 := fun b hb => by
 rcases List.mem_append.1 hb with hb | hb
 ·exact h b hb
 ·simp at hb; omega
abbrev cS (has : Bool) (k : Nat → Nat) (n : Nat) (ch h : Nat → Nat) : Array Value := zr 98 [pV (.bool has), pI .u8 32 k, pV (u n), pI .u8 32 ch, pI .u8 32 h]
abbrev SV (has : Bool) (k : Nat → Nat) (n : Nat) (ch h : Nat → Nat) : Value := .agg (cS has k n ch h)
theorem Zo {N o l cap : Nat} {ps : List y7} (r k : Nat) (t : TypeId) (g : Nat → Nat) (hk : xV ps k = some (o, pI .u8 l g)) (hN : o + l ≤ N) (hc : l ≤ cap) : Shows [⟨r, zr N ps, t⟩] 1 (.slice (some ⟨r, o, none⟩) l cap) ((List.range l).map g).length (((List.range l).map g).map by8) := by
 have e : ((List.range l).map g).length = l := by simp
 refine .inr ⟨r, o, cap, zr N ps, t, by rw [e], by rw [e]; exact hc, by simp, by simp, by rw [e, zr, z3]; omega, fun j u hj => ?_⟩
 rw [List.getElem?_map, List.getElem?_map] at hj
 by_cases hl : j < l
 ·rw [List.getElem?_range hl] at hj
  simp at hj
  rw [zr, yB (by omega), vu hk j hl, ← hj]
 ·rw [List.getElem?_eq_none (by simpa using hl)] at hj
  cases hj
theorem zjZ (l : List Nat) : ∀ j, j < 32 → (if 0 ≤ j ∧ j < 0 + min l.length 32 then l.getD (j - 0) 0 else 0) = l.getD j 0 := fun j hj => by
 split
 ·rfl
 ·rw [List.getD_eq_getElem?_getD, List.getElem?_eq_none (by omega)]; rfl
def WI (l : List Nat) (j : Nat) : Nat := if 32 < l.length then XA l j else l.getD j 0
theorem z88 {l : List Nat} (h : ¬ 32 < l.length) : WI l = fun j => l.getD j 0 := by funext j; exact if_neg h
theorem zcL {l : List Nat} (h : 32 < l.length) : WI l = XA l := by funext j; exact if_pos h
theorem z9e {l : List Nat} (h : ∀ b ∈ l, b < 256) (j : Nat) : WI l j < 256 := by
 unfold WI
 split
 ·exact z07 _ _
 ·exact Zm h j
def hx (h : Nat → Nat) (l : List Nat) : Nat → Nat := XA ((List.range 32).map h ++ l)
theorem znk (h : Nat → Nat) (l : List Nat) (j : Nat) : hx h l j < 256 := z07 _ _
theorem zjW {l k : List Nat} (h : ∀ b ∈ l, b < 256) (h2 : ∀ b ∈ k, b < 256) : ∀ b ∈ l ++ k, b < 256 := fun b hb => (List.mem_append.1 hb).elim (h b) (h2 b)
theorem zlD (a b c : Nat → Nat) : ∀ j, j < 32 → YL a b c (0 + j) = a j := fun j hj => by unfold YL; rw [if_pos (by omega), Nat.zero_add]
theorem zkP (a b c : Nat → Nat) : ∀ j, j < 32 → YL a b c (32 + j) = b j := fun j hj => by unfold YL; rw [if_neg (by omega), if_pos (by omega), Nat.add_sub_cancel_left]
theorem zkS (a b c : Nat → Nat) : ∀ j, j < 32 → YL a b c (64 + j) = c j := fun j hj => by unfold YL; rw [if_neg (by omega), if_neg (by omega), Nat.add_sub_cancel_left]
end Go.Proofs.YtacflmjoigffpaaGreatDoor
namespace Go.Proofs.YtacflmjoigffpaaGreatDoor
def IsP (p : Nat) : Prop := 2 ≤ p ∧ ∀ d, d ∣ p → d = 1 ∨ d = p
theorem IsP.coprime {p a : Nat} (hp : IsP p) (h : ¬ p ∣ a) : Nat.Coprime p a := by
 rcases hp.2 (Nat.gcd p a) (Nat.gcd_dvd_left p a) with h1 | h1
 ·exact h1
 ·exact absurd (h1 ▸ Nat.gcd_dvd_right p a) h
theorem IsP.euclid {p a b : Nat} (hp : IsP p) (h : p ∣ a * b) : p ∣ a ∨ p ∣ b := by
 by_cases ha : p ∣ a
 ·exact .inl ha
 ·exact .inr ((hp.coprime ha).dvd_of_dvd_mul_left h)
def ch : Nat → Nat → Nat
 | _, 0 => 1
 | 0, _ + 1 => 0
 | n + 1, k + 1 => ch n k + ch n (k + 1)
def x8 (f : Nat → Nat) : Nat → Nat
 | 0 => 0
 | n + 1 => x8 f n + f n
theorem z0l (n : Nat) : ch n 0 = 1 := by cases n <;> rfl
theorem z44 : ∀ (n k : Nat), n < k → ch n k = 0
 | 0, k + 1, _ => rfl
 | n + 1, k + 1, h => by show ch n k + ch n (k + 1) = 0; rw [z44 n k (by omega), z44 n (k + 1) (by omega)]
theorem zj0 (n : Nat) : ch n n = 1 := by
 induction n with
 | zero => rfl
 | succ n ih => show ch n n + ch n (n + 1) = 1; rw [ih, z44 n (n + 1) (by omega)]
theorem zm1 (n : Nat) : ∀ k, (k + 1) * ch (n + 1) (k + 1) = (n + 1) * ch n k := by
 induction n with
 | zero =>
  intro k
  cases k with
  | zero => rfl
  | succ k => show (k + 1 + 1) * (ch 0 (k + 1) + ch 0 (k + 1 + 1)) = _; simp [ch]
 | succ n ih =>
  intro k
  cases k with
  | zero =>
   have := ih 0
   show (0 + 1) * (ch (n + 1) 0 + ch (n + 1) (0 + 1)) = _
   rw [z0l] at *
   omega
  | succ k =>
   have h1 := ih k
   have h2 := ih (k + 1)
   show (k + 1 + 1) * (ch (n + 1) (k + 1) + ch (n + 1) (k + 1 + 1)) = (n + 1 + 1) * ch (n + 1) (k + 1)
   have h3 : ch (n + 1) (k + 1) = ch n k + ch n (k + 1) := rfl
   rw [Nat.mul_add, h2]
   have e1 : (k + 1 + 1) * ch (n + 1) (k + 1) = (k + 1) * ch (n + 1) (k + 1) + ch (n + 1) (k + 1) := by rw [Nat.add_mul, Nat.one_mul]
   have e2 : (n + 1 + 1) * ch (n + 1) (k + 1) = (n + 1) * ch (n + 1) (k + 1) + ch (n + 1) (k + 1) := by rw [Nat.add_mul, Nat.one_mul]
   have e3 : (n + 1) * ch (n + 1) (k + 1) = (n + 1) * ch n k + (n + 1) * ch n (k + 1) := by rw [h3, Nat.mul_add]
   omega
theorem zcR (f g : Nat → Nat) (n : Nat) : x8 (fun k => f k + g k) n = x8 f n + x8 g n := by
 induction n with
 | zero => rfl
 | succ n ih => simp only [x8, ih]; omega
theorem zbn (c : Nat) (f : Nat → Nat) (n : Nat) : x8 (fun k => c * f k) n = c * x8 f n := by
 induction n with
 | zero => rfl
 | succ n ih => simp only [x8, ih, Nat.mul_add]
theorem z5J {f g : Nat → Nat} (n : Nat) (h : ∀ k, k < n → f k = g k) : x8 f n = x8 g n := by
 induction n with
 | zero => rfl
 | succ n ih => simp only [x8]; rw [ih (fun k hk => h k (by omega)), h n (by omega)]
theorem Yz (f : Nat → Nat) (n : Nat) : x8 f (n + 1) = f 0 + x8 (fun k => f (k + 1)) n := by
 induction n with
 | zero => simp [x8]
 | succ n ih => rw [x8, ih]; simp only [x8]; omega
theorem zo5 (a n : Nat) : (a + 1) ^ n = x8 (fun k => ch n k * a ^ k) (n + 1) := by
 induction n with
 | zero => rfl
 | succ n ih =>
  rw [Yz]
  have e : x8 (fun k => ch (n + 1) (k + 1) * a ^ (k + 1)) (n + 1) = a * x8 (fun k => ch n k * a ^ k) (n + 1) + x8 (fun k => ch n (k + 1) * a ^ (k + 1)) (n + 1) := by
   rw [← zbn, ← zcR]
   refine z5J _ fun k _ => ?_
   show (ch n k + ch n (k + 1)) * a ^ (k + 1) = _
   rw [Nat.add_mul, Nat.pow_succ, ← Nat.mul_assoc, Nat.mul_comm a]
  have e2 : x8 (fun k => ch n k * a ^ k) (n + 1) = 1 + x8 (fun k => ch n (k + 1) * a ^ (k + 1)) (n + 1) := by
   rw [Yz]
   show ch n 0 * a ^ 0 + x8 (fun k => ch n (k + 1) * a ^ (k + 1)) n = 1 + (x8 (fun k => ch n (k + 1) * a ^ (k + 1)) n + ch n (n + 1) * a ^ (n + 1))
   rw [z0l, z44 n (n + 1) (by omega)]
   simp
  rw [e, Nat.pow_succ, ih, Nat.mul_add, Nat.mul_one, Nat.mul_comm, z0l, Nat.pow_zero]
  omega
theorem zlF {p : Nat} (hp : IsP p) (k : Nat) (h0 : 0 < k) (h1 : k < p) : p ∣ ch p k := by
 obtain ⟨n, rfl⟩ : ∃ n, p = n + 1 := ⟨p - 1, by have := hp.1; omega⟩
 obtain ⟨j, rfl⟩ : ∃ j, k = j + 1 := ⟨k - 1, by omega⟩
 have := zm1 n j
 rcases hp.euclid (a := j + 1) (b := ch (n + 1) (j + 1)) ⟨ch n j, this⟩ with h | h
 ·exact absurd (Nat.le_of_dvd (by omega) h) (by omega)
 ·exact h
theorem zaw (p : Nat) (f : Nat → Nat) (n : Nat) (h : ∀ k, k < n → p ∣ f k) : p ∣ x8 f n := by
 induction n with
 | zero => exact Nat.dvd_zero p
 | succ n ih => exact Nat.dvd_add (ih fun k hk => h k (by omega)) (h n (by omega))
theorem zeX {p : Nat} (hp : IsP p) (a : Nat) : a ^ p % p = a % p := by
 induction a with
 | zero => rw [Nat.zero_pow (by have := hp.1; omega)]
 | succ a ih =>
  obtain ⟨n, hn⟩ : ∃ n, p = n + 1 := ⟨p - 1, by have := hp.1; omega⟩
  have hb := zo5 a p
  rw [x8, zj0, Nat.one_mul] at hb
  have hs : x8 (fun k => ch p k * a ^ k) p = 1 + x8 (fun k => ch p (k + 1) * a ^ (k + 1)) n := by
   have := Yz (fun k => ch p k * a ^ k) n
   rw [← hn] at this
   rw [this, z0l, Nat.pow_zero]
  have hd : p ∣ x8 (fun k => ch p (k + 1) * a ^ (k + 1)) n := zaw p _ n fun k hk => Nat.dvd_mul_right_of_dvd (zlF hp (k + 1) (by omega) (by omega)) _
  obtain ⟨c, hc⟩ := hd
  rw [hb, hs, hc]
  have e : 1 + p * c + a ^ p = a ^ p + 1 + p * c := by omega
  rw [e, Nat.add_mul_mod_self_left, Nat.add_mod, ih, ← Nat.add_mod]
theorem Z9 {a p : Nat} (h : a % p = 0) : p ∣ a := Nat.dvd_of_mod_eq_zero h
theorem z4p {p : Nat} (hp : IsP p) {a : Nat} (h : ¬ p ∣ a) : a ^ (p - 1) % p = 1 := by
 have h1 := zeX hp a
 have ha : 0 < a := by
  rcases Nat.eq_zero_or_pos a with h0 | h0
  ·exact absurd (h0 ▸ Nat.dvd_zero p) h
  ·exact h0
 have hpos : 1 ≤ a ^ (p - 1) := Nat.pow_pos ha
 have e : a ^ p = a * a ^ (p - 1) := by
  have : p = (p - 1) + 1 := by have := hp.1; omega
  conv => lhs; rw [this]
  rw [Nat.pow_succ, Nat.mul_comm]
 have h2 : p ∣ a * (a ^ (p - 1) - 1) := by
  rw [Nat.mul_sub, Nat.mul_one, ← e]
  exact Z9 (Nat.sub_mod_eq_zero_of_mod_eq h1)
 rcases hp.euclid h2 with h3 | h3
 ·exact absurd h3 h
 ·obtain ⟨c, hc⟩ := h3
  have : a ^ (p - 1) = 1 + p * c := by omega
  rw [this, Nat.add_mul_mod_self_left, Nat.mod_eq_of_lt (by have := hp.1; omega)]
theorem zhZ {b q : Nat} (hq : 1 < q) (m n : Nat) : b ^ m % q = 1 → b ^ n % q = 1 → b ^ (Nat.gcd m n) % q = 1 := by
 refine Nat.gcd.induction (P := fun m n => b ^ m % q = 1 → b ^ n % q = 1 → b ^ (Nat.gcd m n) % q = 1) m n ?_ ?_
 ·intro n _ h; rw [Nat.gcd_zero_left]; exact h
 ·intro m n _ ih h1 h2
  rw [Nat.gcd_rec]
  refine ih ?_ h1
  have e : b ^ n = (b ^ m) ^ (n / m) * b ^ (n % m) := by rw [← Nat.pow_mul, ← Nat.pow_add, Nat.div_add_mod]
  rw [e, Nat.mul_mod, Nat.pow_mod, h1, Nat.one_pow, Nat.mod_eq_of_lt hq, Nat.one_mul, Nat.mod_mod] at h2
  exact h2
theorem Wx (N : Nat) (hN : 2 ≤ N) (h : ¬ IsP N) : ∃ q, IsP q ∧ q ∣ N ∧ q * q ≤ N := by
 have key : ∀ n d, d ≤ n → 2 ≤ d → d ∣ N → d * d ≤ N → ∃ q, IsP q ∧ q ∣ N ∧ q * q ≤ N := by
  intro n
  induction n with
  | zero => intro d h1 h2; omega
  | succ n ih =>
   intro d h1 h2 h3 h4
   by_cases hp : IsP d
   ·exact ⟨d, hp, h3, h4⟩
   ·have : ∃ e, e ∣ d ∧ e ≠ 1 ∧ e ≠ d := by
     refine Classical.byContradiction fun hn => hp ⟨h2, fun e he => ?_⟩
     by_cases h1 : e = 1
     ·exact .inl h1
     ·by_cases h2 : e = d
      ·exact .inr h2
      ·exact absurd ⟨e, he, h1, h2⟩ hn
    obtain ⟨e, he, h5, h6⟩ := this
    have hle := Nat.le_of_dvd (by omega) he
    have hpos : 0 < e := Nat.pos_of_dvd_of_pos he (by omega)
    exact ih e (by omega) (by omega) (Nat.dvd_trans he h3) (Nat.le_trans (Nat.mul_le_mul hle hle) h4)
 have : ∃ e, e ∣ N ∧ e ≠ 1 ∧ e ≠ N := by
  refine Classical.byContradiction fun hn => h ⟨hN, fun e he => ?_⟩
  by_cases h1 : e = 1
  ·exact .inl h1
  ·by_cases h2 : e = N
   ·exact .inr h2
   ·exact absurd ⟨e, he, h1, h2⟩ hn
 obtain ⟨e, he, h5, h6⟩ := this
 have hpos : 0 < e := Nat.pos_of_dvd_of_pos he (by omega)
 have hle := Nat.le_of_dvd (by omega) he
 obtain ⟨f, hf⟩ := he
 have hf1 : f ≠ 1 := fun e1 => by rw [e1, Nat.mul_one] at hf; exact h6 hf.symm
 have hf0 : f ≠ 0 := fun e1 => by rw [e1, Nat.mul_zero] at hf; omega
 rcases Nat.le_total e f with hef | hef
 ·exact key e e (Nat.le_refl _) (by omega) ⟨f, hf⟩ (by rw [hf]; exact Nat.mul_le_mul_left _ hef)
 ·exact key f f (Nat.le_refl _) (by omega) ⟨e, by rw [hf, Nat.mul_comm]⟩ (by rw [hf]; exact Nat.mul_le_mul_right _ hef)
theorem zmW {N g r m c q : Nat} (hr : IsP r) (hm : N - 1 = m * r) (h1 : g ^ (N - 1) % N = 1) (hc : g ^ m % N = c) (hg : Nat.gcd (c - 1) N = 1) (hq : IsP q) (hqN : q ∣ N) : r ∣ q - 1 := by
 have q2 := hq.1
 have toq : ∀ x, x % N % q = x % q := fun x => Nat.mod_mod_of_dvd x hqN
 have hbr : (g ^ m) ^ r % q = 1 := by
  rw [← Nat.pow_mul, ← hm, ← toq, h1, Nat.mod_eq_of_lt (by omega)]
 have hbn : ¬ q ∣ g ^ m := fun hd => by
  obtain ⟨t, ht⟩ := hd
  have hr0 : r ≠ 0 := by have := hr.1; omega
  have : (g ^ m) ^ r % q = 0 := by
   rw [Nat.pow_mod, ht, Nat.mul_mod_right, Nat.zero_pow (by omega), Nat.zero_mod]
  omega
 have hf := z4p hq hbn
 have hgcd := zhZ (by omega) r (q - 1) hbr hf
 rcases hr.2 (Nat.gcd r (q - 1)) (Nat.gcd_dvd_left _ _) with h | h
 ·exfalso
  rw [h, Nat.pow_one] at hgcd
  have hcq : c % q = 1 := by rw [← hc, toq]; exact hgcd
  have hd : q ∣ c - 1 := by
   refine Z9 (Nat.sub_mod_eq_zero_of_mod_eq ?_)
   rw [hcq, Nat.mod_eq_of_lt (by omega)]
  have := Nat.dvd_gcd hd hqN
  rw [hg] at this
  have := Nat.le_of_dvd (by omega) this
  omega
 ·rw [← h]; exact Nat.gcd_dvd_right _ _
def pm (N : Nat) : Nat → Nat → Nat → Nat
 | 0, _, _ => 1 % N
 | f + 1, g, n => if n % 2 = 1 then g * pm N f (g * g % N) (n / 2) % N else pm N f (g * g % N) (n / 2)
theorem z5H (N : Nat) : ∀ f g n, n < 2 ^ f → pm N f g n = g ^ n % N
 | 0, g, n, h => by
  have : n = 0 := by simp at h; omega
  subst this; rfl
 | f + 1, g, n, h => by
  have hn : n / 2 < 2 ^ f := by rw [Nat.pow_succ] at h; omega
  have ih := z5H N f (g * g % N) (n / 2) hn
  have e1 : (g * g % N) ^ (n / 2) % N = g ^ (2 * (n / 2)) % N := by
   rw [← Nat.pow_mod, Nat.pow_mul, Nat.pow_two]
  unfold pm
  split
  ·rename_i ho
   have e : n = 2 * (n / 2) + 1 := by omega
   rw [ih, e1]
   conv => rhs; rw [e, Nat.pow_succ, Nat.mul_comm]
   rw [Nat.mul_mod, Nat.mod_mod, ← Nat.mul_mod]
  ·have e : n = 2 * (n / 2) := by omega
   rw [ih, e1]
   conv => rhs; rw [e]
theorem YO (n k : Nat) (hn : 2 ≤ n) (hk : n < k * k) (h : ((List.range k).all fun d => d < 2 || !(n % d == 0)) = true) : IsP n := by
 refine Classical.byContradiction fun hp => ?_
 obtain ⟨q, h1, h2, h3⟩ := Wx n hn hp
 have hqk : q < k := by
  rcases Nat.lt_or_ge q k with h | h
  ·exact h
  ·have := Nat.mul_le_mul h h; omega
 have := (List.all_eq_true.1 h) q (by simpa using hqk)
 have hz : n % q = 0 := Nat.mod_eq_zero_of_dvd h2
 have := h1.1
 simp [hz] at *
 omega
theorem p7 : IsP 7 := YO 7 3 (by decide) (by decide) (by decide +kernel)
theorem p3 : IsP 3 := YO 3 2 (by decide) (by decide) (by decide +kernel)
theorem zkL : IsP 75707 := YO 75707 276 (by decide) (by decide) (by decide +kernel)
theorem zeZ : IsP 8574133 := YO 8574133 2929 (by decide) (by decide) (by decide +kernel)
theorem Ys {N g r s m m' c c' F : Nat} (hN : 2 ≤ N) (hr : IsP r) (hs : IsP s) (hrs : Nat.gcd r s = 1) (hm : N - 1 = m * r) (hm' : N - 1 = m' * s) (f : Nat) (hf : N - 1 < 2 ^ f) (hmf : m < 2 ^ f) (hmf' : m' < 2 ^ f)
  (h1 : pm N f g (N - 1) = 1) (hc : pm N f g m = c) (hc' : pm N f g m' = c') (hg : Nat.gcd (c - 1) N = 1) (hg' : Nat.gcd (c' - 1) N = 1) (hF : F = r * s) (ho : N % 2 = 1) (hr2 : r % 2 = 1) (hs2 : s % 2 = 1) (hbig : N < (2 * F) * (2 * F)) : IsP N := by
 refine Classical.byContradiction fun hp => ?_
 obtain ⟨q, h2, h3, h4⟩ := Wx N hN hp
 rw [z5H N f g _ hf] at h1
 rw [z5H N f g _ hmf] at hc
 rw [z5H N f g _ hmf'] at hc'
 have d1 := zmW hr hm h1 hc hg h2 h3
 have d2 := zmW hs hm' h1 hc' hg' h2 h3
 have d3 : F ∣ q - 1 := by rw [hF]; exact Nat.Coprime.mul_dvd_of_dvd_of_dvd hrs d1 d2
 have hq2 := h2.1
 have hqo : q % 2 = 1 := by
  rcases Nat.mod_two_eq_zero_or_one q with h | h
  ·exfalso
   have : 2 ∣ N := Nat.dvd_trans (Z9 h) h3
   have := Nat.mod_eq_zero_of_dvd this
   omega
  ·exact h
 have d4 : 2 ∣ q - 1 := Z9 (by omega)
 have hco : Nat.gcd 2 F = 1 := by
  have : F % 2 = 1 := by rw [hF, Nat.mul_mod, hr2, hs2]
  rw [Nat.gcd_rec, this]; rfl
 have d5 : 2 * F ∣ q - 1 := Nat.Coprime.mul_dvd_of_dvd_of_dvd hco d4 d3
 have hle := Nat.le_of_dvd (by omega) d5
 have := Nat.mul_le_mul (show 2 * F ≤ q by omega) (show 2 * F ≤ q by omega)
 omega
theorem pN1 : IsP 1919519569386763 :=
 Ys (g := 2) (by decide) zeZ p7 (by decide +kernel) (m := 223873314) (m' := 274217081340966) (by decide) (by decide) 64 (by decide) (by decide) (by decide) (by decide +kernel) rfl rfl (by decide +kernel) (by decide +kernel) rfl (by decide) (by decide) (by decide) (by decide)
theorem pN2 : IsP 75445702479781427272750846543864801 :=
 Ys (g := 2) (by decide) pN1 zkL (by decide +kernel) (m := 39304471641247389600) (m' := 996548568557483816196003626400) (by decide) (by decide) 128 (by decide) (by decide) (by decide) (by decide +kernel) rfl rfl (by decide +kernel) (by decide +kernel) rfl (by decide) (by decide) (by decide) (by decide)
theorem pN3 : IsP 74058212732561358302231226437062788676166966415465897661863160754340907 :=
 Ys (g := 2) (by decide) pN2 p3 (by decide +kernel) (m := 981609426360740691344999861639072106) (m' := 24686070910853786100743742145687596225388988805155299220621053584780302) (by decide) (by decide) 240 (by decide) (by decide) (by decide) (by decide +kernel) rfl rfl (by decide +kernel) (by decide +kernel) rfl (by decide) (by decide) (by decide) (by decide)
theorem pPP : IsP PP :=
 Ys (g := 2) (by decide) pN3 p3 (by decide +kernel) (m := 781764) (m' := 19298681539552699237261830834781317975544997444273427339909597334652188273316) (by decide) (by decide) 256 (by decide) (by decide) (by decide) (by decide +kernel) rfl rfl (by decide +kernel) (by decide +kernel) rfl (by decide) (by decide) (by decide) (by decide)
theorem ziB (a : Nat) (h0 : a ≠ 0) (h : a < PP) : a * (a ^ EE % PP) % PP = 1 := by
 have hn : ¬ PP ∣ a := fun hd => absurd (Nat.le_of_dvd (by omega) hd) (by omega)
 have := z4p pPP hn
 rw [show PP - 1 = EE + 1 by decide, Nat.pow_succ, Nat.mul_comm] at this
 rw [Nat.mul_mod, Nat.mod_mod, ← Nat.mul_mod]; exact this
theorem zi7 (a b : Nat) (h0 : a ≠ 0) (h : a < PP) (hb : b < PP) (hz : a * b % PP = 0) : b = 0 := by
 rcases pPP.euclid (Z9 hz) with h1 | h1
 ·exact absurd (Nat.le_of_dvd (by omega) h1) (by omega)
 ·rcases Nat.eq_zero_or_pos b with h2 | h2
  ·exact h2
  ·exact absurd (Nat.le_of_dvd h2 h1) (by omega)
end Go.Proofs.YtacflmjoigffpaaGreatDoor
namespace Go.Proofs.YtacflmjoigffpaaGreatDoor
abbrev F := Fin PP
theorem vW (a b : F) : (a * b).val = a.val * b.val % PP := Fin.val_mul a b
theorem VS {a b : F} (h : a.val = b.val) : a = b := Fin.ext h
theorem zli {a : F} (h : a ≠ 0) : a.val ≠ 0 := fun h0 => h (Fin.ext h0)
theorem wQ {a b : F} (h : a * b = 0) : a = 0 ∨ b = 0 := by
 by_cases ha : a = 0
 ·exact .inl ha
 ·refine .inr (Fin.ext (zi7 a.val b.val (zli ha) a.isLt b.isLt ?_))
  have := congrArg Fin.val h
  rw [vW] at this
  exact this
theorem Zu {a b c : F} (ha : a ≠ 0) (h : a * b = a * c) : b = c := by
 have : a * (b - c) = 0 := by grind
 rcases wQ this with h1 | h1
 ·exact absurd h1 ha
 ·grind
theorem xi {a b : F} (ha : a ≠ 0) (hb : b ≠ 0) : a * b ≠ 0 := fun h => by
 rcases wQ h with h1 | h1
 ·exact ha h1
 ·exact hb h1
def fpw (a : F) (n : Nat) : F := ⟨a.val ^ n % PP, Nat.mod_lt _ (by decide)⟩
def fiv (a : F) : F := fpw a EE
theorem yH {a : F} (h : a ≠ 0) : a * fiv a = 1 := by
 apply VS
 rw [vW]
 exact ziB a.val (zli h) a.isLt
theorem z9m (n : Nat) (h : 0 < n) : fpw 0 n = 0 := by
 apply VS
 show 0 ^ n % PP = 0
 rw [Nat.zero_pow h]; rfl
theorem z0i : fiv 0 = 0 := z9m EE (by decide)
theorem z7w {z : F} (h : z * z = 1) : z = 1 ∨ z = -1 := by
 have h2 : (z - 1) * (z + 1) = 0 := by grind
 rcases wQ h2 with h3 | h3
 ·left; grind
 ·right; grind
theorem WU (a : F) (m n : Nat) : fpw a (m + n) = fpw a m * fpw a n := by
 apply VS
 rw [vW]
 show a.val ^ (m + n) % PP = (a.val ^ m % PP) * (a.val ^ n % PP) % PP
 rw [Nat.pow_add, Nat.mul_mod]
theorem z8A (a b : F) (n : Nat) : fpw (a * b) n = fpw a n * fpw b n := by
 apply VS
 rw [vW]
 show (a * b).val ^ n % PP = (a.val ^ n % PP) * (b.val ^ n % PP) % PP
 rw [vW, ← Nat.pow_mod, Nat.mul_pow, Nat.mul_mod]
theorem zlk (a : F) : fpw a 1 = a := by
 apply VS
 show a.val ^ 1 % PP = a.val
 rw [Nat.pow_one]; exact Nat.mod_eq_of_lt a.isLt
theorem zkh {a : F} (h : a ≠ 0) : fpw a (PP - 1) = 1 := by
 apply VS
 show a.val ^ (PP - 1) % PP = 1
 refine z4p pPP fun hd => ?_
 have := zli h
 exact absurd (Nat.le_of_dvd (by omega) hd) (by have := a.isLt; omega)
abbrev HP : Nat := 28948022309329048855892746252171976963317496166410141009864396001978282409974
abbrev QP : Nat := 14474011154664524427946373126085988481658748083205070504932198000989141204987
abbrev EP : Nat := 7237005577332262213973186563042994240829374041602535252466099000494570602494
theorem z40 (a : F) (n : Nat) (hn : n < 2 ^ 256) (c : F) (h : pm PP 256 a.val n = c.val) : fpw a n = c := by
 apply VS
 rw [z5H PP 256 a.val n hn] at h
 exact h
theorem zkz : HP + HP = PP - 1 := by decide
theorem zkb : QP + QP = HP := by decide
theorem znT : EP + EP = QP + 1 := by decide
theorem zow {a : F} (h : a ≠ 0) : fpw a HP = 1 ∨ fpw a HP = -1 :=
 z7w (by rw [← WU, zkz]; exact zkh h)
theorem zfK : fpw 2 QP * fpw 2 QP = -1 := by
 rw [← WU, zkb]
 exact z40 2 HP (by decide) (-1) (by decide +kernel)
theorem zin {q e a t : F} (h : q * q = 1) (h3 : e * e = q * a) (ht : t * t = -1) : ∃ r, r * r = a := by
 rcases z7w h with h4 | h4
 ·exact ⟨e, by grind⟩
 ·exact ⟨e * t, by grind⟩
theorem znn {a : F} (h : fpw a HP = 1) : ∃ r, r * r = a :=
 zin (q := fpw a QP) (e := fpw a EP) (t := fpw 2 QP) (by rw [← WU, zkb]; exact h) (by rw [← WU, znT, WU, zlk]) zfK
theorem z8G {a : F} (h : a ≠ 0) : fpw (a * a) HP = 1 := by
 rw [z8A, ← WU, zkz]; exact zkh h
def NoSq (D : F) : Prop := ∀ a b : F, D * (b * b) = a * a → b = 0
theorem z9z {D : F} (hD : fpw D HP = -1) : NoSq D := fun a b h => by
 by_cases hb : b = 0
 ·exact hb
 ·have h1 := congrArg (fun z => fpw z HP) h
  simp only [z8A D] at h1
  rw [hD, z8G hb] at h1
  by_cases ha : a = 0
  ·subst ha
   have hz : (0 : F) * 0 = 0 := by grind
   rw [hz] at h1
   rw [z9m HP (by decide)] at h1
   exact absurd h1 (by decide +kernel)
  ·rw [z8G ha] at h1
   exact absurd h1 (by decide +kernel)
end Go.Proofs.YtacflmjoigffpaaGreatDoor
namespace Go.Proofs.YtacflmjoigffpaaGreatDoor
set_option maxHeartbeats 4000000
theorem zkE (D x1 y1 x2 y2 : F) : D*D*D*D*((x1*y2+y1*x2)*(x1*y2+y1*x2))*((y1*y2-x1*x2)*(y1*y2-x1*x2)) - D*(D*D*((x1*y2+y1*x2)*(x1*y2+y1*x2))*((D-x1*x2*y1*y2)*(D-x1*x2*y1*y2)) + D*D*((y1*y2-x1*x2)*(y1*y2-x1*x2))*((D+x1*x2*y1*y2)*(D+x1*x2*y1*y2)) - (D+x1*x2*y1*y2)*(D+x1*x2*y1*y2)*((D-x1*x2*y1*y2)*(D-x1*x2*y1*y2))) =
  (-2*(D*D*D*D)*(x2*x2*x2*x2)*(y2*y2) + (D*D*D*D)*(x2*x2*x2*x2) - 2*(D*D*D*D)*(x2*x2)*(y2*y2*y2*y2) + 4*(D*D*D*D)*(x2*x2)*(y2*y2) + (D*D*D*D)*(y2*y2*y2*y2) - (D*D*D)*(x1*x1)*(x2*x2*x2*x2)*(y2*y2) - (D*D*D)*(x1*x1)*(x2*x2)*(y2*y2*y2*y2) - (D*D*D)*(x2*x2*x2*x2)*(y1*y1)*(y2*y2) + 2*(D*D*D)*(x2*x2*x2*x2)*(y2*y2*y2*y2) - (D*D*D)*(x2*x2)*(y1*y1)*(y2*y2*y2*y2) - 2*(D*D*D)*(x2*x2)*(y2*y2) + (D*D)*(x1*x1)*(x2*x2*x2*x2)*(y2*y2*y2*y2) + (D*D)*(x2*x2*x2*x2)*(y1*y1)*(y2*y2*y2*y2) - (D*D)*(x2*x2*x2*x2)*(y2*y2*y2*y2) + D*(x1*x1)*(x2*x2*x2*x2)*(y1*y1)*(y2*y2*y2*y2)) * (x1*x1*(y1*y1) - D*(x1*x1+y1*y1-1)) +
  (2*(D*D*D*D)*(x1*x1)*(x2*x2)*(y2*y2) - (D*D*D*D)*(x1*x1)*(x2*x2) - (D*D*D*D)*(x1*x1)*(y2*y2) + 2*(D*D*D*D)*(x2*x2)*(y1*y1)*(y2*y2) - (D*D*D*D)*(x2*x2)*(y1*y1) - 2*(D*D*D*D)*(x2*x2)*(y2*y2) + (D*D*D*D)*(x2*x2) - (D*D*D*D)*(y1*y1)*(y2*y2) + (D*D*D*D)*(y2*y2) + (D*D*D*D) + (D*D*D)*(x1*x1*x1*x1)*(x2*x2)*(y2*y2) - 2*(D*D*D)*(x1*x1)*(x2*x2)*(y2*y2) + (D*D*D)*(x2*x2)*(y1*y1*y1*y1)*(y2*y2) - 2*(D*D*D)*(x2*x2)*(y1*y1)*(y2*y2) + (D*D*D)*(x2*x2)*(y2*y2)) * (x2*x2*(y2*y2) - D*(x2*x2+y2*y2-1)) := by grind
theorem zhu (D x1 y1 x2 y2 x3 y3 : F) : ((x1*y2+y1*x2)*(D-x1*x2*y1*y2)*y3+(y1*y2-x1*x2)*(D+x1*x2*y1*y2)*x3)*((D+x2*x3*y2*y3)*(D-x2*x3*y2*y3)+D*(x2*y3+y2*x3)*(y2*y3-x2*x3)*x1*y1) - ((x2*y3+y2*x3)*(D-x2*x3*y2*y3)*y1+(y2*y3-x2*x3)*(D+x2*x3*y2*y3)*x1)*((D+x1*x2*y1*y2)*(D-x1*x2*y1*y2)+D*(x1*y2+y1*x2)*(y1*y2-x1*x2)*x3*y3) =
  (D*x1*(x2*x2*x2*x2)*(x3*x3)*y2*y3 + D*x1*(x2*x2*x2)*(x3*x3*x3)*(y2*y2) - D*x1*(x2*x2*x2)*x3*(y2*y2) - D*x1*(x2*x2)*(y2*y2*y2)*(y3*y3*y3) + D*x1*(x2*x2)*(y2*y2*y2)*y3 - D*x1*x2*x3*(y2*y2*y2*y2)*(y3*y3) + D*(x2*x2*x2*x2)*x3*y1*y2*(y3*y3) - D*(x2*x2*x2)*y1*(y2*y2)*(y3*y3*y3) + D*(x2*x2*x2)*y1*(y2*y2)*y3 - D*(x2*x2)*(x3*x3*x3)*y1*(y2*y2*y2) + D*(x2*x2)*x3*y1*(y2*y2*y2) + D*x2*(x3*x3)*y1*(y2*y2*y2*y2)*y3 - x1*(x2*x2*x2*x2)*(x3*x3)*(y2*y2*y2)*y3 + x1*(x2*x2*x2)*x3*(y2*y2*y2*y2)*(y3*y3) - (x2*x2*x2*x2)*x3*y1*(y2*y2*y2)*(y3*y3) - (x2*x2*x2)*(x3*x3)*y1*(y2*y2*y2*y2)*y3) * (x1*x1*(y1*y1) - D*(x1*x1+y1*y1-1)) +
  ((D*D)*(x1*x1*x1)*x2*(x3*x3*x3) + (D*D)*(x1*x1*x1)*x2*x3*(y3*y3) - (D*D)*(x1*x1*x1)*x2*x3 - (D*D)*(x1*x1*x1)*(x3*x3)*y2*y3 - (D*D)*(x1*x1*x1)*y2*(y3*y3*y3) + (D*D)*(x1*x1*x1)*y2*y3 - (D*D)*(x1*x1)*x2*(x3*x3)*y1*y3 - (D*D)*(x1*x1)*x2*y1*(y3*y3*y3) + (D*D)*(x1*x1)*x2*y1*y3 - (D*D)*(x1*x1)*(x3*x3*x3)*y1*y2 - (D*D)*(x1*x1)*x3*y1*y2*(y3*y3) + (D*D)*(x1*x1)*x3*y1*y2 + (D*D)*x1*x2*(x3*x3*x3)*(y1*y1) - (D*D)*x1*x2*(x3*x3*x3) + (D*D)*x1*x2*x3*(y1*y1)*(y3*y3) - (D*D)*x1*x2*x3*(y1*y1) - (D*D)*x1*x2*x3*(y3*y3) + (D*D)*x1*x2*x3 - (D*D)*x1*(x3*x3)*(y1*y1)*y2*y3 + (D*D)*x1*(x3*x3)*y2*y3 - (D*D)*x1*(y1*y1)*y2*(y3*y3*y3) + (D*D)*x1*(y1*y1)*y2*y3 + (D*D)*x1*y2*(y3*y3*y3) - (D*D)*x1*y2*y3 - (D*D)*x2*(x3*x3)*(y1*y1*y1)*y3 + (D*D)*x2*(x3*x3)*y1*y3 - (D*D)*x2*(y1*y1*y1)*(y3*y3*y3) + (D*D)*x2*(y1*y1*y1)*y3 + (D*D)*x2*y1*(y3*y3*y3) - (D*D)*x2*y1*y3 - (D*D)*(x3*x3*x3)*(y1*y1*y1)*y2 + (D*D)*(x3*x3*x3)*y1*y2 - (D*D)*x3*(y1*y1*y1)*y2*(y3*y3) + (D*D)*x3*(y1*y1*y1)*y2 + (D*D)*x3*y1*y2*(y3*y3) - (D*D)*x3*y1*y2 - D*(x1*x1*x1)*(x2*x2)*(x3*x3)*y2*y3 - D*(x1*x1*x1)*x2*(x3*x3*x3)*(y3*y3) + D*(x1*x1*x1)*x2*x3*(y2*y2)*(y3*y3) + D*(x1*x1*x1)*(x3*x3)*y2*(y3*y3*y3) - D*(x1*x1)*(x2*x2)*x3*y1*y2*(y3*y3) - D*(x1*x1)*x2*(x3*x3)*y1*(y2*y2)*y3 + D*(x1*x1)*x2*(x3*x3)*y1*(y3*y3*y3) + D*(x1*x1)*(x3*x3*x3)*y1*y2*(y3*y3) - D*x1*(x2*x2)*(x3*x3)*(y1*y1)*y2*y3 + D*x1*(x2*x2)*(x3*x3)*y2*y3 - D*x1*x2*(x3*x3*x3)*(y1*y1)*(y3*y3) + D*x1*x2*(x3*x3*x3)*(y3*y3) + D*x1*x2*x3*(y1*y1)*(y2*y2)*(y3*y3) - D*x1*x2*x3*(y2*y2)*(y3*y3) + D*x1*(x3*x3)*(y1*y1)*y2*(y3*y3*y3) - D*x1*(x3*x3)*y2*(y3*y3*y3) - D*(x2*x2)*x3*(y1*y1*y1)*y2*(y3*y3) + D*(x2*x2)*x3*y1*y2*(y3*y3) - D*x2*(x3*x3)*(y1*y1*y1)*(y2*y2)*y3 + D*x2*(x3*x3)*(y1*y1*y1)*(y3*y3*y3) + D*x2*(x3*x3)*y1*(y2*y2)*y3 - D*x2*(x3*x3)*y1*(y3*y3*y3) + D*(x3*x3*x3)*(y1*y1*y1)*y2*(y3*y3) - D*(x3*x3*x3)*y1*y2*(y3*y3) + (x1*x1)*(x2*x2)*(x3*x3*x3)*y1*y2*(y3*y3) + (x1*x1)*x2*(x3*x3)*y1*(y2*y2)*(y3*y3*y3) + x1*(x2*x2)*(x3*x3)*(y1*y1)*y2*(y3*y3*y3) - x1*x2*(x3*x3*x3)*(y1*y1)*(y2*y2)*(y3*y3)) * (x2*x2*(y2*y2) - D*(x2*x2+y2*y2-1)) +
  (-(D*D)*(x1*x1*x1)*(x2*x2*x2)*x3 + (D*D)*(x1*x1*x1)*(x2*x2)*y2*y3 - (D*D)*(x1*x1*x1)*x2*x3*(y2*y2) + (D*D)*(x1*x1*x1)*x2*x3 + (D*D)*(x1*x1*x1)*(y2*y2*y2)*y3 - (D*D)*(x1*x1*x1)*y2*y3 + (D*D)*(x1*x1)*(x2*x2*x2)*y1*y3 + (D*D)*(x1*x1)*(x2*x2)*x3*y1*y2 + (D*D)*(x1*x1)*x2*y1*(y2*y2)*y3 - (D*D)*(x1*x1)*x2*y1*y3 + (D*D)*(x1*x1)*x3*y1*(y2*y2*y2) - (D*D)*(x1*x1)*x3*y1*y2 - (D*D)*x1*(x2*x2*x2)*x3*(y1*y1) + (D*D)*x1*(x2*x2*x2)*x3 + (D*D)*x1*(x2*x2)*(y1*y1)*y2*y3 - (D*D)*x1*(x2*x2)*y2*y3 - (D*D)*x1*x2*x3*(y1*y1)*(y2*y2) + (D*D)*x1*x2*x3*(y1*y1) + (D*D)*x1*x2*x3*(y2*y2) - (D*D)*x1*x2*x3 + (D*D)*x1*(y1*y1)*(y2*y2*y2)*y3 - (D*D)*x1*(y1*y1)*y2*y3 - (D*D)*x1*(y2*y2*y2)*y3 + (D*D)*x1*y2*y3 + (D*D)*(x2*x2*x2)*(y1*y1*y1)*y3 - (D*D)*(x2*x2*x2)*y1*y3 + (D*D)*(x2*x2)*x3*(y1*y1*y1)*y2 - (D*D)*(x2*x2)*x3*y1*y2 + (D*D)*x2*(y1*y1*y1)*(y2*y2)*y3 - (D*D)*x2*(y1*y1*y1)*y3 - (D*D)*x2*y1*(y2*y2)*y3 + (D*D)*x2*y1*y3 + (D*D)*x3*(y1*y1*y1)*(y2*y2*y2) - (D*D)*x3*(y1*y1*y1)*y2 - (D*D)*x3*y1*(y2*y2*y2) + (D*D)*x3*y1*y2 - D*(x1*x1)*(x2*x2)*x3*y1*y2 - D*(x1*x1)*x2*y1*(y2*y2)*y3 - D*x1*(x2*x2)*(y1*y1)*y2*y3 + D*x1*x2*x3*(y1*y1)*(y2*y2)) * (x3*x3*(y3*y3) - D*(x3*x3+y3*y3-1)) := by grind
theorem zhH (D x1 y1 x2 y2 x3 y3 : F) : ((y1*y2-x1*x2)*(D+x1*x2*y1*y2)*y3-(x1*y2+y1*x2)*(D-x1*x2*y1*y2)*x3)*((D+x2*x3*y2*y3)*(D-x2*x3*y2*y3)-D*(x2*y3+y2*x3)*(y2*y3-x2*x3)*x1*y1) - ((y2*y3-x2*x3)*(D+x2*x3*y2*y3)*y1-(x2*y3+y2*x3)*(D-x2*x3*y2*y3)*x1)*((D+x1*x2*y1*y2)*(D-x1*x2*y1*y2)-D*(x1*y2+y1*x2)*(y1*y2-x1*x2)*x3*y3) =
  (-D*x1*(x2*x2*x2*x2)*x3*y2*(y3*y3) + D*x1*(x2*x2*x2)*(y2*y2)*(y3*y3*y3) - D*x1*(x2*x2*x2)*(y2*y2)*y3 + D*x1*(x2*x2)*(x3*x3*x3)*(y2*y2*y2) - D*x1*(x2*x2)*x3*(y2*y2*y2) - D*x1*x2*(x3*x3)*(y2*y2*y2*y2)*y3 + D*(x2*x2*x2*x2)*(x3*x3)*y1*y2*y3 + D*(x2*x2*x2)*(x3*x3*x3)*y1*(y2*y2) - D*(x2*x2*x2)*x3*y1*(y2*y2) - D*(x2*x2)*y1*(y2*y2*y2)*(y3*y3*y3) + D*(x2*x2)*y1*(y2*y2*y2)*y3 - D*x2*x3*y1*(y2*y2*y2*y2)*(y3*y3) + x1*(x2*x2*x2*x2)*x3*(y2*y2*y2)*(y3*y3) + x1*(x2*x2*x2)*(x3*x3)*(y2*y2*y2*y2)*y3 - (x2*x2*x2*x2)*(x3*x3)*y1*(y2*y2*y2)*y3 + (x2*x2*x2)*x3*y1*(y2*y2*y2*y2)*(y3*y3)) * (x1*x1*(y1*y1) - D*(x1*x1+y1*y1-1)) +
  ((D*D)*(x1*x1*x1)*x2*(x3*x3)*y3 + (D*D)*(x1*x1*x1)*x2*(y3*y3*y3) - (D*D)*(x1*x1*x1)*x2*y3 + (D*D)*(x1*x1*x1)*(x3*x3*x3)*y2 + (D*D)*(x1*x1*x1)*x3*y2*(y3*y3) - (D*D)*(x1*x1*x1)*x3*y2 + (D*D)*(x1*x1)*x2*(x3*x3*x3)*y1 + (D*D)*(x1*x1)*x2*x3*y1*(y3*y3) - (D*D)*(x1*x1)*x2*x3*y1 - (D*D)*(x1*x1)*(x3*x3)*y1*y2*y3 - (D*D)*(x1*x1)*y1*y2*(y3*y3*y3) + (D*D)*(x1*x1)*y1*y2*y3 + (D*D)*x1*x2*(x3*x3)*(y1*y1)*y3 - (D*D)*x1*x2*(x3*x3)*y3 + (D*D)*x1*x2*(y1*y1)*(y3*y3*y3) - (D*D)*x1*x2*(y1*y1)*y3 - (D*D)*x1*x2*(y3*y3*y3) + (D*D)*x1*x2*y3 + (D*D)*x1*(x3*x3*x3)*(y1*y1)*y2 - (D*D)*x1*(x3*x3*x3)*y2 + (D*D)*x1*x3*(y1*y1)*y2*(y3*y3) - (D*D)*x1*x3*(y1*y1)*y2 - (D*D)*x1*x3*y2*(y3*y3) + (D*D)*x1*x3*y2 + (D*D)*x2*(x3*x3*x3)*(y1*y1*y1) - (D*D)*x2*(x3*x3*x3)*y1 + (D*D)*x2*x3*(y1*y1*y1)*(y3*y3) - (D*D)*x2*x3*(y1*y1*y1) - (D*D)*x2*x3*y1*(y3*y3) + (D*D)*x2*x3*y1 - (D*D)*(x3*x3)*(y1*y1*y1)*y2*y3 + (D*D)*(x3*x3)*y1*y2*y3 - (D*D)*(y1*y1*y1)*y2*(y3*y3*y3) + (D*D)*(y1*y1*y1)*y2*y3 + (D*D)*y1*y2*(y3*y3*y3) - (D*D)*y1*y2*y3 + D*(x1*x1*x1)*(x2*x2)*x3*y2*(y3*y3) + D*(x1*x1*x1)*x2*(x3*x3)*(y2*y2)*y3 - D*(x1*x1*x1)*x2*(x3*x3)*(y3*y3*y3) - D*(x1*x1*x1)*(x3*x3*x3)*y2*(y3*y3) - D*(x1*x1)*(x2*x2)*(x3*x3)*y1*y2*y3 - D*(x1*x1)*x2*(x3*x3*x3)*y1*(y3*y3) + D*(x1*x1)*x2*x3*y1*(y2*y2)*(y3*y3) + D*(x1*x1)*(x3*x3)*y1*y2*(y3*y3*y3) + D*x1*(x2*x2)*x3*(y1*y1)*y2*(y3*y3) - D*x1*(x2*x2)*x3*y2*(y3*y3) + D*x1*x2*(x3*x3)*(y1*y1)*(y2*y2)*y3 - D*x1*x2*(x3*x3)*(y1*y1)*(y3*y3*y3) - D*x1*x2*(x3*x3)*(y2*y2)*y3 + D*x1*x2*(x3*x3)*(y3*y3*y3) - D*x1*(x3*x3*x3)*(y1*y1)*y2*(y3*y3) + D*x1*(x3*x3*x3)*y2*(y3*y3) - D*(x2*x2)*(x3*x3)*(y1*y1*y1)*y2*y3 + D*(x2*x2)*(x3*x3)*y1*y2*y3 - D*x2*(x3*x3*x3)*(y1*y1*y1)*(y3*y3) + D*x2*(x3*x3*x3)*y1*(y3*y3) + D*x2*x3*(y1*y1*y1)*(y2*y2)*(y3*y3) - D*x2*x3*y1*(y2*y2)*(y3*y3) + D*(x3*x3)*(y1*y1*y1)*y2*(y3*y3*y3) - D*(x3*x3)*y1*y2*(y3*y3*y3) + (x1*x1)*(x2*x2)*(x3*x3)*y1*y2*(y3*y3*y3) - (x1*x1)*x2*(x3*x3*x3)*y1*(y2*y2)*(y3*y3) - x1*(x2*x2)*(x3*x3*x3)*(y1*y1)*y2*(y3*y3) - x1*x2*(x3*x3)*(y1*y1)*(y2*y2)*(y3*y3*y3)) * (x2*x2*(y2*y2) - D*(x2*x2+y2*y2-1)) +
  (-(D*D)*(x1*x1*x1)*(x2*x2*x2)*y3 - (D*D)*(x1*x1*x1)*(x2*x2)*x3*y2 - (D*D)*(x1*x1*x1)*x2*(y2*y2)*y3 + (D*D)*(x1*x1*x1)*x2*y3 - (D*D)*(x1*x1*x1)*x3*(y2*y2*y2) + (D*D)*(x1*x1*x1)*x3*y2 - (D*D)*(x1*x1)*(x2*x2*x2)*x3*y1 + (D*D)*(x1*x1)*(x2*x2)*y1*y2*y3 - (D*D)*(x1*x1)*x2*x3*y1*(y2*y2) + (D*D)*(x1*x1)*x2*x3*y1 + (D*D)*(x1*x1)*y1*(y2*y2*y2)*y3 - (D*D)*(x1*x1)*y1*y2*y3 - (D*D)*x1*(x2*x2*x2)*(y1*y1)*y3 + (D*D)*x1*(x2*x2*x2)*y3 - (D*D)*x1*(x2*x2)*x3*(y1*y1)*y2 + (D*D)*x1*(x2*x2)*x3*y2 - (D*D)*x1*x2*(y1*y1)*(y2*y2)*y3 + (D*D)*x1*x2*(y1*y1)*y3 + (D*D)*x1*x2*(y2*y2)*y3 - (D*D)*x1*x2*y3 - (D*D)*x1*x3*(y1*y1)*(y2*y2*y2) + (D*D)*x1*x3*(y1*y1)*y2 + (D*D)*x1*x3*(y2*y2*y2) - (D*D)*x1*x3*y2 - (D*D)*(x2*x2*x2)*x3*(y1*y1*y1) + (D*D)*(x2*x2*x2)*x3*y1 + (D*D)*(x2*x2)*(y1*y1*y1)*y2*y3 - (D*D)*(x2*x2)*y1*y2*y3 - (D*D)*x2*x3*(y1*y1*y1)*(y2*y2) + (D*D)*x2*x3*(y1*y1*y1) + (D*D)*x2*x3*y1*(y2*y2) - (D*D)*x2*x3*y1 + (D*D)*(y1*y1*y1)*(y2*y2*y2)*y3 - (D*D)*(y1*y1*y1)*y2*y3 - (D*D)*y1*(y2*y2*y2)*y3 + (D*D)*y1*y2*y3 - D*(x1*x1)*(x2*x2)*y1*y2*y3 + D*(x1*x1)*x2*x3*y1*(y2*y2) + D*x1*(x2*x2)*x3*(y1*y1)*y2 + D*x1*x2*(y1*y1)*(y2*y2)*y3) * (x3*x3*(y3*y3) - D*(x3*x3+y3*y3-1)) := by grind
end Go.Proofs.YtacflmjoigffpaaGreatDoor
namespace Go.Proofs.YtacflmjoigffpaaGreatDoor
set_option maxHeartbeats 1000000
abbrev Pt := F × F
def xd (D : F) (P : Pt) : Prop := P.1 * P.1 * (P.2 * P.2) = D * (P.1 * P.1 + P.2 * P.2 - 1)
def yK (D : F) (P Q : Pt) : Pt := (D * (P.1 * Q.2 + P.2 * Q.1) * fiv (D + P.1 * Q.1 * P.2 * Q.2), D * (P.2 * Q.2 - P.1 * Q.1) * fiv (D - P.1 * Q.1 * P.2 * Q.2))
def edO : Pt := (0, 1)
def z6m (P : Pt) : Pt := (-P.1, P.2)
theorem ZU : (2 : F) ≠ 0 := by decide +kernel
theorem XR : (1 : F) ≠ 0 := by decide +kernel
theorem NoSq.ne {D : F} (h : NoSq D) : D ≠ 0 := fun h0 => by
 have := h 0 1 (by rw [h0]; grind)
 exact XR this
theorem zhn {D x1 y1 x2 y2 e : F} (h0 : D ≠ 0) (he : e * e = 1) (e2 : x2 * x2 * (y2 * y2) = D * (x2 * x2 + y2 * y2 - 1)) (hk : x1 * x2 * y1 * y2 = e * D) : x1 * x1 * (y1 * y1) * (x2 * x2 + y2 * y2 - 1) = D := by
 apply Zu h0
 have h1 : D * (x1 * x1 * (y1 * y1) * (x2 * x2 + y2 * y2 - 1)) = (x1 * x2 * y1 * y2) * (x1 * x2 * y1 * y2) := by
  have : D * (x1 * x1 * (y1 * y1) * (x2 * x2 + y2 * y2 - 1)) = x1 * x1 * (y1 * y1) * (D * (x2 * x2 + y2 * y2 - 1)) := by grind
  rw [this, ← e2]; grind
 rw [h1, hk]
 have : e * D * (e * D) = e * e * (D * D) := by grind
 rw [this, he]; grind
theorem z9A {D x1 y1 x2 y2 e : F} (he : e * e = 1) (e1 : x1 * x1 * (y1 * y1) = D * (x1 * x1 + y1 * y1 - 1)) (hc : x1 * x1 * (y1 * y1) * (x2 * x2 + y2 * y2 - 1) = D) (hk : x1 * x2 * y1 * y2 = e * D) :
  D * ((x1 + e * y1) * (x1 + e * y1)) = (x1 * y1 * (x2 + y2)) * (x1 * y1 * (x2 + y2)) := by
 have h1 : (x1 * y1 * (x2 + y2)) * (x1 * y1 * (x2 + y2)) = x1 * x1 * (y1 * y1) * (x2 * x2 + y2 * y2 - 1) + x1 * x1 * (y1 * y1) + 2 * (x1 * y1) * (x1 * x2 * y1 * y2) := by grind
 rw [h1, hc, e1, hk]
 have h2 : D * ((x1 + e * y1) * (x1 + e * y1)) = D * (x1 * x1 + 2 * e * (x1 * y1) + e * e * (y1 * y1)) := by grind
 rw [h2, he]; grind
theorem zn0 {D x1 y1 x2 y2 e : F} (hD : NoSq D) (he : e * e = 1) (e1 : x1 * x1 * (y1 * y1) = D * (x1 * x1 + y1 * y1 - 1)) (e2 : x2 * x2 * (y2 * y2) = D * (x2 * x2 + y2 * y2 - 1)) (hk : x1 * x2 * y1 * y2 = e * D) : False := by
 have hc := zhn hD.ne he e2 hk
 have h1 := hD _ _ (z9A he e1 hc hk)
 have hk' : x1 * (-x2) * y1 * y2 = (-e) * D := by grind
 have hc' : x1 * x1 * (y1 * y1) * ((-x2) * (-x2) + y2 * y2 - 1) = D := by rw [← hc]; grind
 have h2 := hD _ _ (z9A (e := -e) (x2 := -x2) (by rw [← he]; grind) e1 hc' hk')
 have h3 : 2 * x1 = 0 := by grind
 rcases wQ h3 with h4 | h4
 ·exact ZU h4
 ·rw [h4] at hk
  have h5 : e * (e * D) = 0 := by rw [← hk]; grind
  have h6 : e * (e * D) = e * e * D := by grind
  rw [h6, he] at h5
  exact hD.ne (by rw [← h5]; grind)
theorem z3D {D : F} {P Q : Pt} (hD : NoSq D) (hP : xd D P) (hQ : xd D Q) : D + P.1 * Q.1 * P.2 * Q.2 ≠ 0 := fun h =>
 zn0 (e := -1) hD (by grind) hP hQ (by grind)
theorem W8 {D : F} {P Q : Pt} (hD : NoSq D) (hP : xd D P) (hQ : xd D Q) : D - P.1 * Q.1 * P.2 * Q.2 ≠ 0 := fun h =>
 zn0 (e := 1) hD (by grind) hP hQ (by grind)
theorem zhv {D nx ny a b ia ib : F} (h : D*D*D*D*(nx*nx)*(ny*ny) - D*(D*D*(nx*nx)*(b*b) + D*D*(ny*ny)*(a*a) - a*a*(b*b)) = 0) (ha : a*ia = 1) (hb : b*ib = 1) :
  (D*nx*ia)*(D*nx*ia)*((D*ny*ib)*(D*ny*ib)) = D*((D*nx*ia)*(D*nx*ia) + (D*ny*ib)*(D*ny*ib) - 1) := by
 have h1 : (D*nx*ia)*(D*nx*ia)*((D*ny*ib)*(D*ny*ib)) - D*((D*nx*ia)*(D*nx*ia)*((b*ib)*(b*ib)) + (D*ny*ib)*(D*ny*ib)*((a*ia)*(a*ia)) - (a*ia)*(a*ia)*((b*ib)*(b*ib))) = (D*D*D*D*(nx*nx)*(ny*ny) - D*(D*D*(nx*nx)*(b*b) + D*D*(ny*ny)*(a*a) - a*a*(b*b))) * (ia*ia*(ib*ib)) := by grind
 rw [h, ha, hb] at h1
 grind
theorem xy {D x y : F} (h : x * x * (y * y) = D * (x * x + y * y - 1)) : x * x * (y * y) - D * (x * x + y * y - 1) = 0 := by rw [h]; grind
theorem XX {D : F} {P Q : Pt} (hD : NoSq D) (hP : xd D P) (hQ : xd D Q) : xd D (yK D P Q) := by
 have h := zkE D P.1 P.2 Q.1 Q.2
 rw [xy hP, xy hQ] at h
 refine zhv (h.trans (by grind)) (yH (z3D hD hP hQ)) (yH (W8 hD hP hQ))
theorem Y5 (D : F) (P Q : Pt) : yK D P Q = yK D Q P := by
 unfold yK
 rw [show P.1 * Q.1 * P.2 * Q.2 = Q.1 * P.1 * Q.2 * P.2 by grind, show P.1 * Q.2 + P.2 * Q.1 = Q.1 * P.2 + Q.2 * P.1 by grind, show P.2 * Q.2 - P.1 * Q.1 = Q.2 * P.2 - Q.1 * P.1 by grind]
theorem zh6 {D nx ny a b ia ib x y ic : F} (h0 : D ≠ 0) (ha : a * ia = 1) (hb : b * ib = 1) (hc : (D + D*nx*ia*x*(D*ny*ib)*y) * ic = 1) :
  (D * (D*nx*ia*y + D*ny*ib*x) * ic) * (a*b + D*nx*ny*x*y) = D * (nx*b*y + ny*a*x) := by
 have h1 : D * (a*b + D*nx*ny*x*y) = a * b * (D + D*nx*ia*x*(D*ny*ib)*y) := by
  have : a * b * (D + D*nx*ia*x*(D*ny*ib)*y) = a * b * D + D*nx*(a*ia)*x*(D*ny*(b*ib))*y := by grind
  rw [this, ha, hb]; grind
 apply Zu h0
 have h2 : D * ((D * (D*nx*ia*y + D*ny*ib*x) * ic) * (a*b + D*nx*ny*x*y)) = (D * (D*nx*ia*y + D*ny*ib*x) * ic) * (D * (a*b + D*nx*ny*x*y)) := by grind
 have h3 : (D * (D*nx*ia*y + D*ny*ib*x) * ic) * (a * b * (D + D*nx*ia*x*(D*ny*ib)*y)) = D * (D*nx*(a*ia)*b*y + D*ny*(b*ib)*a*x) * ((D + D*nx*ia*x*(D*ny*ib)*y) * ic) := by grind
 rw [h2, h1, h3, ha, hb, hc]; grind
theorem zh1 {D nx ny a b ia ib x y ic : F} (h0 : D ≠ 0) (ha : a * ia = 1) (hb : b * ib = 1) (hc : (D - D*nx*ia*x*(D*ny*ib)*y) * ic = 1) :
  (D * (D*ny*ib*y - D*nx*ia*x) * ic) * (a*b - D*nx*ny*x*y) = D * (ny*a*y - nx*b*x) := by
 have h1 : D * (a*b - D*nx*ny*x*y) = a * b * (D - D*nx*ia*x*(D*ny*ib)*y) := by
  have : a * b * (D - D*nx*ia*x*(D*ny*ib)*y) = a * b * D - D*nx*(a*ia)*x*(D*ny*(b*ib))*y := by grind
  rw [this, ha, hb]; grind
 apply Zu h0
 have h2 : D * ((D * (D*ny*ib*y - D*nx*ia*x) * ic) * (a*b - D*nx*ny*x*y)) = (D * (D*ny*ib*y - D*nx*ia*x) * ic) * (D * (a*b - D*nx*ny*x*y)) := by grind
 have h3 : (D * (D*ny*ib*y - D*nx*ia*x) * ic) * (a * b * (D - D*nx*ia*x*(D*ny*ib)*y)) = D * (D*ny*(b*ib)*a*y - D*nx*(a*ia)*b*x) * ((D - D*nx*ia*x*(D*ny*ib)*y) * ic) := by grind
 rw [h2, h1, h3, ha, hb, hc]; grind
theorem z8J {D nx ny a b ia ib x y : F} (ha0 : a ≠ 0) (hb0 : b ≠ 0) (ha : a * ia = 1) (hb : b * ib = 1) (hc : D + D*nx*ia*x*(D*ny*ib)*y ≠ 0) : a*b + D*nx*ny*x*y ≠ 0 := fun h => by
 have h1 : D * (a*b + D*nx*ny*x*y) = a * b * (D + D*nx*ia*x*(D*ny*ib)*y) := by
  have : a * b * (D + D*nx*ia*x*(D*ny*ib)*y) = a * b * D + D*nx*(a*ia)*x*(D*ny*(b*ib))*y := by grind
  rw [this, ha, hb]; grind
 rw [h] at h1
 have h2 : a * b * (D + D*nx*ia*x*(D*ny*ib)*y) = 0 := by rw [← h1]; grind
 rcases wQ h2 with h3 | h3
 ·exact xi ha0 hb0 h3
 ·exact hc h3
theorem zaf {D nx ny a b ia ib x y : F} (ha0 : a ≠ 0) (hb0 : b ≠ 0) (ha : a * ia = 1) (hb : b * ib = 1) (hc : D - D*nx*ia*x*(D*ny*ib)*y ≠ 0) : a*b - D*nx*ny*x*y ≠ 0 := fun h => by
 have h1 : D * (a*b - D*nx*ny*x*y) = a * b * (D - D*nx*ia*x*(D*ny*ib)*y) := by
  have : a * b * (D - D*nx*ia*x*(D*ny*ib)*y) = a * b * D - D*nx*(a*ia)*x*(D*ny*(b*ib))*y := by grind
  rw [this, ha, hb]; grind
 rw [h] at h1
 have h2 : a * b * (D - D*nx*ia*x*(D*ny*ib)*y) = 0 := by rw [← h1]; grind
 rcases wQ h2 with h3 | h3
 ·exact xi ha0 hb0 h3
 ·exact hc h3
theorem zkx {T T' d1 d2 n1 n2 D : F} (h1 : T * d1 = D * n1) (h2 : T' * d2 = D * n2) (hd1 : d1 ≠ 0) (hd2 : d2 ≠ 0) (h : n1 * d2 - n2 * d1 = 0) : T = T' := by
 apply Zu (xi hd1 hd2)
 have e1 : d1 * d2 * T = T * d1 * d2 := by grind
 have e2 : d1 * d2 * T' = T' * d2 * d1 := by grind
 rw [e1, e2, h1, h2]
 have e3 : D * n1 * d2 - D * n2 * d1 = D * (n1 * d2 - n2 * d1) := by grind
 rw [h] at e3
 grind
theorem yZ {a b : F} (h : a * b = 1) : a ≠ 0 := fun h0 => by
 rw [h0] at h
 exact XR (by rw [← h]; grind)
theorem zfn (a b c : F) : a * 0 + b * 0 + c * 0 = 0 := by grind
theorem znX {D x1 y1 x2 y2 x3 y3 ia ib ic ja jb jc : F} (h0 : D ≠ 0) (e1 : x1*x1*(y1*y1) = D*(x1*x1+y1*y1-1)) (e2 : x2*x2*(y2*y2) = D*(x2*x2+y2*y2-1)) (e3 : x3*x3*(y3*y3) = D*(x3*x3+y3*y3-1))
  (a1 : (D+x1*x2*y1*y2)*ia = 1) (a2 : (D-x1*x2*y1*y2)*ib = 1) (b1 : (D+x2*x3*y2*y3)*ja = 1) (b2 : (D-x2*x3*y2*y3)*jb = 1) (c1 : (D + D*(x1*y2+y1*x2)*ia*x3*(D*(y1*y2-x1*x2)*ib)*y3)*ic = 1) (c2 : (D + D*(x2*y3+y2*x3)*ja*x1*(D*(y2*y3-x2*x3)*jb)*y1)*jc = 1) :
  D*(D*(x1*y2+y1*x2)*ia*y3 + D*(y1*y2-x1*x2)*ib*x3)*ic = D*(D*(x2*y3+y2*x3)*ja*y1 + D*(y2*y3-x2*x3)*jb*x1)*jc := by
 have hx := zhu D x1 y1 x2 y2 x3 y3
 rw [xy e1, xy e2, xy e3] at hx
 exact zkx (zh6 h0 a1 a2 c1) (zh6 h0 b1 b2 c2) (z8J (yZ a1) (yZ a2) a1 a2 (yZ c1)) (z8J (yZ b1) (yZ b2) b1 b2 (yZ c2)) (hx.trans (zfn _ _ _))
theorem znx {D x1 y1 x2 y2 x3 y3 ia ib ic ja jb jc : F} (h0 : D ≠ 0) (e1 : x1*x1*(y1*y1) = D*(x1*x1+y1*y1-1)) (e2 : x2*x2*(y2*y2) = D*(x2*x2+y2*y2-1)) (e3 : x3*x3*(y3*y3) = D*(x3*x3+y3*y3-1))
  (a1 : (D+x1*x2*y1*y2)*ia = 1) (a2 : (D-x1*x2*y1*y2)*ib = 1) (b1 : (D+x2*x3*y2*y3)*ja = 1) (b2 : (D-x2*x3*y2*y3)*jb = 1) (c1 : (D - D*(x1*y2+y1*x2)*ia*x3*(D*(y1*y2-x1*x2)*ib)*y3)*ic = 1) (c2 : (D - D*(x2*y3+y2*x3)*ja*x1*(D*(y2*y3-x2*x3)*jb)*y1)*jc = 1) :
  D*(D*(y1*y2-x1*x2)*ib*y3 - D*(x1*y2+y1*x2)*ia*x3)*ic = D*(D*(y2*y3-x2*x3)*jb*y1 - D*(x2*y3+y2*x3)*ja*x1)*jc := by
 have hx := zhH D x1 y1 x2 y2 x3 y3
 rw [xy e1, xy e2, xy e3] at hx
 exact zkx (zh1 h0 a1 a2 c1) (zh1 h0 b1 b2 c2) (zaf (yZ a1) (yZ a2) a1 a2 (yZ c1)) (zaf (yZ b1) (yZ b2) b1 b2 (yZ c2)) (hx.trans (zfn _ _ _))
theorem VE {D : F} {P Q R : Pt} (hD : NoSq D) (hP : xd D P) (hQ : xd D Q) (hR : xd D R) : yK D (yK D P Q) R = yK D P (yK D Q R) := by
 rw [Y5 D P (yK D Q R)]
 have hS := XX hD hP hQ
 have hS' := XX hD hQ hR
 have a1 := yH (z3D hD hP hQ)
 have a2 := yH (W8 hD hP hQ)
 have b1 := yH (z3D hD hQ hR)
 have b2 := yH (W8 hD hQ hR)
 have c1 := yH (z3D hD hS hR)
 have c2 := yH (z3D hD hS' hP)
 have d1 := yH (W8 hD hS hR)
 have d2 := yH (W8 hD hS' hP)
 obtain ⟨x1, y1⟩ := P
 obtain ⟨x2, y2⟩ := Q
 obtain ⟨x3, y3⟩ := R
 simp only [xd] at hP hQ hR
 simp only [yK] at a1 a2 b1 b2 c1 c2 d1 d2 ⊢
 exact Prod.ext (znX hD.ne hP hQ hR a1 a2 b1 b2 c1 c2) (znx hD.ne hP hQ hR a1 a2 b1 b2 d1 d2)
theorem zl7 {D x y : F} (h : x * x * (y * y) = D * (x * x + y * y - 1)) : D * (y * y - x * -x) = D - x * -x * y * y := by grind
theorem zlx (D : F) : xd D edO := by unfold xd edO; grind
theorem z12 {D : F} {P : Pt} (h : xd D P) : xd D (z6m P) := by unfold xd z6m at *; grind
theorem W9 {D : F} (h0 : D ≠ 0) (P : Pt) : yK D P edO = P := by
 have := yH h0
 apply Prod.ext
 ·show D * (P.1 * 1 + P.2 * 0) * fiv (D + P.1 * 0 * P.2 * 1) = P.1
  rw [show D + P.1 * 0 * P.2 * 1 = D by grind]; grind
 ·show D * (P.2 * 1 - P.1 * 0) * fiv (D - P.1 * 0 * P.2 * 1) = P.2
  rw [show D - P.1 * 0 * P.2 * 1 = D by grind]; grind
theorem zaI {D : F} {P : Pt} (hD : NoSq D) (h : xd D P) : yK D P (z6m P) = edO := by
 have h1 := yH (W8 hD h (z12 h))
 apply Prod.ext
 ·show D * (P.1 * P.2 + P.2 * -P.1) * _ = 0
  grind
 ·have h1' : (D - P.1 * -P.1 * P.2 * P.2) * fiv (D - P.1 * -P.1 * P.2 * P.2) = 1 := h1
  show D * (P.2 * P.2 - P.1 * -P.1) * fiv (D - P.1 * -P.1 * P.2 * P.2) = 1
  have e : D * (P.2 * P.2 - P.1 * -P.1) = D - P.1 * -P.1 * P.2 * P.2 := zl7 h
  rw [e]; exact h1'
def yN (D : F) : Nat → Pt → Pt
 | 0, _ => edO
 | n + 1, P => yK D (yN D n P) P
theorem xS {D : F} {P : Pt} (hD : NoSq D) (h : xd D P) : ∀ n, xd D (yN D n P)
 | 0 => zlx D
 | n + 1 => XX hD (xS hD h n) h
theorem vX {D : F} {P : Pt} (hD : NoSq D) (h : xd D P) (a : Nat) : ∀ b, yN D (a + b) P = yK D (yN D a P) (yN D b P)
 | 0 => (W9 hD.ne _).symm
 | b + 1 => by
  show yK D (yN D (a + b) P) P = yK D (yN D a P) (yK D (yN D b P) P)
  rw [vX hD h a b, VE hD (xS hD h a) (xS hD h b) h]
theorem wm {D : F} {P : Pt} (hD : NoSq D) (h : xd D P) (b : Nat) : ∀ a, yN D (a * b) P = yN D a (yN D b P)
 | 0 => by rw [Nat.zero_mul]; rfl
 | a + 1 => by
  rw [Nat.succ_mul, vX hD h, wm hD h b a]; rfl
theorem Vv {D : F} (h0 : D ≠ 0) (P : Pt) : yN D 1 P = P := by
 show yK D edO P = P
 rw [Y5]; exact W9 h0 P
theorem znG {D : F} {P Q : Pt} (hD : NoSq D) (hP : xd D P) (hQ : xd D Q) : yK D (yK D Q P) (z6m Q) = P := by
 rw [Y5 D Q P, VE hD hP hQ (z12 hQ), zaI hD hQ, W9 hD.ne]
end Go.Proofs.YtacflmjoigffpaaGreatDoor
namespace Go.Proofs.YtacflmjoigffpaaGreatDoor
set_option maxHeartbeats 1000000
def Yy (p : Pt) (P : Pt) : Prop := p.1 + p.2 ≠ 0 ∧ p.1 - p.2 = (p.1 + p.2) * P.2
def WC (g : F) (p : Pt) : Pt :=
  ((p.1 + p.2) * (p.1 + p.2) * ((p.1 - p.2) * (p.1 - p.2)),
   ((p.1 + p.2) * (p.1 + p.2) - (p.1 - p.2) * (p.1 - p.2)) * ((p.1 - p.2) * (p.1 - p.2) + g * ((p.1 + p.2) * (p.1 + p.2) - (p.1 - p.2) * (p.1 - p.2))))
def Zs (u : F) (p q : Pt) : Pt :=
  (((p.1 - p.2) * (q.1 + q.2) + (p.1 + p.2) * (q.1 - q.2)) * ((p.1 - p.2) * (q.1 + q.2) + (p.1 + p.2) * (q.1 - q.2)),
   u * (((p.1 - p.2) * (q.1 + q.2) - (p.1 + p.2) * (q.1 - q.2)) * ((p.1 - p.2) * (q.1 + q.2) - (p.1 + p.2) * (q.1 - q.2))))
theorem zgj {X Z y : F} (h : X * (1 - y) = Z * (1 + y)) (hn : X = 0 → Z ≠ 0) : X + Z ≠ 0 ∧ X - Z = (X + Z) * y := by
 have h1 : X - Z = (X + Z) * y := by grobner
 refine ⟨fun h0 => ?_, h1⟩
 rw [h0] at h1
 have h2 : 2 * X = 0 := by grobner
 rcases wQ h2 with h3 | h3
 ·exact ZU h3
 ·exact hn h3 (by grobner)
theorem zjr {D g x y : F} (hg : D * (g - 1) = g) (e : x * x * (y * y) = D * (x * x + y * y - 1)) : (y * y + g * (1 - y * y)) * (1 - x * x) = y * y := by
 have h1 : (y * y + g * (1 - y * y)) * (1 - x * x) - y * y = (g - 1) * (x * x * (y * y)) - g * (x * x + y * y - 1) := by grobner
 rw [e] at h1
 have h2 : (g - 1) * (D * (x * x + y * y - 1)) = D * (g - 1) * (x * x + y * y - 1) := by grobner
 rw [h2, hg] at h1
 grobner
theorem znz {D x y v : F} (h0 : D ≠ 0) (e : x * x * (y * y) = D * (x * x + y * y - 1)) (hv : v * (D - x * x * y * y) = D * (y * y - x * x)) : v * (2 - x * x - y * y) = y * y - x * x := by
 apply Zu h0
 have h1 : D - x * x * y * y = D * (2 - x * x - y * y) := by grobner
 rw [h1] at hv
 rw [← hv]; grobner
theorem zji {g x y v w : F} (hk : (y * y + g * (1 - y * y)) * (1 - x * x) = y * y) (hv : v * (2 - x * x - y * y) = y * y - x * x) (hn : 2 - x * x - y * y ≠ 0) :
  (w * w * (w * y * (w * y))) * (1 - v) = ((w * w - w * y * (w * y)) * (w * y * (w * y) + g * (w * w - w * y * (w * y)))) * (1 + v) := by
 apply Zu hn
 have h1 : (2 - x * x - y * y) * ((w * w * (w * y * (w * y))) * (1 - v)) = w * w * (w * w) * (y * y) * ((2 - x * x - y * y) - v * (2 - x * x - y * y)) := by grobner
 have h2 : (2 - x * x - y * y) * (((w * w - w * y * (w * y)) * (w * y * (w * y) + g * (w * w - w * y * (w * y)))) * (1 + v)) = w * w * (w * w) * (1 - y * y) * (y * y + g * (1 - y * y)) * ((2 - x * x - y * y) + v * (2 - x * x - y * y)) := by grobner
 rw [h1, h2, hv]
 have h3 : w * w * (w * w) * (1 - y * y) * (y * y + g * (1 - y * y)) * ((2 - x * x - y * y) + (y * y - x * x)) = w * w * (w * w) * (1 - y * y) * 2 * ((y * y + g * (1 - y * y)) * (1 - x * x)) := by grobner
 rw [h3, hk]; grobner
theorem z09 {a : F} (h : a * a = 0) : a = 0 := by rcases wQ h with h1 | h1 <;> exact h1
theorem zmb {g y w : F} (hw : w ≠ 0) (hg : g ≠ 0) (h : w * w * (w * y * (w * y)) = 0) : (w * w - w * y * (w * y)) * (w * y * (w * y) + g * (w * w - w * y * (w * y))) ≠ 0 := by
 have h1 : (w * w * y) * (w * w * y) = 0 := by rw [← h]; grobner
 have hy : y = 0 := by
  rcases wQ (z09 h1) with h2 | h2
  ·exact absurd h2 (xi hw hw)
  ·exact h2
 subst hy
 have e : (w * w - w * 0 * (w * 0)) * (w * 0 * (w * 0) + g * (w * w - w * 0 * (w * 0))) = w * w * (w * w) * g := by grobner
 rw [e]
 exact xi (xi (xi hw hw) (xi hw hw)) hg
theorem z4B {D g : F} {p Q : Pt} (hD : NoSq D) (hg : D * (g - 1) = g) (hg0 : g ≠ 0) (hQ : xd D Q) (h : Yy p Q) : Yy (WC g p) (yK D Q Q) := by
 obtain ⟨X, Z⟩ := p
 have hd := W8 hD hQ hQ
 have hi := yH hd
 obtain ⟨x, y⟩ := Q
 obtain ⟨hw, he⟩ := h
 simp only [xd] at hQ
 simp only [yK] at *
 generalize fiv (D - x * x * y * y) = ib at *
 have hv : D * (y * y - x * x) * ib * (D - x * x * y * y) = D * (y * y - x * x) := by
  have : D * (y * y - x * x) * ib * (D - x * x * y * y) = D * (y * y - x * x) * ((D - x * x * y * y) * ib) := by grobner
  rw [this, hi]; grobner
 have hn : 2 - x * x - y * y ≠ 0 := fun h0 => hd (by
  have : D - x * x * y * y = D * (2 - x * x - y * y) := by grobner
  rw [this, h0]; grobner)
 unfold Yy WC
 simp only
 rw [he]
 exact zgj (zji (zjr hg hQ) (znz hD.ne hQ hv) hn) (zmb hw hg0)
theorem zmG (D x1 y1 x2 y2 : F) : (D - x1*x2*y1*y2 + D*(y1*y2-x1*x2)) * (D + x1*x2*y1*y2 + D*(y1*y2+x1*x2)) * ((y1-y2)*(y1-y2)) - (D - x1*x2*y1*y2 - D*(y1*y2-x1*x2)) * (D + x1*x2*y1*y2 - D*(y1*y2+x1*x2)) * ((y1+y2)*(y1+y2)) =
  (-4*D*(x2*x2)*y1*y2 + 4*(x2*x2)*y1*(y2*y2*y2)) * (x1*x1*(y1*y1) - D*(x1*x1+y1*y1-1)) + (4*D*(y1*y1*y1)*y2 - 4*D*y1*y2) * (x2*x2*(y2*y2) - D*(x2*x2+y2*y2-1)) := by grobner
theorem zi3 {a b v m p q z1 z2 : F} (h : (b + v * b) * (a + m * a) * p - (b - v * b) * (a - m * a) * q = z1 * 0 + z2 * 0) : a * b * ((1 + v) * (1 + m) * p) = a * b * ((1 - v) * (1 - m) * q) := by
 have h1 : a * b * ((1 + v) * (1 + m) * p) - a * b * ((1 - v) * (1 - m) * q) = (b + v * b) * (a + m * a) * p - (b - v * b) * (a - m * a) * q := by grobner
 rw [h] at h1
 grobner
theorem zmX {D x1 y1 x2 y2 v m : F} (e1 : x1*x1*(y1*y1) = D*(x1*x1+y1*y1-1)) (e2 : x2*x2*(y2*y2) = D*(x2*x2+y2*y2-1))
  (hp : D + x1*x2*y1*y2 ≠ 0) (hm : D - x1*x2*y1*y2 ≠ 0) (hv : v * (D - x1*x2*y1*y2) = D*(y1*y2-x1*x2)) (hmm : m * (D + x1*x2*y1*y2) = D*(y1*y2+x1*x2)) :
  (1 + v) * (1 + m) * ((y1-y2)*(y1-y2)) = (1 - v) * (1 - m) * ((y1+y2)*(y1+y2)) := by
 have h := zmG D x1 y1 x2 y2
 rw [xy e1, xy e2, ← hv, ← hmm] at h
 exact Zu (xi hp hm) (zi3 h)
theorem zi0 {y1 y2 v m u w1 w2 : F} (hu : u * (1 - m) = 1 + m) (h : (1 + v) * (1 + m) * ((y1-y2)*(y1-y2)) = (1 - v) * (1 - m) * ((y1+y2)*(y1+y2))) (hm : 1 - m ≠ 0) :
  ((w1 * y1 * w2 + w1 * (w2 * y2)) * (w1 * y1 * w2 + w1 * (w2 * y2))) * (1 - v) = (u * ((w1 * y1 * w2 - w1 * (w2 * y2)) * (w1 * y1 * w2 - w1 * (w2 * y2)))) * (1 + v) := by
 apply Zu hm
 have h1 : (1 - m) * ((u * ((w1 * y1 * w2 - w1 * (w2 * y2)) * (w1 * y1 * w2 - w1 * (w2 * y2)))) * (1 + v)) = (w1 * w2) * (w1 * w2) * ((1 + v) * (u * (1 - m)) * ((y1-y2)*(y1-y2))) := by grobner
 rw [h1, hu, h]; grobner
theorem zo1 {w1 w2 y1 y2 : F} (h : w1 * y1 * w2 + w1 * (w2 * y2) = 0) : w1 * w2 * (y1 + y2) = w1 * w2 * 0 := by grobner
theorem zng {w1 w2 y1 y2 : F} (h : w1 * y1 * w2 - w1 * (w2 * y2) = 0) : w1 * w2 * (y1 - y2) = w1 * w2 * 0 := by grobner
theorem zmn {y1 y2 : F} (h1 : y1 + y2 = 0) (h2 : y1 - y2 = 0) : y1 = 0 ∧ y2 = 0 := by
 have h3 : 2 * y1 = 0 := by grobner
 have h4 : 2 * y2 = 0 := by grobner
 refine ⟨?_, ?_⟩
 ·rcases wQ h3 with h | h
  ·exact absurd h ZU
  ·exact h
 ·rcases wQ h4 with h | h
  ·exact absurd h ZU
  ·exact h
theorem zk6 {D x : F} (h0 : D ≠ 0) (e : x * x * (0 * 0) = D * (x * x + 0 * 0 - 1)) : x * x = 1 := Zu h0 (by
 have h1 : D * (x * x) = D * (x * x + 0 * 0 - 1) + D * 1 := by clear e; grobner
 rw [h1, ← e]; clear h1 e; grobner)
theorem zmP {D x1 x2 m : F} (h : m * (D + x1 * x2 * 0 * 0) = D * (0 * 0 + x1 * x2)) : D * m = D * (x1 * x2) := by grobner
theorem zoD {x1 x2 m : F} (h1 : x1 * x1 = 1) (h2 : x2 * x2 = 1) (h : m = x1 * x2) : m * m = 1 := by
 rw [h]
 have : x1 * x2 * (x1 * x2) = x1 * x1 * (x2 * x2) := by grobner
 rw [this, h1, h2]; grobner
theorem znS {u : F} (h : u * (1 - 1) = 1 + 1) : (2 : F) = 0 := by grobner
theorem zkD {u : F} (h : u * (1 - -1) = 1 + -1) : u * 2 = 0 := by grobner
theorem zl3 {D x1 y1 x2 y2 m u w1 w2 : F} (h0 : D ≠ 0) (e1 : x1*x1*(y1*y1) = D*(x1*x1+y1*y1-1)) (e2 : x2*x2*(y2*y2) = D*(x2*x2+y2*y2-1)) (hmm : m * (D + x1*x2*y1*y2) = D*(y1*y2+x1*x2))
  (hu : u * (1 - m) = 1 + m) (hu0 : u ≠ 0) (hw1 : w1 ≠ 0) (hw2 : w2 ≠ 0) (hX : (w1 * y1 * w2 + w1 * (w2 * y2)) * (w1 * y1 * w2 + w1 * (w2 * y2)) = 0) :
  u * ((w1 * y1 * w2 - w1 * (w2 * y2)) * (w1 * y1 * w2 - w1 * (w2 * y2))) ≠ 0 := fun hZ => by
 have hW := xi hw1 hw2
 have a1 : y1 + y2 = 0 := Zu hW (zo1 (z09 hX))
 have a2 : y1 - y2 = 0 := Zu hW (by
  rcases wQ hZ with h | h
  ·exact absurd h hu0
  ·exact zng (z09 h))
 obtain ⟨rfl, rfl⟩ := zmn a1 a2
 have b4 := zoD (zk6 h0 e1) (zk6 h0 e2) (Zu h0 (zmP hmm))
 rcases z7w b4 with h | h
 ·rw [h] at hu; exact ZU (znS hu)
 ·rw [h] at hu
  rcases wQ (zkD hu) with h | h
  ·exact hu0 h
  ·exact ZU h
theorem z7m {u m : F} (hu : u * (1 - m) = 1 + m) : 1 - m ≠ 0 := fun h => by
 have : m = 1 := by grobner
 subst this
 exact ZU (by grobner)
theorem z1u {D u : F} {p q Q P : Pt} (hD : NoSq D) (hP : xd D P) (hu : u * (1 - P.2) = 1 + P.2) (hu0 : u ≠ 0) (hQ : xd D Q) (h : Yy p Q) (h' : Yy q (yK D Q P)) : Yy (Zs u p q) (yK D Q (yK D Q P)) := by
 have hR := XX hD hQ hP
 have hS := znG hD hP hQ
 generalize yK D Q P = R at *
 have dp := z3D hD hQ hR
 have dm := W8 hD hQ hR
 have im := yH dm
 have dn := W8 hD hR (z12 hQ)
 have inn := yH dn
 have hS2 := congrArg Prod.snd hS
 obtain ⟨X1, Z1⟩ := p
 obtain ⟨X2, Z2⟩ := q
 obtain ⟨x1, y1⟩ := Q
 obtain ⟨x2, y2⟩ := R
 obtain ⟨xp, m⟩ := P
 obtain ⟨hw1, he1⟩ := h
 obtain ⟨hw2, he2⟩ := h'
 simp only [xd] at hQ hR
 simp only [yK, z6m] at *
 generalize fiv (D - x1 * x2 * y1 * y2) = ib at *
 generalize fiv (D - x2 * -x1 * y2 * y1) = ic at *
 have hv : D * (y1 * y2 - x1 * x2) * ib * (D - x1 * x2 * y1 * y2) = D * (y1 * y2 - x1 * x2) := by
  have : D * (y1 * y2 - x1 * x2) * ib * (D - x1 * x2 * y1 * y2) = D * (y1 * y2 - x1 * x2) * ((D - x1 * x2 * y1 * y2) * ib) := by grobner
  rw [this, im]; grobner
 have hmm : m * (D + x1 * x2 * y1 * y2) = D * (y1 * y2 + x1 * x2) := by
  have e : D - x2 * -x1 * y2 * y1 = D + x1 * x2 * y1 * y2 := by grobner
  rw [e] at inn
  rw [← hS2]
  have : D * (y2 * y1 - x2 * -x1) * ic * (D + x1 * x2 * y1 * y2) = D * (y2 * y1 - x2 * -x1) * ((D + x1 * x2 * y1 * y2) * ic) := by grobner
  rw [this, inn]; grobner
 unfold Yy Zs
 simp only
 rw [he1, he2]
 exact zgj (zi0 hu (zmX hQ hR dp dm hv hmm) (z7m hu)) (zl3 hD.ne hQ hR hmm hu hu0 hw1 hw2)
end Go.Proofs.YtacflmjoigffpaaGreatDoor
namespace Go.Proofs.YtacflmjoigffpaaGreatDoor
set_option maxHeartbeats 1000000
def vO (g u : F) (n : Nat) : Nat → Pt × Pt
 | 0 => ((1, 0), (u, 1))
 | j + 1 => if n / 2 ^ (254 - j) % 2 = 1 then (Zs u (vO g u n j).1 (vO g u n j).2, WC g (vO g u n j).2) else (WC g (vO g u n j).1, Zs u (vO g u n j).1 (vO g u n j).2)
def ZV (g u : F) (n : Nat) : F := (vO g u n 255).1.1 * fiv (vO g u n 255).1.2
theorem VV (Rq : Pt → Pt → Prop) {D g u : F} {P : Pt} {n : Nat} (hD : NoSq D) (hP : xd D P) (hn : n < 2 ^ 255) (h0 : Rq (1, 0) edO) (h1 : Rq (u, 1) P)
  (hdbl : ∀ p Q, xd D Q → Rq p Q → Rq (WC g p) (yK D Q Q)) (hwith : ∀ p q Q, xd D Q → Rq p Q → Rq q (yK D Q P) → Rq (Zs u p q) (yK D Q (yK D Q P))) :
  ∀ j, j ≤ 255 → Rq (vO g u n j).1 (yN D (n / 2 ^ (255 - j)) P) ∧ Rq (vO g u n j).2 (yN D (n / 2 ^ (255 - j) + 1) P)
 | 0, _ => by
  have e : n / 2 ^ (255 - 0) = 0 := Nat.div_eq_of_lt hn
  rw [e]
  exact ⟨h0, by rw [Vv hD.ne]; exact h1⟩
 | j + 1, hj => by
  obtain ⟨i1, i2⟩ := VV Rq hD hP hn h0 h1 hdbl hwith j (by omega)
  have e1 : 255 - (j + 1) = 254 - j := by omega
  have e2 : n / 2 ^ (255 - j) = n / 2 ^ (254 - j) / 2 := by
   rw [show 255 - j = 254 - j + 1 by omega, Nat.pow_succ, Nat.div_div_eq_div_mul]
  rw [e1]
  rw [e2] at i1 i2
  unfold vO
  generalize n / 2 ^ (254 - j) = k at *
  have o1 := xS hD hP (k / 2)
  have o2 := xS hD hP (k / 2 + 1)
  have w := hwith _ _ _ o1 i1 i2
  have a1 := vX hD hP (k / 2) (k / 2 + 1)
  have a0 := vX hD hP (k / 2) (k / 2)
  have a2 := vX hD hP (k / 2 + 1) (k / 2 + 1)
  have w' : Rq (Zs u (vO g u n j).1 (vO g u n j).2) (yN D (k / 2 + (k / 2 + 1)) P) := by rw [a1]; exact w
  split
  ·rename_i hb
   refine ⟨?_, ?_⟩
   ·rw [show k / 2 + (k / 2 + 1) = k by omega] at w'; exact w'
   ·have := hdbl _ _ o2 i2
    rw [← a2, show k / 2 + 1 + (k / 2 + 1) = k + 1 by omega] at this; exact this
  ·rename_i hb
   refine ⟨?_, ?_⟩
   ·have := hdbl _ _ o1 i1
    rw [← a0, show k / 2 + k / 2 = k by omega] at this; exact this
   ·rw [show k / 2 + (k / 2 + 1) = k + 1 by omega] at w'; exact w'
def kap (P : Pt) : F := (1 + P.2) * fiv (1 - P.2)
theorem zj2 {X Z y i k : F} (h : X - Z = (X + Z) * y) (hi : Z * i = 1) (hk : (1 - y) * k = 1) : Z * (1 - y) * (X * i) = Z * (1 - y) * ((1 + y) * k) := by
 have h1 : Z * (1 - y) * (X * i) = X * (1 - y) * (Z * i) := by clear h hi hk; grobner
 have h2 : Z * (1 - y) * ((1 + y) * k) = Z * (1 + y) * ((1 - y) * k) := by clear h hi hk h1; grobner
 rw [h1, h2, hi, hk]
 clear hi hk h1 h2
 grobner
theorem zig {X Z y : F} (h : X - Z = (X + Z) * y) (hy : 1 - y = 0) : 2 * Z = 0 := by grobner
theorem zfB {X Z y : F} (h : X - Z = (X + Z) * y) : 2 * Z = (X + Z) * (1 - y) := by grobner
theorem Zv (a : F) : a * 0 = 0 := by grobner
theorem z9F {p P : Pt} (h : Yy p P) : p.1 * fiv p.2 = kap P := by
 obtain ⟨hw, he⟩ := h
 unfold kap
 by_cases hy : 1 - P.2 = 0
 ·have hz : p.2 = 0 := by
   rcases wQ (zig he hy) with h | h
   ·exact absurd h ZU
   ·exact h
  rw [hz, hy, z0i, Zv, Zv]
 ·have hz : p.2 ≠ 0 := fun h0 => by
   have := zfB he
   rw [h0, Zv] at this
   rw [h0] at hw
   exact xi hw hy this.symm
  exact Zu (xi hz hy) (zj2 he (yH hz) (yH hy))
def tw (p : Pt) : Pt := (-p.1, p.2)
theorem z9n {p P : Pt} (h : Yy p P) : Yy (-p.1, -p.2) P := by
 obtain ⟨hw, he⟩ := h
 refine ⟨fun h0 => hw ?_, ?_⟩
 ·have h0' : -p.1 + -p.2 = 0 := h0
  clear he h0; grobner
 ·show -p.1 - -p.2 = (-p.1 + -p.2) * P.2
  grobner
theorem zlM (g : F) (p : Pt) : tw (WC g p) = (-(WC (1 - g) (tw p)).1, -(WC (1 - g) (tw p)).2) := by
 obtain ⟨X, Z⟩ := p
 simp only [tw, WC]
 refine Prod.ext ?_ ?_
 ·simp only; grobner
 ·simp only; grobner
theorem ziM (u : F) (p q : Pt) : tw (Zs u p q) = (-(Zs (-u) (tw p) (tw q)).1, -(Zs (-u) (tw p) (tw q)).2) := by
 obtain ⟨X, Z⟩ := p
 obtain ⟨X', Z'⟩ := q
 simp only [tw, Zs]
 refine Prod.ext ?_ ?_
 ·simp only; grobner
 ·simp only; grobner
theorem V8 {u y x : F} (h : u * (1 - y) = 1 + y) : Yy (u, 1) (x, y) := by
 refine ⟨fun h0 => ?_, ?_⟩
 ·have h0' : u + 1 = 0 := h0
  exact ZU (by clear h0; grobner)
 ·show u - 1 = (u + 1) * y
  grobner
theorem z8I : Yy (1, 0) edO := ⟨by decide +kernel, by decide +kernel⟩
theorem zmE : Yy (tw (1, 0)) edO := ⟨by decide +kernel, by decide +kernel⟩
abbrev gC : F := 121666
abbrev D1 : F := 28692721048178265397853269683490922171210976843790175684556505508326675974058
abbrev D2 : F := 20800338683988658368647408995589388737092878452977063003340006470870624536394
theorem zhU : fpw D1 HP = -1 := z40 D1 HP (by decide) (-1) (by decide +kernel)
theorem za2 : fpw D2 HP = -1 := z40 D2 HP (by decide) (-1) (by decide +kernel)
theorem xK : NoSq D1 := z9z zhU
theorem z9I : NoSq D2 := z9z za2
theorem D12 : D1 * D2 = 1 := by decide +kernel
theorem z3T {P : Pt} {w : F} {n : Nat} (hP : xd D1 P) (hw : w ≠ 0) (h : w * (1 - P.2) = 1 + P.2) (hn : n < 2 ^ 255) : ZV gC w n = kap (yN D1 n P) := by
 have := (VV (g := gC) Yy xK hP hn z8I (V8 (x := P.1) h) (fun p Q hQ hr => z4B xK (by decide +kernel) (by decide +kernel) hQ hr) (fun p q Q hQ hr hr' => z1u xK hP h hw hQ hr hr') 255 (Nat.le_refl _)).1
 rw [show n / 2 ^ (255 - 255) = n by simp] at this
 exact z9F this
theorem zkB {a : F} (h : a ≠ 0) : -a ≠ 0 := fun h0 => h (by grobner)
theorem zjd {X z k : F} (h : -X * z = k) : X * z = -k := by grobner
theorem zlm {P : Pt} {w : F} {n : Nat} (hP : xd D2 P) (hw : w ≠ 0) (h : -w * (1 - P.2) = 1 + P.2) (hn : n < 2 ^ 255) : ZV gC w n = -kap (yN D2 n P) := by
 have := (VV (g := gC) (fun p Q => Yy (tw p) Q) z9I hP hn zmE (V8 (x := P.1) h)
  (fun p Q hQ hr => by rw [zlM]; exact z9n (z4B z9I (by decide +kernel) (by decide +kernel) hQ hr))
  (fun p q Q hQ hr hr' => by rw [ziM]; exact z9n (z1u z9I hP h (zkB hw) hQ hr hr')) 255 (Nat.le_refl _)).1
 rw [show n / 2 ^ (255 - 255) = n by simp] at this
 exact zjd (z9F this)
theorem zkl (g : F) {p : Pt} (h : p.1 * p.2 = 0) : (WC g p).1 * (WC g p).2 = 0 := by
 have e : (WC g p).2 = p.1 * p.2 * (4 * ((p.1 - p.2) * (p.1 - p.2) + g * ((p.1 + p.2) * (p.1 + p.2) - (p.1 - p.2) * (p.1 - p.2)))) := by
  show ((p.1 + p.2) * (p.1 + p.2) - (p.1 - p.2) * (p.1 - p.2)) * ((p.1 - p.2) * (p.1 - p.2) + g * ((p.1 + p.2) * (p.1 + p.2) - (p.1 - p.2) * (p.1 - p.2))) = _
  clear h; grobner
 rw [e, h]
 generalize (WC g p).1 = a
 clear e h; grobner
theorem zgg (p q : Pt) : (Zs 0 p q).1 * (Zs 0 p q).2 = 0 := by
 have e : (Zs 0 p q).2 = 0 := by
  show 0 * _ = (0 : F)
  grobner
 rw [e, Zv]
theorem zkw (g : F) (n : Nat) : ∀ j, (vO g 0 n j).1.1 * (vO g 0 n j).1.2 = 0 ∧ (vO g 0 n j).2.1 * (vO g 0 n j).2.2 = 0
 | 0 => ⟨by show (1 : F) * 0 = 0; grobner, by show (0 : F) * 1 = 0; grobner⟩
 | j + 1 => by
  obtain ⟨h1, h2⟩ := zkw g n j
  unfold vO
  split
  ·exact ⟨zgg _ _, zkl g h2⟩
  ·exact ⟨zkl g h1, zgg _ _⟩
theorem Va (g : F) (n : Nat) : ZV g 0 n = 0 := by
 unfold ZV
 rcases wQ (zkw g n 255).1 with h | h
 ·rw [h]; generalize fiv _ = a; grobner
 ·rw [h, z0i, Zv]
end Go.Proofs.YtacflmjoigffpaaGreatDoor
namespace Go.Proofs.YtacflmjoigffpaaGreatDoor
set_option maxHeartbeats 1000000
theorem zkd {D x y q i : F} (hx : x * x = q) (hq : q = D * (1 - y * y) * i) (hi : (D - y * y) * i = 1) : x * x * (y * y) = D * (x * x + y * y - 1) := by
 have h1 : q * (D - y * y) = D * (1 - y * y) := by
  have : D * (1 - y * y) * i * (D - y * y) = D * (1 - y * y) * ((D - y * y) * i) := by clear hx hq hi; grobner
  rw [hq, this, hi]; clear this hx hq hi; grobner
 rw [hx]
 clear hx hq hi; grobner
theorem zmV {D D' y r q k i : F} (hDD : D * D' = 1) (hr : r * r = q * D') (hq : q = D * (1 - y * y) * i) (hi : (D - y * y) * i = 1) (hk : y * k = 1) : r * r * (k * k) = D' * (r * r + k * k - 1) := by
 have h1 : q * (D - y * y) = D * (1 - y * y) := by
  have : D * (1 - y * y) * i * (D - y * y) = D * (1 - y * y) * ((D - y * y) * i) := by clear hr hq hi hk hDD; grobner
  rw [hq, this, hi]; clear this hr hq hi hk hDD; grobner
 have h2 : q * (1 - D' * (y * y)) = 1 - y * y := by
  have e1 : q * (1 - D' * (y * y)) = q * (D * D' - D' * (y * y)) := by rw [hDD]
  have e2 : q * (D * D' - D' * (y * y)) = D' * (q * (D - y * y)) := by clear h1 e1 hr hq hi hk hDD; grobner
  have e3 : D' * (D * (1 - y * y)) = D * D' * (1 - y * y) := by clear h1 e1 e2 hr hq hi hk hDD; grobner
  rw [e1, e2, h1, e3, hDD]; clear h1 e1 e2 e3 hr hq hi hk hDD; grobner
 have h3 : r * r = D' * (r * r * (y * y) + 1 - y * y) := by
  rw [hr]
  have e1 : D' * (q * D' * (y * y) + 1 - y * y) = q * D' - D' * (q * (1 - D' * (y * y)) - (1 - y * y)) := by clear h1 h2 hr hq hi hk hDD; grobner
  rw [e1, h2]; clear e1 h1 h2 hr hq hi hk hDD; grobner
 have e4 : D' * (r * r + k * k - 1) = D' * (r * r * ((y * k) * (y * k)) + k * k - (y * k) * (y * k)) := by rw [hk]; clear h1 h2 h3 hr hq hi hk hDD; grobner
 have e5 : D' * (r * r * ((y * k) * (y * k)) + k * k - (y * k) * (y * k)) = k * k * (D' * (r * r * (y * y) + 1 - y * y)) := by clear e4 h1 h2 h3 hr hq hi hk hDD; grobner
 rw [e4, e5, ← h3]; clear e4 e5 h1 h2 h3 hr hq hi hk hDD; grobner
theorem zoB {u i y : F} (hy : y = (u - 1) * i) (hi : (u + 1) * i = 1) : u * (1 - y) = 1 + y := by
 have h1 : (u + 1) * y = u - 1 := by
  have : (u + 1) * ((u - 1) * i) = (u - 1) * ((u + 1) * i) := by clear hy hi; grobner
  rw [hy, this, hi]; clear this hy hi; grobner
 clear hy hi; grobner
theorem zoj {u y k : F} (hy : u * (1 - y) = 1 + y) (hk : y * k = 1) : -u * (1 - k) = 1 + k := by
 have h1 : -u * (1 - k) = k * (u * (1 - y)) := by
  have e1 : -u * (1 - k) = -u * (y * k - k) := by rw [hk]
  rw [e1]; clear e1 hy hk; grobner
 have h2 : k * (1 + y) = k + y * k := by clear hy hk h1; grobner
 rw [h1, hy, h2, hk]; clear h1 h2 hy hk; grobner
theorem ziO : fpw 1 HP = 1 := z40 1 HP (by decide) 1 (by decide +kernel)
theorem zby (u : F) : (∃ P, xd D1 P ∧ u * (1 - P.2) = 1 + P.2) ∨ (∃ P, xd D2 P ∧ -u * (1 - P.2) = 1 + P.2) := by
 by_cases h1 : u + 1 = 0
 ·have hu : u = -1 := by grobner
  subst hu
  exact .inr ⟨(1, 0), by show (1 : F) * 1 * (0 * 0) = D2 * (1 * 1 + 0 * 0 - 1); decide +kernel, by show - -(1 : F) * (1 - 0) = 1 + 0; decide +kernel⟩
 ·obtain ⟨y, hy⟩ : ∃ y, y = (u - 1) * fiv (u + 1) := ⟨_, rfl⟩
  have hyu := zoB hy (yH h1)
  have hd : D1 - y * y ≠ 0 := fun h => XR (xK y 1 (by have : D1 = y * y := by { generalize D1 = d at *; clear hy hyu; grobner }; rw [this]; clear this h hy hyu; grobner))
  have hi := yH hd
  obtain ⟨q, hq⟩ : ∃ q, q = D1 * (1 - y * y) * fiv (D1 - y * y) := ⟨_, rfl⟩
  by_cases hq0 : q = 0
  ·exact .inl ⟨(0, y), zkd (show (0 : F) * 0 = q by rw [hq0]; decide +kernel) hq hi, hyu⟩
  ·rcases zow hq0 with hh | hh
   ·obtain ⟨r, hr⟩ := znn hh
    exact .inl ⟨(r, y), zkd hr hq hi, hyu⟩
   ·have hp : fpw (q * D2) HP = 1 := by rw [z8A, hh, za2]; decide +kernel
    obtain ⟨r, hr⟩ := znn hp
    have hy0 : y ≠ 0 := fun h0 => by
     rw [h0] at hq hi
     have e1 : D1 - 0 * 0 = D1 := by decide +kernel
     have e2 : D1 * (1 - 0 * 0) = D1 := by decide +kernel
     rw [e1] at hq hi
     rw [e2, hi] at hq
     rw [hq, ziO] at hh
     exact absurd hh (by decide +kernel)
    exact .inr ⟨(r, fiv y), zmV D12 hr hq hi (yH hy0), zoj hyu (yH hy0)⟩
theorem NoSq.ne_one {D : F} (h : NoSq D) : D ≠ 1 := fun h1 => XR (h 1 1 (by rw [h1]; decide +kernel))
theorem z19 {D x s : F} (hD : NoSq D) (hs : s * s = 1) (e : x * x * (s * s) = D * (x * x + s * s - 1)) : x = 0 := by
 rw [hs] at e
 have h1 : (x * x) * (1 - D) = 0 := by clear hs; grobner
 rcases wQ h1 with h | h
 ·exact z09 h
 ·exact absurd (show D = 1 by clear hs e h1; grobner) hD.ne_one
theorem Xm {D : F} (h0 : D ≠ 0) : ∀ n, yN D n edO = edO
 | 0 => rfl
 | n + 1 => by
  show yK D (yN D n edO) edO = edO
  rw [Xm h0 n, W9 h0]
theorem zkv {D : F} (h0 : D ≠ 0) : yN D 2 (0, -1) = edO := by
 show yK D (yN D 1 (0, -1)) (0, -1) = edO
 rw [Vv h0]
 have hi := yH h0
 refine Prod.ext ?_ ?_
 ·show D * (0 * -1 + -1 * 0) * fiv (D + 0 * 0 * -1 * -1) = 0
  generalize fiv _ = a; clear hi; grobner
 ·show D * (-1 * -1 - 0 * 0) * fiv (D - 0 * 0 * -1 * -1) = 1
  have e : D - 0 * 0 * -1 * -1 = D := by clear hi; grobner
  have e2 : D * (-1 * -1 - 0 * 0) * fiv D = D * fiv D := by generalize fiv D = a; clear hi e; grobner
  rw [e, e2]; exact hi
theorem zku : kap edO = 0 := by
 show (1 + 1) * fiv (1 - 1) = (0 : F)
 have e : (1 : F) - 1 = 0 := by decide +kernel
 rw [e, z0i, Zv]
theorem z85 {D s g : F} (hD : NoSq D) (hs : s * s = 1) (H : ∀ (P : Pt) (w : F) (n : Nat), xd D P → w ≠ 0 → s * w * (1 - P.2) = 1 + P.2 → n < 2 ^ 255 → ZV g w n = s * kap (yN D n P))
  {P : Pt} (hP : xd D P) {m : Nat} (hm : m < 2 ^ 255) (h2 : m % 2 = 0) : ZV g (s * kap P) m = s * kap (yN D m P) := by
 by_cases hy : 1 - P.2 = 0
 ·have hk : kap P = 0 := by unfold kap; rw [hy, z0i, Zv]
  have e2 : P.2 = 1 := by clear hk hP; grobner
  have hx : P.1 = 0 := z19 hD (s := P.2) (by rw [e2]; decide +kernel) hP
  have hO : P = edO := Prod.ext hx e2
  rw [hk, Zv, Va, hO, Xm hD.ne, zku, Zv]
 ·by_cases hk : kap P = 0
  ·have hi := yH hy
   have e1 : 1 + P.2 = 0 := by
    unfold kap at hk
    rcases wQ hk with h | h
    ·exact h
    ·rw [h, Zv] at hi; exact absurd hi.symm XR
   have e2 : P.2 = -1 := by clear hk hi hP hy; grobner
   have hx : P.1 = 0 := z19 hD (s := P.2) (by rw [e2]; decide +kernel) hP
   have hT : P = (0, -1) := Prod.ext hx e2
   have hm2 : m = m / 2 * 2 := by omega
   rw [hk, Zv, Va, hm2, wm hD hP, hT, zkv hD.ne, Xm hD.ne, zku, Zv]
  ·have hi := yH hy
   refine H P (s * kap P) m hP ?_ ?_ hm
   ·refine xi (fun h => ?_) hk
    rw [h, Zv] at hs
    exact XR hs.symm
   ·unfold kap
    have e : s * (s * ((1 + P.2) * fiv (1 - P.2))) * (1 - P.2) = s * s * ((1 + P.2) * ((1 - P.2) * fiv (1 - P.2))) := by generalize fiv (1 - P.2) = a; clear hi hk hs hP hy; grobner
    rw [e, hs, hi]; clear e hi hk hs hP hy; grobner
theorem zgK {D s g : F} (hD : NoSq D) (hs : s * s = 1) (H : ∀ (P : Pt) (w : F) (n : Nat), xd D P → w ≠ 0 → s * w * (1 - P.2) = 1 + P.2 → n < 2 ^ 255 → ZV g w n = s * kap (yN D n P))
  {P : Pt} {u : F} (hP : xd D P) (hu0 : u ≠ 0) (hu : s * u * (1 - P.2) = 1 + P.2) {m n : Nat} (hm : m < 2 ^ 255) (hn : n < 2 ^ 255) (m2 : m % 2 = 0) (n2 : n % 2 = 0) :
  ZV g (ZV g u n) m = ZV g (ZV g u m) n := by
 rw [H P u n hP hu0 hu hn, H P u m hP hu0 hu hm, z85 hD hs H (xS hD hP n) hm m2, z85 hD hs H (xS hD hP m) hn n2, ← wm hD hP, ← wm hD hP, Nat.mul_comm]
theorem zdw (u : F) {m n : Nat} (hm : m < 2 ^ 255) (hn : n < 2 ^ 255) (m2 : m % 2 = 0) (n2 : n % 2 = 0) : ZV gC (ZV gC u n) m = ZV gC (ZV gC u m) n := by
 by_cases hu : u = 0
 ·simp only [hu, Va]
 ·have one_mul (a : F) : 1 * a = a := by grobner
  have neg_mul (a : F) : -1 * a = -a := by grobner
  rcases zby u with ⟨P, hP, h⟩ | ⟨P, hP, h⟩
  ·exact zgK (s := 1) xK (by decide +kernel) (fun P w n hP hw h hn => by rw [one_mul] at *; exact z3T hP hw h hn) hP hu (by rw [one_mul]; exact h) hm hn m2 n2
  ·exact zgK (s := -1) z9I (by decide +kernel) (fun P w n hP hw h hn => by rw [neg_mul] at *; exact zlm hP hw h hn) hP hu (by rw [neg_mul]; exact h) hm hn m2 n2
end Go.Proofs.YtacflmjoigffpaaGreatDoor
namespace Go.Proofs.YtacflmjoigffpaaGreatDoor
set_option maxHeartbeats 1000000
abbrev LL : Nat := 7237005577332262213973186563042994240857116359379907606001950938285454250989
theorem zec : IsP 1224481 := YO 1224481 1108 (by decide) (by decide) (by decide +kernel)
theorem zhM : IsP 531581 := YO 531581 731 (by decide) (by decide) (by decide +kernel)
theorem qq6 : IsP 1257559732178653 :=
 Ys (g := 2) (by decide) zec zhM (by decide +kernel) (m := 1027014492) (m' := 2365697292) (by decide) (by decide) 52 (by decide) (by decide) (by decide) (by decide +kernel) rfl rfl (by decide +kernel) (by decide +kernel) rfl (by decide) (by decide) (by decide) (by decide)
theorem q43 : IsP 43 := YO 43 8 (by decide) (by decide) (by decide +kernel)
theorem qq8 : IsP 4434155615661930479 :=
 Ys (g := 2) (by decide) qq6 q43 (by decide +kernel) (m := 3526) (m' := 103119898038649546) (by decide) (by decide) 63 (by decide) (by decide) (by decide) (by decide +kernel) rfl rfl (by decide +kernel) (by decide +kernel) rfl (by decide) (by decide) (by decide) (by decide)
theorem zn6 : IsP 1361 := YO 1361 38 (by decide) (by decide) (by decide +kernel)
theorem zoh : IsP 172054593956031949258510691 :=
 Ys (g := 2) (by decide) qq8 zn6 (by decide +kernel) (m := 38802110) (m' := 126417776602521637956290) (by decide) (by decide) 89 (by decide) (by decide) (by decide) (by decide +kernel) rfl rfl (by decide +kernel) (by decide +kernel) rfl (by decide) (by decide) (by decide) (by decide)
theorem zmS : IsP 5879 := YO 5879 78 (by decide) (by decide) (by decide +kernel)
theorem zoz : IsP 292386187 :=
 Ys (g := 2) (by decide) zmS p3 (by decide +kernel) (m := 49734) (m' := 97462062) (by decide) (by decide) 30 (by decide) (by decide) (by decide) (by decide +kernel) rfl rfl (by decide +kernel) (by decide +kernel) rfl (by decide) (by decide) (by decide) (by decide)
theorem q5 : IsP 5 := YO 5 4 (by decide) (by decide) (by decide +kernel)
theorem zoC : IsP 213441916511 :=
 Ys (g := 2) (by decide) zoz q5 (by decide +kernel) (m := 730) (m' := 42688383302) (by decide) (by decide) 39 (by decide) (by decide) (by decide) (by decide +kernel) rfl rfl (by decide +kernel) (by decide +kernel) rfl (by decide) (by decide) (by decide) (by decide)
theorem zoI : IsP 19757330305831588566944191468367130476339 :=
 Ys (g := 2) (by decide) zoh zoC (by decide +kernel) (m := 114831751082918) (m' := 92565371548345188701078751758) (by decide) (by decide) 135 (by decide) (by decide) (by decide) (by decide +kernel) rfl rfl (by decide +kernel) (by decide +kernel) rfl (by decide) (by decide) (by decide) (by decide)
theorem zon : IsP 276602624281642239937218680557139826668747 :=
 Ys (g := 2) (by decide) zoI p7 (by decide +kernel) (m := 14) (m' := 39514660611663177133888382936734260952678) (by decide) (by decide) 139 (by decide) (by decide) (by decide) (by decide +kernel) rfl rfl (by decide +kernel) (by decide +kernel) rfl (by decide) (by decide) (by decide) (by decide)
theorem q11 : IsP 11 := YO 11 5 (by decide) (by decide) (by decide +kernel)
theorem zoA : IsP 7237005577332262213973186563042994240857116359379907606001950938285454250989 :=
 Ys (g := 2) (by decide) zon q11 (by decide +kernel) (m := 26163907866482859529727157400808004) (m' := 657909597939296564906653323912999476441556032670900691454722812571404931908) (by decide) (by decide) 254 (by decide) (by decide) (by decide) (by decide +kernel) rfl rfl (by decide +kernel) (by decide +kernel) rfl (by decide) (by decide) (by decide) (by decide)
theorem pL : IsP LL := zoA
abbrev P9 : Pt := (9771384041963202563870679428059935816164187996444183106833894008023910952347, 46316835694926478169428394003475163141307993866256225615783033603165251855960)
theorem XI : xd D1 P9 := by unfold xd; decide +kernel
theorem z9V : 9 * (1 - P9.2) = 1 + P9.2 := by decide +kernel
theorem z9a : (9 : F) ≠ 0 := by decide +kernel
theorem z6e {P : Pt} {w : F} {n : Nat} (hP : xd D1 P) (hw : w ≠ 0) (h : w * (1 - P.2) = 1 + P.2) (hn : n < 2 ^ 255) : Yy (vO gC w n 255).1 (yN D1 n P) := by
 have := (VV (g := gC) Yy xK hP hn z8I (V8 (x := P.1) h) (fun p Q hQ hr => z4B xK (by decide +kernel) (by decide +kernel) hQ hr) (fun p q Q hQ hr hr' => z1u xK hP h hw hQ hr hr') 255 (Nat.le_refl _)).1
 rw [show n / 2 ^ (255 - 255) = n by simp] at this
 exact this
theorem zkO : (vO gC 9 LL 255).1.2 = 0 := by decide +kernel
theorem zno {p P : Pt} (h : Yy p P) (hz : p.2 = 0) : P.2 = 1 := by
 obtain ⟨hw, he⟩ := h
 rw [hz] at hw he
 refine Zu hw ?_
 rw [← he]
 generalize p.1 = a
 clear hw he hz
 grobner
theorem zot : yN D1 LL P9 = edO := by
 have hy := zno (z6e XI z9a z9V (by decide)) zkO
 have hon := xS xK XI LL
 exact Prod.ext (z19 xK (s := (yN D1 LL P9).2) (by rw [hy]; decide +kernel) hon) hy
theorem ord {k : Nat} (h : yN D1 k P9 = edO) : LL ∣ k := by
 refine Classical.byContradiction fun hn => ?_
 have hf := z4p pL hn
 obtain ⟨e, he⟩ : ∃ e, LL - 1 = e + 1 := ⟨LL - 2, by decide⟩
 rw [he] at hf
 have h1 : k ^ e * k = k ^ (e + 1) / LL * LL + 1 := by
  have := Nat.div_add_mod (k ^ (e + 1)) LL
  rw [hf, Nat.mul_comm] at this
  rw [this, Nat.pow_succ]
 have h2 : yN D1 (k ^ e * k) P9 = edO := by rw [wm xK XI, h, Xm xK.ne]
 rw [h1, vX xK XI, wm xK XI, zot, Xm xK.ne, Y5, W9 xK.ne, Vv xK.ne] at h2
 exact absurd (congrArg Prod.snd h2) (by decide +kernel)
theorem zge {D : F} {Q : Pt} (hD : NoSq D) (hQ : xd D Q) (h : kap Q = 0) : yN D 2 Q = edO := by
 by_cases hy : 1 - Q.2 = 0
 ·have e2 : Q.2 = 1 := by clear h hQ; grobner
  have hx : Q.1 = 0 := z19 hD (s := Q.2) (by rw [e2]; decide +kernel) hQ
  have hO : Q = edO := Prod.ext hx e2
  rw [hO, Xm hD.ne]
 ·have hi := yH hy
  have e1 : 1 + Q.2 = 0 := by
   unfold kap at h
   rcases wQ h with h | h
   ·exact h
   ·rw [h, Zv] at hi; exact absurd hi.symm XR
  have e2 : Q.2 = -1 := by clear h hi hQ hy; grobner
  have hx : Q.1 = 0 := z19 hD (s := Q.2) (by rw [e2]; decide +kernel) hQ
  have hT : Q = (0, -1) := Prod.ext hx e2
  rw [hT, zkv hD.ne]
theorem z5G {n : Nat} (h8 : n % 8 = 0) (h0 : 0 < n) (hn : n < 2 ^ 255) : ¬ LL ∣ n := fun h => by
 have e : n = 8 * (n / 8) := by omega
 rw [e] at h
 rcases pL.euclid h with h1 | h1
 ·exact absurd (Nat.le_of_dvd (by decide) h1) (by decide)
 ·have := Nat.le_of_dvd (by omega) h1
  unfold LL at this
  omega
theorem nz {n c : Nat} (hn : ¬ LL ∣ n) (hc : ¬ LL ∣ c) : kap (yN D1 (n * c) P9) ≠ 0 := fun h => by
 have h1 := zge xK (xS xK XI (n * c)) h
 rw [← wm xK XI] at h1
 rcases pL.euclid (ord h1) with h2 | h2
 ·exact absurd (Nat.le_of_dvd (by decide) h2) (by decide)
 ·rcases pL.euclid h2 with h3 | h3
  ·exact hn h3
  ·exact hc h3
theorem zjx {m n : Nat} (m8 : m % 8 = 0) (m0 : 0 < m) (hm : m < 2 ^ 255) (n8 : n % 8 = 0) (n0 : 0 < n) (hn : n < 2 ^ 255) : ZV gC (ZV gC 9 n) m ≠ 0 := by
 have one_mul (a : F) : 1 * a = a := by grobner
 have hh := z85 (s := 1) (g := gC) xK (by decide +kernel) (fun P w n hP hw h hn => by rw [one_mul] at *; exact z3T hP hw h hn) (xS xK XI n) hm (by omega)
 rw [one_mul, one_mul, ← z3T XI z9a z9V hn] at hh
 rw [hh, ← wm xK XI]
 exact nz (z5G m8 m0 hm) (z5G n8 n0 hn)
end Go.Proofs.YtacflmjoigffpaaGreatDoor
namespace Go.Proofs.YtacflmjoigffpaaGreatDoor
def fv (x : Nat) : F := ⟨x % PP, Nat.mod_lt _ (by decide)⟩
theorem V1 (x : Nat) : (fv x).val = x % PP := rfl
theorem zfl {x : Nat} (h : x < PP) : (fv x).val = x := Nat.mod_eq_of_lt h
theorem z1U (x : Nat) : fv (x % PP) = fv x := VS (Nat.mod_mod x PP)
theorem z3P {x y : Nat} (hx : x < PP) (hy : y < PP) (h : fv x = fv y) : x = y := by
 have := congrArg Fin.val h
 rw [zfl hx, zfl hy] at this; exact this
theorem wH (x y : Nat) : fv ((x + y) % PP) = fv x + fv y := by
 apply VS
 rw [Fin.val_add, V1, V1, V1, Nat.mod_mod, Nat.add_mod]
theorem xq (x y : Nat) : fv (x * y % PP) = fv x * fv y := by
 apply VS
 rw [vW, V1, V1, V1, Nat.mod_mod, Nat.mul_mod]
theorem zkn : fv PP = 0 := VS (Nat.mod_self PP)
theorem z04 (x y : Nat) : fv (x + y) = fv x + fv y := by rw [← z1U, wH]
theorem zmd {x y : Nat} (hy : y ≤ PP) : fv ((x + PP - y) % PP) = fv x - fv y := by
 have h : fv ((x + PP - y) + y) = fv (x + PP) := by rw [Nat.sub_add_cancel (by omega)]
 rw [z04, z04, zkn] at h
 rw [z1U]
 generalize fv (x + PP - y) = a at *
 generalize fv x = b at *
 generalize fv y = c at *
 grobner
theorem XK {y : Nat} (hy : y ≤ PP) : fv ((PP - y) % PP) = -fv y := by
 have h : fv ((PP - y) + y) = fv PP := by rw [Nat.sub_add_cancel hy]
 rw [z04, zkn] at h
 rw [z1U]
 generalize fv (PP - y) = a at *
 generalize fv y = c at *
 grobner
theorem znO (x n : Nat) : fv (x ^ n % PP) = fpw (fv x) n := by
 apply VS
 show x ^ n % PP % PP = (x % PP) ^ n % PP
 rw [Nat.mod_mod, ← Nat.pow_mod]
theorem zlG (x : Nat) : fv (x ^ EE % PP) = fiv (fv x) := znO x EE
theorem zjX {x : Nat} (h : x < PP) : fv x = 0 ↔ x = 0 := by
 constructor
 ·intro h0
  have := congrArg Fin.val h0
  rw [zfl h] at this; exact this
 ·intro h0; subst h0; rfl
end Go.Proofs.YtacflmjoigffpaaGreatDoor
namespace Go.Proofs.YtacflmjoigffpaaGreatDoor
abbrev xo (x y : Nat) : Nat := (x + y) % PP
abbrev vP (x : Nat) : Nat := (PP - x) % PP
abbrev yC (x y : Nat) : Nat := x * y % PP
theorem Y8 (x y : Nat) : yC x y < PP := Nat.mod_lt _ (by decide)
def z1Z (p : Nat × Nat) : Nat × Nat :=
 let a := xo p.1 p.2
 let b := xo p.1 (vP p.2)
 let s := yC a a
 let d := yC b b
 let e := xo s (vP d)
 (yC s d, yC e (xo d (yC 121666 e)))
def ZM (u : Nat) (p q : Nat × Nat) : Nat × Nat :=
 let a := yC (xo p.1 (vP p.2)) (xo q.1 q.2)
 let b := yC (xo p.1 p.2) (xo q.1 (vP q.2))
 let s := xo a b
 let d := xo a (vP b)
 (yC s s, yC u (yC d d))
def vB (u n : Nat) : Nat → (Nat × Nat) × (Nat × Nat)
 | 0 => ((1, 0), (u, 1))
 | j + 1 => if n / 2 ^ (254 - j) % 2 = 1 then (ZM u (vB u n j).1 (vB u n j).2, z1Z (vB u n j).2) else (z1Z (vB u n j).1, ZM u (vB u n j).1 (vB u n j).2)
def Yc (u n : Nat) : Nat := yC (vB u n 255).1.1 ((vB u n 255).1.2 ^ EE % PP)
def fp (p : Nat × Nat) : Pt := (fv p.1, fv p.2)
def Lt2 (p : Nat × Nat) : Prop := p.1 < PP ∧ p.2 < PP
theorem YB {x y : Nat} (hy : y ≤ PP) : fv (xo x (vP y)) = fv x - fv y := by
 rw [wH, XK hy]
 generalize fv x = a
 generalize fv y = b
 grobner
theorem z9g (p : Nat × Nat) : Lt2 (z1Z p) := ⟨Y8 _ _, Y8 _ _⟩
theorem z6u (u : Nat) (p q : Nat × Nat) : Lt2 (ZM u p q) := ⟨Y8 _ _, Y8 _ _⟩
theorem zdH {p : Nat × Nat} (h : Lt2 p) : fp (z1Z p) = WC gC (fp p) := by
 have h2 := Nat.le_of_lt h.2
 refine Prod.ext ?_ ?_
 ·show fv (yC (yC _ _) (yC _ _)) = _
  rw [xq, xq, xq, wH, YB h2]; rfl
 ·show fv (yC (xo (yC _ _) (vP (yC _ _))) (xo (yC _ _) (yC 121666 (xo (yC _ _) (vP (yC _ _)))))) = _
  rw [xq, wH (yC _ _) (yC _ _), xq 121666, YB (Nat.le_of_lt (Y8 _ _)), xq, xq, wH, YB h2]; rfl
theorem za0 {u : Nat} {p q : Nat × Nat} (h : Lt2 p) (h' : Lt2 q) : fp (ZM u p q) = Zs (fv u) (fp p) (fp q) := by
 have h2 := Nat.le_of_lt h.2
 have h2' := Nat.le_of_lt h'.2
 refine Prod.ext ?_ ?_
 ·show fv (yC (xo (yC _ _) (yC _ _)) (xo (yC _ _) (yC _ _))) = _
  rw [xq, wH (yC _ _) (yC _ _), xq, xq, YB h2, YB h2', wH, wH]; rfl
 ·show fv (yC u (yC (xo (yC _ _) (vP (yC _ _))) (xo (yC _ _) (vP (yC _ _))))) = _
  rw [xq, xq, YB (Nat.le_of_lt (Y8 _ _)), xq, xq, YB h2, YB h2', wH, wH]; rfl
theorem z0a {u : Nat} (hu : u < PP) (n : Nat) : ∀ j, Lt2 (vB u n j).1 ∧ Lt2 (vB u n j).2
 | 0 => ⟨⟨show 1 < PP by decide, show 0 < PP by decide⟩, ⟨hu, show 1 < PP by decide⟩⟩
 | j + 1 => by
  unfold vB
  split
  ·exact ⟨z6u _ _ _, z9g _⟩
  ·exact ⟨z9g _, z6u _ _ _⟩
theorem zgy {u : Nat} (hu : u < PP) (n : Nat) : ∀ j, (fp (vB u n j).1, fp (vB u n j).2) = vO gC (fv u) n j
 | 0 => by
  show ((fv 1, fv 0), (fv u, fv 1)) = (((1 : F), (0 : F)), (fv u, (1 : F)))
  rw [show fv 1 = 1 by decide +kernel, show fv 0 = 0 by decide +kernel]
 | j + 1 => by
  have ih := zgy hu n j
  have hl := z0a hu n j
  have i1 : fp (vB u n j).1 = (vO gC (fv u) n j).1 := congrArg Prod.fst ih
  have i2 : fp (vB u n j).2 = (vO gC (fv u) n j).2 := congrArg Prod.snd ih
  unfold vB vO
  split
  ·show (fp (ZM _ _ _), fp (z1Z _)) = _
   rw [za0 hl.1 hl.2, zdH hl.2, i1, i2]
  ·show (fp (z1Z _), fp (ZM _ _ _)) = _
   rw [za0 hl.1 hl.2, zdH hl.1, i1, i2]
theorem vK (u n : Nat) : Yc u n < PP := Y8 _ _
theorem Vo {u : Nat} (hu : u < PP) (n : Nat) : fv (Yc u n) = ZV gC (fv u) n := by
 have h := zgy hu n 255
 unfold Yc ZV
 rw [xq, zlG, ← h]; rfl
theorem z71 {u m n : Nat} (hu : u < PP) (hm : m < 2 ^ 255) (hn : n < 2 ^ 255) (m2 : m % 2 = 0) (n2 : n % 2 = 0) : Yc (Yc u n) m = Yc (Yc u m) n := by
 apply z3P (vK _ _) (vK _ _)
 rw [Vo (vK _ _), Vo (vK _ _), Vo hu, Vo hu]
 exact zdw (fv u) hm hn m2 n2
theorem zc1 {m n : Nat} (m8 : m % 8 = 0) (m0 : 0 < m) (hm : m < 2 ^ 255) (n8 : n % 8 = 0) (n0 : 0 < n) (hn : n < 2 ^ 255) : Yc (Yc 9 n) m ≠ 0 := fun h => by
 have := (zjX (vK _ m)).2 h
 rw [Vo (vK _ _), Vo (by decide), show fv 9 = 9 by decide +kernel] at this
 exact zjx m8 m0 hm n8 n0 hn this
end Go.Proofs.YtacflmjoigffpaaGreatDoor
