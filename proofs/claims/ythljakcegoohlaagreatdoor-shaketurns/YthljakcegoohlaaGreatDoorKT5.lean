import Derived.Test.YthljakcegoohlaaGreatDoorKT4
import Derived.SizedLaws
import Derived.Lib.Bytealg
set_option maxRecDepth 30000
namespace Go.Proofs.YthljakcegoohlaaGreatDoor
open Go Go.RowKit
theorem words_step {f s : Nat → Nat} {i : Nat} (hf : ∀ j, j < 64 → f j < 256) (hi : i < 64) (hs : ∀ t, t < 16 → s t = pw f i t) :
    ∀ t, t < 16 → upd s (i / 4) ((s (i / 4) ||| (f i * 2 ^ (i % 4 * 8)) % 4294967296) % 4294967296) t = pw f (i + 1) t := fun t ht => by
  rw [hs _ (by omega), pw_step (hf i hi) (fun j hj => hf j (by omega))]
  unfold upd
  by_cases h : t = i / 4
  · rw [if_pos h, h]
  · rw [if_neg h, hs t ht, pw_other h]
theorem cut4 (f : Nat → Nat) {t : Nat} (ht : t < 16) : (((List.range 64).map f).drop (4 * t)).take 4 = [f (4 * t), f (4 * t + 1), f (4 * t + 2), f (4 * t + 3)] := by
  apply List.ext_getElem
  · simp; omega
  · intro j h1 h2
    simp only [List.getElem_take, List.getElem_drop, List.getElem_map, List.getElem_range]
    simp only [List.length_cons, List.length_nil] at h2
    rcases (by omega : j = 0 ∨ j = 1 ∨ j = 2 ∨ j = 3) with rfl | rfl | rfl | rfl <;> rfl
theorem words_all (f : Nat → Nat) : ∀ t, t < 16 → pw f 64 t = wrd ((List.range 64).map f) t := fun t ht => by
  unfold wrd
  rw [cut4 f ht, le4, pw_full (by omega)]
def mst (f : Nat → Nat) (a b c d x y : Nat) : Nat → Nat :=
  let f1 := upd f a ((f a + (f b + x) % 4294967296) % 4294967296)
  let f2 := upd f1 d (rotl ((f1 d ^^^ f1 a) % 4294967296) 16)
  let f3 := upd f2 c ((f2 c + f2 d) % 4294967296)
  let f4 := upd f3 b (rotl ((f3 b ^^^ f3 c) % 4294967296) 20)
  let f5 := upd f4 a ((f4 a + (f4 b + y) % 4294967296) % 4294967296)
  let f6 := upd f5 d (rotl ((f5 d ^^^ f5 a) % 4294967296) 24)
  let f7 := upd f6 c ((f6 c + f6 d) % 4294967296)
  upd f7 b (rotl ((f7 b ^^^ f7 c) % 4294967296) 25)
def mat (f : Nat → Nat) (a b c d x y t : Nat) : Nat :=
  let q := bq (f a) (f b) (f c) (f d) x y
  if t = a then q.1 else if t = b then q.2.1 else if t = c then q.2.2.1 else if t = d then q.2.2.2 else f t
theorem mst_eqs {s : Nat → Nat} {a b c d x y q1 q2 q3 q4 q5 q6 q7 q8 : Nat} (ab : a ≠ b) (ac : a ≠ c) (ad : a ≠ d) (bc : b ≠ c) (bd : b ≠ d) (cd : c ≠ d) (h1 : q1 = (s a + (s b + x) % 4294967296) % 4294967296)
    (h2 : q2 = rotl ((upd s a q1 d ^^^ upd s a q1 a) % 4294967296) 16)
    (h3 : q3 = (upd (upd s a q1) d q2 c + upd (upd s a q1) d q2 d) % 4294967296)
    (h4 : q4 = rotl ((upd (upd (upd s a q1) d q2) c q3 b ^^^ upd (upd (upd s a q1) d q2) c q3 c) % 4294967296) 20)
    (h5 : q5 = (upd (upd (upd (upd s a q1) d q2) c q3) b q4 a + (upd (upd (upd (upd s a q1) d q2) c q3) b q4 b + y) % 4294967296) % 4294967296)
    (h6 : q6 = rotl ((upd (upd (upd (upd (upd s a q1) d q2) c q3) b q4) a q5 d ^^^ upd (upd (upd (upd (upd s a q1) d q2) c q3) b q4) a q5 a) % 4294967296) 24)
    (h7 : q7 = (upd (upd (upd (upd (upd (upd s a q1) d q2) c q3) b q4) a q5) d q6 c + upd (upd (upd (upd (upd (upd s a q1) d q2) c q3) b q4) a q5) d q6 d) % 4294967296)
    (h8 : q8 = rotl ((upd (upd (upd (upd (upd (upd (upd s a q1) d q2) c q3) b q4) a q5) d q6) c q7 b ^^^ upd (upd (upd (upd (upd (upd (upd s a q1) d q2) c q3) b q4) a q5) d q6) c q7 c) % 4294967296) 25) :
    upd (upd (upd (upd (upd (upd (upd (upd s a q1) d q2) c q3) b q4) a q5) d q6) c q7) b q8 = mat s a b c d x y := by
  have ba := ab.symm
  have ca := ac.symm
  have da := ad.symm
  have cb := bc.symm
  have db := bd.symm
  have dc := cd.symm
  simp only [updS, updN _ _ ab, updN _ _ ac, updN _ _ ad, updN _ _ bc, updN _ _ bd, updN _ _ cd, updN _ _ ba, updN _ _ ca, updN _ _ da, updN _ _ cb, updN _ _ db, updN _ _ dc] at h1 h2 h3 h4 h5 h6 h7 h8
  have eA : (bq (s a) (s b) (s c) (s d) x y) = (q5, q8, q7, q6) := by
    unfold bq
    simp only
    rw [← h1, ← h2, ← h3, ← h4, ← h5, ← h6, ← h7, ← h8]
  funext t
  unfold mat
  rw [eA]
  by_cases ha : t = a
  · subst ha
    simp only [updS, updN _ _ ab, updN _ _ ac, updN _ _ ad, if_pos]
  · by_cases hb : t = b
    · subst hb
      simp only [updS, if_neg ha, if_pos]
    · by_cases hc : t = c
      · subst hc
        simp only [updS, updN _ _ cb, if_neg ha, if_neg hb, if_pos]
      · by_cases hd : t = d
        · subst hd
          simp only [updS, updN _ _ db, updN _ _ dc, if_neg ha, if_neg hb, if_neg hc, if_pos]
        · simp only [if_neg ha, if_neg hb, if_neg hc, if_neg hd, updN _ _ ha, updN _ _ hb, updN _ _ hc, updN _ _ hd]
theorem mst_mat (f : Nat → Nat) {a b c d : Nat} (x y : Nat) (ab : a ≠ b) (ac : a ≠ c) (ad : a ≠ d) (bc : b ≠ c) (bd : b ≠ d) (cd : c ≠ d) : mst f a b c d x y = mat f a b c d x y := mst_eqs ab ac ad bc bd cd rfl rfl rfl rfl rfl rfl rfl rfl
def sgf (j : Nat) : Nat := sigL.getD j 0
def colM (m : Nat → Nat) (r : Nat) (f : Nat → Nat) : Nat → Nat → Nat
  | 0 => f
  | i + 1 => mat (colM m r f i) i (4 + i) (8 + i) (12 + i) (m (sig r (2 * i))) (m (sig r (2 * i + 1)))
def diaM (m : Nat → Nat) (r : Nat) (f : Nat → Nat) : Nat → Nat → Nat
  | 0 => f
  | i + 1 => mat (diaM m r f i) i (4 + (i + 1) % 4) (8 + (i + 2) % 4) (12 + (i + 3) % 4) (m (sig r (8 + 2 * i))) (m (sig r (9 + 2 * i)))
def rndM (m : Nat → Nat) (f : Nat → Nat) : Nat → Nat → Nat
  | 0 => f
  | r + 1 => diaM m r (colM m r (rndM m f r) 4) 4
theorem colM_zero (m : Nat → Nat) (r : Nat) (f : Nat → Nat) : f = colM m r f 0 := by rw [colM]
theorem diaM_zero (m : Nat → Nat) (r : Nat) (f : Nat → Nat) : f = diaM m r f 0 := by rw [diaM]
theorem rndM_zero (m : Nat → Nat) (f : Nat → Nat) : f = rndM m f 0 := by rw [rndM]
theorem colM_succ (m : Nat → Nat) (r : Nat) (f : Nat → Nat) (i : Nat) : mat (colM m r f i) i (4 + i) (8 + i) (12 + i) (m (sig r (2 * i))) (m (sig r (2 * i + 1))) = colM m r f (i + 1) := by rw [colM]
theorem diaM_succ (m : Nat → Nat) (r : Nat) (f : Nat → Nat) (i : Nat) : mat (diaM m r f i) i (4 + (i + 1) % 4) (8 + (i + 2) % 4) (12 + (i + 3) % 4) (m (sig r (8 + 2 * i))) (m (sig r (9 + 2 * i))) = diaM m r f (i + 1) := by rw [diaM]
theorem rndM_succ (m : Nat → Nat) (f : Nat → Nat) (r : Nat) : diaM m r (colM m r (rndM m f r) 4) 4 = rndM m f (r + 1) := by rw [rndM]
theorem col_brn (m : Nat → Nat) (r : Nat) (f : Nat → Nat) : ∀ i, i ≤ 4 → ∀ t, t < 16 → colM m r f i t = if t % 4 < i then brn (fun c => m (sig r (2 * c))) (fun c => m (sig r (2 * c + 1))) f t else f t
  | 0, _, t, _ => by rw [if_neg (by omega), colM]
  | i + 1, hi, t, ht => by
    have ih := col_brn m r f i (by omega)
    rw [colM]
    exact brn_step (by omega) ih _ rfl rfl t ht
theorem shp_at (f : Nat → Nat) {t : Nat} (ht : t < 16) : shn 1 (shp 1 f) t = f t := by
  unfold shn shp
  congr 1
  omega
theorem dia_brn (m : Nat → Nat) (r : Nat) (f : Nat → Nat) : ∀ i, i ≤ 4 → ∀ t, t < 16 → diaM m r f i t = shn 1 (fun u => if u % 4 < i then brn (fun c => m (sig r (8 + 2 * c))) (fun c => m (sig r (9 + 2 * c))) (shp 1 f) u else shp 1 f u) t
  | 0, _, t, ht => by
    rw [diaM]
    exact ((congrArg (fun g => shn 1 g t) (funext fun u => if_neg (by omega))).trans (shp_at f ht)).symm
  | i + 1, hi, t, ht => by
    have ih := dia_brn m r f i (by omega)
    have hs : ∀ u, u < 16 → shp 1 (diaM m r f i) u = if u % 4 < i then brn (fun c => m (sig r (8 + 2 * c))) (fun c => m (sig r (9 + 2 * c))) (shp 1 f) u else shp 1 f u := fun u hu => by
      unfold shp
      rw [ih _ (by omega)]
      unfold shn
      rw [show 4 * ((4 * (u / 4) + (u % 4 + 4 + 1 * (u / 4)) % 4) / 4) + ((4 * (u / 4) + (u % 4 + 4 + 1 * (u / 4)) % 4) % 4 + 4 - 1 * ((4 * (u / 4) + (u % 4 + 4 + 1 * (u / 4)) % 4) / 4)) % 4 = u by omega]
      rfl
    have st := brn_step (by omega : i < 4) hs _ rfl rfl (4 * (t / 4) + (t % 4 + 4 - 1 * (t / 4)) % 4) (by omega)
    rw [diaM]
    refine Eq.trans ?_ st
    unfold mat
    have e0 : shp 1 (diaM m r f i) i = diaM m r f i i := by unfold shp; congr 1; omega
    have e1 : shp 1 (diaM m r f i) (4 + i) = diaM m r f i (4 + (i + 1) % 4) := by unfold shp; congr 1; omega
    have e2 : shp 1 (diaM m r f i) (8 + i) = diaM m r f i (8 + (i + 2) % 4) := by unfold shp; congr 1; omega
    have e3 : shp 1 (diaM m r f i) (12 + i) = diaM m r f i (12 + (i + 3) % 4) := by unfold shp; congr 1; omega
    rw [e0, e1, e2, e3]
    obtain ⟨q, hq⟩ : ∃ q, q = bq (diaM m r f i i) (diaM m r f i (4 + (i + 1) % 4)) (diaM m r f i (8 + (i + 2) % 4)) (diaM m r f i (12 + (i + 3) % 4)) (m (sig r (8 + 2 * i))) (m (sig r (9 + 2 * i))) := ⟨_, rfl⟩
    simp only
    rw [← hq]
    obtain ⟨u, hu⟩ : ∃ u, u = 4 * (t / 4) + (t % 4 + 4 - 1 * (t / 4)) % 4 := ⟨_, rfl⟩
    rw [← hu]
    have k0 : (u = i) = (t = i) := propext ⟨fun h => by omega, fun h => by omega⟩
    have k1 : (u = 4 + i) = (t = 4 + (i + 1) % 4) := propext ⟨fun h => by omega, fun h => by omega⟩
    have k2 : (u = 8 + i) = (t = 8 + (i + 2) % 4) := propext ⟨fun h => by omega, fun h => by omega⟩
    have k3 : (u = 12 + i) = (t = 12 + (i + 3) % 4) := propext ⟨fun h => by omega, fun h => by omega⟩
    have k4 : shp 1 (diaM m r f i) u = diaM m r f i t := by
      unfold shp
      rw [show 4 * (u / 4) + (u % 4 + 4 + 1 * (u / 4)) % 4 = t by omega]
    simp only [k0, k1, k2, k3, k4]
theorem brn_congr {x y f x2 y2 g : Nat → Nat} (hx : ∀ c, c < 4 → x c = x2 c) (hy : ∀ c, c < 4 → y c = y2 c) (h : ∀ t, t < 16 → f t = g t) : ∀ t, t < 16 → brn x y f t = brn x2 y2 g t := fun t ht => by
  unfold brn
  rw [h _ (by omega), h _ (by omega), h _ (by omega), h _ (by omega), hx _ (by omega), hy _ (by omega)]
theorem shp_zero (f : Nat → Nat) (t : Nat) : shp 0 f t = f t := by unfold shp; congr 1; omega
theorem shn_zero (f : Nat → Nat) (t : Nat) : shn 0 f t = f t := by unfold shn; congr 1; omega
theorem rnd_brs {m w : Nat → Nat} {l : List Nat} (hm : ∀ t, t < 16 → m t = wrd l t) : ∀ r t, t < 16 → rndM m w r t = brs l w r t
  | 0, t, _ => by rw [rndM, brs]
  | r + 1, t, ht => by
    have ih := rnd_brs (w := w) hm r
    have c4 : ∀ t, t < 16 → colM m r (rndM m w r) 4 t = bpart l r (brs l w r) 1 t := fun t ht => by
      rw [col_brn m r _ 4 (by omega) t ht, if_pos (by omega), bpart, bpart, bstep, shn_zero]
      exact brn_congr (fun c hc => (hm _ (sig_lt _ _)).trans (congrArg (fun z => wrd l (sig r z)) (by omega))) (fun c hc => (hm _ (sig_lt _ _)).trans (congrArg (fun z => wrd l (sig r z)) (by omega))) (fun u hu => (ih u hu).trans (shp_zero _ u).symm) t ht
    rw [rndM, brs, dia_brn m r _ 4 (by omega) t ht, bpart, bstep]
    unfold shn
    refine Eq.trans (if_pos (by omega)) ?_
    refine brn_congr (fun c hc => (hm _ (sig_lt _ _)).trans (congrArg (fun z => wrd l (sig r z)) (by omega))) (fun c hc => (hm _ (sig_lt _ _)).trans (congrArg (fun z => wrd l (sig r z)) (by omega))) (fun u hu => ?_) _ (by omega)
    unfold shp
    exact c4 _ (by omega)
theorem sqd_step {h s v z : Nat → Nat} {l : List Nat} {many : Nat} {last : Bool} {q : Nat} (hq : q < 8) (hb : ∀ t, t < 16 → v t = brs l (w0 h many last) 10 t) (hz : z = sqz h l many last) (hs : ∀ t, t < 8 → s t = if t < q then z t else h t) :
    ∀ t, t < 8 → upd s q ((s q ^^^ (v q ^^^ v (8 + q)) % 4294967296) % 4294967296) t = if t < q + 1 then z t else h t := by
  rw [hb q (by omega), hb (8 + q) (by omega)]
  subst hz
  exact sqz_step hq rfl hs
end Go.Proofs.YthljakcegoohlaaGreatDoor
namespace Go.Proofs.YthljakcegoohlaaGreatDoor
open Go Go.RowKit
theorem spr_zero {x : Nat} (h : x < 4294967296) : (x ^^^ 0 % 4294967296) % 4294967296 = x := by simp; omega
theorem spr_false {h s : Nat → Nat} {many : Nat} (hs : ∀ t, t < 16 → s t = if t % 8 < 8 then w00 h t else 0) : ∀ t, t < 16 → upd (upd s 12 ((s 12 ^^^ many % 4294967296) % 4294967296)) 13 ((upd s 12 ((s 12 ^^^ many % 4294967296) % 4294967296) 13 ^^^ 0 % 4294967296) % 4294967296) t = w0 h many false t := fun t ht => by
  have e : upd s 12 ((s 12 ^^^ many % 4294967296) % 4294967296) 13 = ivf 5 := by
    rw [updN _ _ (by decide), hs 13 (by decide), if_pos (by decide)]; rfl
  rw [e, spr_zero (ivf_lt 5)]
  by_cases h1 : t = 13
  · rw [h1, updS]; rfl
  · rw [updN _ _ h1]; exact w0_false hs t ht
theorem spr_true {h s : Nat → Nat} {many : Nat} (hs : ∀ t, t < 16 → s t = if t % 8 < 8 then w00 h t else 0) : ∀ t, t < 16 → upd (upd (upd s 12 ((s 12 ^^^ many % 4294967296) % 4294967296)) 13 ((upd s 12 ((s 12 ^^^ many % 4294967296) % 4294967296) 13 ^^^ 0 % 4294967296) % 4294967296)) 14 ((4294967295 ^^^ upd (upd s 12 ((s 12 ^^^ many % 4294967296) % 4294967296)) 13 ((upd s 12 ((s 12 ^^^ many % 4294967296) % 4294967296) 13 ^^^ 0 % 4294967296) % 4294967296) 14) % 4294967296) t = w0 h many true t := fun t ht => by
  have e := spr_false (many := many) hs
  by_cases h1 : t = 14
  · rw [h1, updS, e 14 (by decide)]; rfl
  · rw [updN _ _ h1, e t ht]
    unfold w0
    by_cases h2 : t = 12
    · rw [if_pos h2, if_pos h2]
    · rw [if_neg h2, if_neg h2, if_neg (by simp), if_neg (by simp [h1])]
theorem hol_at (w : Nat → Nat) : ∀ n i, i < 4 * n → (hol w n).getD i 0 = w (i / 4) / 256 ^ (i % 4) % 256
  | 0, i, h => by omega
  | n + 1, i, h => by
    rw [hol, List.getD_eq_getElem?_getD]
    by_cases hi : i < 4 * n
    · rw [List.getElem?_append_left (by rw [hol_len]; exact hi), ← List.getD_eq_getElem?_getD, hol_at w n i hi]
    · rw [List.getElem?_append_right (by rw [hol_len]; omega), hol_len, List.getElem?_eq_getElem (by rw [lowl_len]; omega)]
      rw [show i / 4 = n by omega, show i % 4 = i - 4 * n by omega]
      simp [lowl]
theorem hsum_at (w : Nat → Nat) {i : Nat} (hi : i < 32) : w (i / 4) / 2 ^ (i % 4 * 8) % 256 = hsumf w i := by
  unfold hsumf
  rw [hol_at w 8 i (by omega), Nat.mul_comm (i % 4) 8, Nat.pow_mul]
def heldP (S : List Nat) (p j : Nat) : Nat := if j < p - 64 * nblk p then S.getD (64 * nblk p + j) 0 else 0
def AddInv (h d : Nat → Nat) (n ln : Nat) (l : List Nat) (hh g : Nat → Nat) (nn q : Nat) : Prop :=
  ln ≤ q ∧ q ≤ ln + l.length ∧ hh = hacc h (ln - n) (sS d n l) (nblk (n + (q - ln))) ∧ (∀ j, j < 64 → g j = heldP (sS d n l) (n + (q - ln)) j) ∧ nn = n + (q - ln) - 64 * nblk (n + (q - ln))
theorem sS_low (d : Nat → Nat) {n j : Nat} (l : List Nat) (h : j < n) : (sS d n l).getD j 0 = d j := by
  unfold sS
  rw [List.getD_eq_getElem?_getD, List.getElem?_append_left (by simpa using h), List.getElem?_map, List.getElem?_range h]
  rfl
theorem sS_high (d : Nat → Nat) (n j : Nat) (l : List Nat) : (sS d n l).getD (n + j) 0 = l.getD j 0 := by
  unfold sS
  rw [List.getD_eq_getElem?_getD, List.getElem?_append_right (by simp), List.length_map, List.length_range, Nat.add_sub_cancel_left, ← List.getD_eq_getElem?_getD]
theorem drop_at (l : List Nat) (c j : Nat) : (l.drop c).getD j 0 = l.getD (c + j) 0 := by
  rw [List.getD_eq_getElem?_getD, List.getElem?_drop, ← List.getD_eq_getElem?_getD]
theorem add_first {h d : Nat → Nat} {n ln : Nat} (l : List Nat) (hok : okB n ln d = true) : AddInv h d n ln l h d n ln := by
  obtain ⟨_, hnl, hn, _, hz⟩ := okB_open hok
  have hb : nblk (n + (ln - ln)) = 0 := by unfold nblk; omega
  refine ⟨Nat.le_refl _, by omega, by rw [hb]; rfl, fun j hj => ?_, by rw [hb]; omega⟩
  unfold heldP
  rw [hb]
  by_cases h1 : j < n
  · rw [if_pos (by omega), show 64 * 0 + j = j by omega, sS_low d l h1]
  · rw [if_neg (by omega), hz j (by omega) hj]
theorem add_lt {h d hh g : Nat → Nat} {n ln nn q : Nat} {l : List Nat} (hd : ∀ j, j < 64 → d j < 256) (hn : n ≤ 64) (hl : ∀ b ∈ l, b < 256) (hi : AddInv h d n ln l hh g nn q) : ∀ j, j < 64 → g j < 256 := fun j hj => by
  rw [hi.2.2.2.1 j hj]
  unfold heldP
  split
  · exact getD_lt (sS_lt (n := n) (fun j hj => hd j (by omega)) hl) _
  · decide
theorem add_nn {h d hh g : Nat → Nat} {n ln nn q : Nat} {l : List Nat} (hi : AddInv h d n ln l hh g nn q) : nn ≤ 64 := by
  rw [hi.2.2.2.2]; unfold nblk; omega
theorem add_full {h d hh g : Nat → Nat} {n ln nn q : Nat} {l : List Nat} (hnl : n ≤ ln) (hi : AddInv h d n ln l hh g nn q) (hN : nn = 64) (hm : (ln - n) % 64 = 0) {k : Nat} (hk : k = min (l.drop (q - ln)).length 64) (h0 : 0 < (l.drop (q - ln)).length) {hh' g' : Nat → Nat} {nn' q' : Nat} (e1 : hh' = sqz hh ((List.range 64).map g) q false) (e2 : ∀ j, j < 64 → g' j = if 0 ≤ j ∧ j < 0 + k then (l.drop (q - ln)).getD (j - 0) 0 else 0) (e3 : nn' = 0 + k) (e4 : q' = q + k) : AddInv h d n ln l hh' g' nn' q' := by
  obtain ⟨i1, i2, i3, i4, i5⟩ := hi
  rw [List.length_drop] at hk h0
  obtain ⟨B, hB⟩ : ∃ B, B = nblk (n + (q - ln)) := ⟨_, rfl⟩
  have hp : n + (q - ln) = 64 * (B + 1) := by have := hB; unfold nblk at this; omega
  have hp' : n + (q' - ln) = 64 * (B + 1) + k := by omega
  have hB' : nblk (n + (q' - ln)) = B + 1 := by unfold nblk; omega
  have hfull : (List.range 64).map g = ((sS d n l).drop (64 * B)).take 64 := by
    apply List.ext_getElem
    · simp [sS_len]; omega
    · intro j h1 h2
      simp only [List.getElem_map, List.getElem_range, List.getElem_take, List.getElem_drop]
      have hj : j < 64 := by simpa using h1
      rw [i4 j hj]
      unfold heldP
      rw [← hB, if_pos (by omega), List.getD_eq_getElem?_getD, List.getElem?_eq_getElem (by rw [sS_len]; omega)]
      rfl
  refine ⟨by omega, by omega, ?_, fun j hj => ?_, by rw [hB']; omega⟩
  · rw [e1, hB', hacc, hfull, i3, ← hB, show ln - n + 64 * (B + 1) = q by omega]
  · rw [e2 j hj]
    unfold heldP
    rw [hB']
    by_cases h1 : j < k
    · rw [if_pos (by omega), if_pos (by omega), drop_at, Nat.sub_zero, show 64 * (B + 1) + j = n + (q - ln + j) by omega, sS_high]
    · rw [if_neg (by omega), if_neg (by omega)]
theorem add_more {h d hh g : Nat → Nat} {n ln nn q : Nat} {l : List Nat} (hi : AddInv h d n ln l hh g nn q) (hN : nn < 64) {k : Nat} (hk : k = min (l.drop (q - ln)).length (64 - nn)) (h0 : 0 < (l.drop (q - ln)).length) {g' : Nat → Nat} {nn' q' : Nat} (e2 : ∀ j, j < 64 → g' j = if nn ≤ j ∧ j < nn + k then (l.drop (q - ln)).getD (j - nn) 0 else g j) (e3 : nn' = nn + k) (e4 : q' = q + k) : AddInv h d n ln l hh g' nn' q' := by
  obtain ⟨i1, i2, i3, i4, i5⟩ := hi
  rw [List.length_drop] at hk h0
  obtain ⟨B, hB⟩ : ∃ B, B = nblk (n + (q - ln)) := ⟨_, rfl⟩
  rw [← hB] at i3 i5
  have hpB : 64 * B ≤ n + (q - ln) := by rw [hB]; exact nblk_le _
  have hB' : nblk (n + (q' - ln)) = B := by have := hB; unfold nblk at this ⊢; omega
  refine ⟨by omega, by omega, by rw [hB']; exact i3, fun j hj => ?_, by rw [hB']; omega⟩
  rw [e2 j hj]
  unfold heldP
  rw [hB']
  by_cases h1 : nn ≤ j ∧ j < nn + k
  · rw [if_pos h1, if_pos (by omega), drop_at, show 64 * B + j = n + (q - ln + (j - nn)) by omega, sS_high]
  · rw [if_neg h1, i4 j hj]
    unfold heldP
    rw [← hB]
    by_cases h2 : j < nn
    · rw [if_pos (by omega), if_pos (by omega)]
    · rw [if_neg (by omega), if_neg (by omega)]
theorem add_shows {B : Mem} {bv : Value} {l : List Nat} {q ln k : Nat} (h : Shows B 1 bv (l.drop (q - ln)).length ((l.drop (q - ln)).map by8)) (hk : k ≤ (l.drop (q - ln)).length) (hq : ln ≤ q) : Shows B 1 (slPart 1 bv k (l.drop (q - ln)).length) (l.drop (q + k - ln)).length ((l.drop (q + k - ln)).map by8) :=
  h.cut hk (Nat.le_refl _) (by rw [List.drop_drop, List.take_of_length_le (by simp; omega), show q - ln + k = q + k - ln by omega])
theorem cH_congr {h h' d d' : Nat → Nat} {n n' ln ln' : Nat} (hh : h = h') (hd : ∀ j, j < 64 → d j = d' j) (hn : n = n') (hl : ln = ln') : Value.agg (cells 74 [pI .u32 8 h, pI .u8 64 d, pV (.int .i64 (n : Int)), pV (.int .i64 (ln : Int))]) = Value.agg (cells 74 [pI .u32 8 h', pI .u8 64 d', pV (.int .i64 (n' : Int)), pV (.int .i64 (ln' : Int))]) := by
  subst hh hn hl
  congr 1
  exact cells_congr ⟨rfl, fun _ _ => rfl, rfl, fun i hi => congrArg (fun z : Nat => Value.int .u8 (z : Int)) (hd i hi), rfl, fun _ _ => rfl, rfl, fun _ _ => rfl, trivial⟩
theorem add_last {h d hh g : Nat → Nat} {n ln nn q : Nat} {l : List Nat} (hi : AddInv h d n ln l hh g nn q) (h0 : (l.drop (q - ln)).length = 0) : hh = hacc h (ln - n) (sS d n l) (nblk (sS d n l).length) ∧ (∀ j, j < 64 → g j = ((sS d n l).drop (64 * nblk (sS d n l).length)).getD j 0) ∧ nn = ((sS d n l).drop (64 * nblk (sS d n l).length)).length ∧ q = ln + l.length := by
  obtain ⟨i1, i2, i3, i4, i5⟩ := hi
  rw [List.length_drop] at h0
  have hp : n + (q - ln) = (sS d n l).length := by rw [sS_len]; omega
  rw [hp] at i3 i4 i5
  refine ⟨i3, fun j hj => ?_, by rw [i5, List.length_drop], by omega⟩
  rw [i4 j hj, drop_at]
  unfold heldP
  by_cases h1 : j < (sS d n l).length - 64 * nblk (sS d n l).length
  · rw [if_pos h1]
  · rw [if_neg h1, List.getD_eq_getElem?_getD, List.getElem?_eq_none (by omega)]; rfl
end Go.Proofs.YthljakcegoohlaaGreatDoor
namespace Go.Proofs.YthljakcegoohlaaGreatDoor
open Go Go.RowKit
def bsl (l : List Nat) : List Nat := (List.range 32).map (bsum l)
theorem bsl_len (l : List Nat) : (bsl l).length = 32 := by simp [bsl]
theorem bsl_lt (l : List Nat) : ∀ b ∈ bsl l, b < 256 := range_lt fun _ _ => bsum_lt _ _
def xorl (l : List Nat) (c : Nat) : List Nat := l.map fun b => (b ^^^ c) % 256
theorem xorl_len (l : List Nat) (c : Nat) : (xorl l c).length = l.length := by simp [xorl]
theorem xorl_lt (l : List Nat) (c : Nat) : ∀ b ∈ xorl l c, b < 256 := fun b hb => by
  obtain ⟨x, _, rfl⟩ := List.mem_map.1 hb
  exact Nat.mod_lt _ (by decide)
def mkey (k : List Nat) : List Nat := if 64 < k.length then bsl k else k
theorem mkey_le (k : List Nat) : (mkey k).length ≤ 64 := by unfold mkey; split <;> simp_all [bsl_len]
def mpad (k : List Nat) : List Nat := mkey k ++ zrs (64 - (mkey k).length)
theorem mpad_len (k : List Nat) : (mpad k).length = 64 := by have := mkey_le k; simp [mpad, zrs_len]; omega
def mac (k s : List Nat) (j : Nat) : Nat := bsum (xorl (mpad k) 92 ++ bsl (xorl (mpad k) 54 ++ s)) j
theorem mac_lt (k s : List Nat) (j : Nat) : mac k s j < 256 := bsum_lt _ _
def macl (k s : List Nat) : List Nat := (List.range 32).map (mac k s)
theorem macl_lt (k s : List Nat) : ∀ b ∈ macl k s, b < 256 := range_lt fun _ _ => mac_lt _ _ _
def thr3 (a b c : Nat → Nat) (t : Nat) : Nat := if t < 32 then a t else if t < 64 then b (t - 32) else c (t - 64)
def two2 (a b : Nat → Nat) (t : Nat) : Nat := if t < 32 then a t else b (t - 32)
def kT (c : Nat → Nat) (s : List Nat) : List Nat := macl ((List.range 32).map c) s
def kA (c : Nat → Nat) (s : List Nat) : Nat → Nat := mac (kT c s) [1]
def kB (c : Nat → Nat) (s : List Nat) : Nat → Nat := mac (kT c s) ((List.range 32).map (kA c s) ++ [2])
def kC (c : Nat → Nat) (s : List Nat) : Nat → Nat := mac (kT c s) ((List.range 32).map (kB c s) ++ [3])
theorem kT_lt (c : Nat → Nat) (s : List Nat) : ∀ b ∈ kT c s, b < 256 := macl_lt _ _
theorem app_lt {l : List Nat} {x : Nat} (h : ∀ b ∈ l, b < 256) (hx : x < 256) : ∀ b ∈ l ++ [x], b < 256 := fun b hb => by
  rcases List.mem_append.1 hb with hb | hb
  · exact h b hb
  · simp at hb; omega
end Go.Proofs.YthljakcegoohlaaGreatDoor
namespace Go.Proofs.YthljakcegoohlaaGreatDoor
open Go Go.RowKit
theorem tur_first {k : Nat → Nat} {x n : Nat} : ∀ t, t < n → k t = if t < 0 then (k t ^^^ x) % 256 else k t := fun t _ => by rw [if_neg (Nat.not_lt_zero t)]
theorem tur_next {k s : Nat → Nat} {x i n v : Nat} (h : ∀ t, t < n → s t = if t < i then (k t ^^^ x) % 256 else k t) (hi : i < n) (hv : v = (s i ^^^ x) % 256) : ∀ t, t < n → upd s i v t = if t < i + 1 then (k t ^^^ x) % 256 else k t := fun t ht => by
  unfold upd
  by_cases e : t = i
  · subst e
    have hs := h t ht
    rw [if_neg (Nat.lt_irrefl t)] at hs
    rw [if_pos rfl, if_pos (by omega), hv, hs]
  · rw [if_neg e, h t ht]
    by_cases h1 : t < i
    · rw [if_pos h1, if_pos (by omega)]
    · rw [if_neg h1, if_neg (by omega)]
theorem tur_last {p : List Nat} {s : Nat → Nat} {x : Nat} (hp : p.length = 64) (h : ∀ t, t < 64 → s t = if t < 64 then (p.getD t 0 ^^^ x) % 256 else p.getD t 0) : ∀ t, t < 64 → s t = (xorl p x).getD t 0 := fun t ht => by
  rw [h t ht, if_pos ht]
  simp [xorl, List.getD_eq_getElem?_getD, List.getElem?_eq_getElem (show t < p.length by omega)]
theorem fit_at {k l : List Nat} (h : mkey k = l) (hl : l.length ≤ 64) {n : Nat} (hn : n = min l.length 64) : ∀ j, j < 64 → (if 0 ≤ j ∧ j < 0 + n then l.getD (j - 0) 0 else 0) = (mpad k).getD j 0 := fun j hj => by
  unfold mpad
  rw [h, Nat.sub_zero, List.getD_eq_getElem?_getD, List.getD_eq_getElem?_getD]
  by_cases hk : j < l.length
  · rw [if_pos (by omega), List.getElem?_append_left hk]
  · rw [if_neg (by omega), List.getElem?_append_right (by omega)]
    rw [← List.getD_eq_getElem?_getD]
    exact zrs_at (by omega)
theorem shows32 (r : Nat) (f : Nat → Nat) (t : TypeId) : Shows [⟨r, arr .u8 32 f, t⟩] 1 (.slice (some ⟨r, 0, none⟩) 32 32) ((List.range 32).map f).length (((List.range 32).map f).map by8) := by
  have h := arr_shows r 32 f t 0 32 32 (by decide) (by decide)
  simp only [Nat.zero_add] at h
  exact h
end Go.Proofs.YthljakcegoohlaaGreatDoor
namespace Go.Proofs.YthljakcegoohlaaGreatDoor
open Go Go.RowKit
abbrev cS (has : Bool) (k : Nat → Nat) (n : Nat) (ch h : Nat → Nat) : Array Value := cells 98 [pV (.bool has), pI .u8 32 k, pV (u n), pI .u8 32 ch, pI .u8 32 h]
abbrev SV (has : Bool) (k : Nat → Nat) (n : Nat) (ch h : Nat → Nat) : Value := .agg (cS has k n ch h)
theorem cells_shows {N o l cap : Nat} {ps : List Part} (r k : Nat) (t : TypeId) (g : Nat → Nat) (hk : catAt ps k = some (o, pI .u8 l g)) (hN : o + l ≤ N) (hc : l ≤ cap) : Shows [⟨r, cells N ps, t⟩] 1 (.slice (some ⟨r, o, none⟩) l cap) ((List.range l).map g).length (((List.range l).map g).map by8) := by
  have e : ((List.range l).map g).length = l := by simp
  refine .inr ⟨r, o, cap, cells N ps, t, by rw [e], by rw [e]; exact hc, by simp, by simp, by rw [e, cells, arrv_size]; omega, fun j u hj => ?_⟩
  rw [List.getElem?_map, List.getElem?_map] at hj
  by_cases hl : j < l
  · rw [List.getElem?_range hl] at hj
    simp at hj
    rw [cells, arrv_get (by omega), cat_part hk j hl, ← hj]
  · rw [List.getElem?_eq_none (by simpa using hl)] at hj
    cases hj
theorem key_pad (l : List Nat) : ∀ j, j < 32 → (if 0 ≤ j ∧ j < 0 + min l.length 32 then l.getD (j - 0) 0 else 0) = l.getD j 0 := fun j hj => by
  split
  · rfl
  · rw [List.getD_eq_getElem?_getD, List.getElem?_eq_none (by omega)]; rfl
def sbeg (l : List Nat) (j : Nat) : Nat := if 32 < l.length then bsum l j else l.getD j 0
theorem sbeg_short {l : List Nat} (h : ¬ 32 < l.length) : sbeg l = fun j => l.getD j 0 := by funext j; exact if_neg h
theorem sbeg_long {l : List Nat} (h : 32 < l.length) : sbeg l = bsum l := by funext j; exact if_pos h
theorem sbeg_lt {l : List Nat} (h : ∀ b ∈ l, b < 256) (j : Nat) : sbeg l j < 256 := by
  unfold sbeg
  split
  · exact bsum_lt _ _
  · exact getD_lt h j
def hx (h : Nat → Nat) (l : List Nat) : Nat → Nat := bsum ((List.range 32).map h ++ l)
theorem hx_lt (h : Nat → Nat) (l : List Nat) (j : Nat) : hx h l j < 256 := bsum_lt _ _
theorem apps_lt {l k : List Nat} (h : ∀ b ∈ l, b < 256) (h2 : ∀ b ∈ k, b < 256) : ∀ b ∈ l ++ k, b < 256 := fun b hb => (List.mem_append.1 hb).elim (h b) (h2 b)
theorem thr3_0 (a b c : Nat → Nat) : ∀ j, j < 32 → thr3 a b c (0 + j) = a j := fun j hj => by unfold thr3; rw [if_pos (by omega), Nat.zero_add]
theorem thr3_1 (a b c : Nat → Nat) : ∀ j, j < 32 → thr3 a b c (32 + j) = b j := fun j hj => by unfold thr3; rw [if_neg (by omega), if_pos (by omega), Nat.add_sub_cancel_left]
theorem thr3_2 (a b c : Nat → Nat) : ∀ j, j < 32 → thr3 a b c (64 + j) = c j := fun j hj => by unfold thr3; rw [if_neg (by omega), if_neg (by omega), Nat.add_sub_cancel_left]
end Go.Proofs.YthljakcegoohlaaGreatDoor
namespace Go.Proofs.YthljakcegoohlaaGreatDoor
def IsP (p : Nat) : Prop := 2 ≤ p ∧ ∀ d, d ∣ p → d = 1 ∨ d = p
theorem small_factor (N : Nat) (hN : 2 ≤ N) (h : ¬ IsP N) : ∃ q, IsP q ∧ q ∣ N ∧ q * q ≤ N := by
  have key : ∀ n d, d ≤ n → 2 ≤ d → d ∣ N → d * d ≤ N → ∃ q, IsP q ∧ q ∣ N ∧ q * q ≤ N := by
    intro n
    induction n with
    | zero => intro d h1 h2; omega
    | succ n ih =>
      intro d h1 h2 h3 h4
      by_cases hp : IsP d
      · exact ⟨d, hp, h3, h4⟩
      · have : ∃ e, e ∣ d ∧ e ≠ 1 ∧ e ≠ d := by
          refine Classical.byContradiction fun hn => hp ⟨h2, fun e he => ?_⟩
          by_cases h1 : e = 1
          · exact .inl h1
          · by_cases h2 : e = d
            · exact .inr h2
            · exact absurd ⟨e, he, h1, h2⟩ hn
        obtain ⟨e, he, h5, h6⟩ := this
        have hle := Nat.le_of_dvd (by omega) he
        have hpos : 0 < e := Nat.pos_of_dvd_of_pos he (by omega)
        exact ih e (by omega) (by omega) (Nat.dvd_trans he h3) (Nat.le_trans (Nat.mul_le_mul hle hle) h4)
  have : ∃ e, e ∣ N ∧ e ≠ 1 ∧ e ≠ N := by
    refine Classical.byContradiction fun hn => h ⟨hN, fun e he => ?_⟩
    by_cases h1 : e = 1
    · exact .inl h1
    · by_cases h2 : e = N
      · exact .inr h2
      · exact absurd ⟨e, he, h1, h2⟩ hn
  obtain ⟨e, he, h5, h6⟩ := this
  have hpos : 0 < e := Nat.pos_of_dvd_of_pos he (by omega)
  have hle := Nat.le_of_dvd (by omega) he
  obtain ⟨f, hf⟩ := he
  have hf1 : f ≠ 1 := fun e1 => by rw [e1, Nat.mul_one] at hf; exact h6 hf.symm
  have hf0 : f ≠ 0 := fun e1 => by rw [e1, Nat.mul_zero] at hf; omega
  rcases Nat.le_total e f with hef | hef
  · exact key e e (Nat.le_refl _) (by omega) ⟨f, hf⟩ (by rw [hf]; exact Nat.mul_le_mul_left _ hef)
  · exact key f f (Nat.le_refl _) (by omega) ⟨e, by rw [hf, Nat.mul_comm]⟩ (by rw [hf]; exact Nat.mul_le_mul_right _ hef)
theorem trial (n k : Nat) (hn : 2 ≤ n) (hk : n < k * k) (h : ((List.range k).all fun d => d < 2 || !(n % d == 0)) = true) : IsP n := by
  refine Classical.byContradiction fun hp => ?_
  obtain ⟨q, h1, h2, h3⟩ := small_factor n hn hp
  have hqk : q < k := by
    rcases Nat.lt_or_ge q k with h | h
    · exact h
    · have := Nat.mul_le_mul h h; omega
  have := (List.all_eq_true.1 h) q (by simpa using hqk)
  have hz : n % q = 0 := Nat.mod_eq_zero_of_dvd h2
  have := h1.1
  simp [hz] at *
  omega
theorem p3 : IsP 3 := trial 3 2 (by decide) (by decide) (by decide +kernel)
end Go.Proofs.YthljakcegoohlaaGreatDoor
namespace Go.Proofs.YthljakcegoohlaaGreatDoor
abbrev F := Fin PP
theorem F_val_mul (a b : F) : (a * b).val = a.val * b.val % PP := Fin.val_mul a b
theorem F_eq {a b : F} (h : a.val = b.val) : a = b := Fin.ext h
end Go.Proofs.YthljakcegoohlaaGreatDoor
namespace Go.Proofs.YthljakcegoohlaaGreatDoor
set_option maxHeartbeats 4000000
end Go.Proofs.YthljakcegoohlaaGreatDoor
namespace Go.Proofs.YthljakcegoohlaaGreatDoor
set_option maxHeartbeats 1000000
end Go.Proofs.YthljakcegoohlaaGreatDoor
namespace Go.Proofs.YthljakcegoohlaaGreatDoor
set_option maxHeartbeats 1000000
end Go.Proofs.YthljakcegoohlaaGreatDoor
namespace Go.Proofs.YthljakcegoohlaaGreatDoor
set_option maxHeartbeats 1000000
end Go.Proofs.YthljakcegoohlaaGreatDoor
namespace Go.Proofs.YthljakcegoohlaaGreatDoor
set_option maxHeartbeats 1000000
end Go.Proofs.YthljakcegoohlaaGreatDoor
namespace Go.Proofs.YthljakcegoohlaaGreatDoor
set_option maxHeartbeats 1000000
end Go.Proofs.YthljakcegoohlaaGreatDoor
namespace Go.Proofs.YthljakcegoohlaaGreatDoor
def fv (x : Nat) : F := ⟨x % PP, Nat.mod_lt _ (by decide)⟩
theorem fv_val (x : Nat) : (fv x).val = x % PP := rfl
theorem fv_lt {x : Nat} (h : x < PP) : (fv x).val = x := Nat.mod_eq_of_lt h
theorem fv_mod (x : Nat) : fv (x % PP) = fv x := F_eq (Nat.mod_mod x PP)
theorem fv_inj {x y : Nat} (hx : x < PP) (hy : y < PP) (h : fv x = fv y) : x = y := by
  have := congrArg Fin.val h
  rw [fv_lt hx, fv_lt hy] at this; exact this
theorem fv_add (x y : Nat) : fv ((x + y) % PP) = fv x + fv y := by
  apply F_eq
  rw [Fin.val_add, fv_val, fv_val, fv_val, Nat.mod_mod, Nat.add_mod]
theorem fv_mul (x y : Nat) : fv (x * y % PP) = fv x * fv y := by
  apply F_eq
  rw [F_val_mul, fv_val, fv_val, fv_val, Nat.mod_mod, Nat.mul_mod]
theorem fv_PP : fv PP = 0 := F_eq (Nat.mod_self PP)
theorem fv_plus (x y : Nat) : fv (x + y) = fv x + fv y := by rw [← fv_mod, fv_add]
theorem fv_sub {x y : Nat} (hy : y ≤ PP) : fv ((x + PP - y) % PP) = fv x - fv y := by
  have h : fv ((x + PP - y) + y) = fv (x + PP) := by rw [Nat.sub_add_cancel (by omega)]
  rw [fv_plus, fv_plus, fv_PP] at h
  rw [fv_mod]
  generalize fv (x + PP - y) = a at *
  generalize fv x = b at *
  generalize fv y = c at *
  grobner
theorem fv_opp {y : Nat} (hy : y ≤ PP) : fv ((PP - y) % PP) = -fv y := by
  have h : fv ((PP - y) + y) = fv PP := by rw [Nat.sub_add_cancel hy]
  rw [fv_plus, fv_PP] at h
  rw [fv_mod]
  generalize fv (PP - y) = a at *
  generalize fv y = c at *
  grobner
end Go.Proofs.YthljakcegoohlaaGreatDoor
namespace Go.Proofs.YthljakcegoohlaaGreatDoor
abbrev nSum (x y : Nat) : Nat := (x + y) % PP
abbrev nOpp (x : Nat) : Nat := (PP - x) % PP
abbrev nMul (x y : Nat) : Nat := x * y % PP
theorem nMul_lt (x y : Nat) : nMul x y < PP := Nat.mod_lt _ (by decide)
def nDbl (p : Nat × Nat) : Nat × Nat :=
  let a := nSum p.1 p.2
  let b := nSum p.1 (nOpp p.2)
  let s := nMul a a
  let d := nMul b b
  let e := nSum s (nOpp d)
  (nMul s d, nMul e (nSum d (nMul 121666 e)))
def nWith (u : Nat) (p q : Nat × Nat) : Nat × Nat :=
  let a := nMul (nSum p.1 (nOpp p.2)) (nSum q.1 q.2)
  let b := nMul (nSum p.1 p.2) (nSum q.1 (nOpp q.2))
  let s := nSum a b
  let d := nSum a (nOpp b)
  (nMul s s, nMul u (nMul d d))
def nLad (u n : Nat) : Nat → (Nat × Nat) × (Nat × Nat)
  | 0 => ((1, 0), (u, 1))
  | j + 1 => if n / 2 ^ (254 - j) % 2 = 1 then (nWith u (nLad u n j).1 (nLad u n j).2, nDbl (nLad u n j).2) else (nDbl (nLad u n j).1, nWith u (nLad u n j).1 (nLad u n j).2)
def nOut (u n : Nat) : Nat := nMul (nLad u n 255).1.1 ((nLad u n 255).1.2 ^ EE % PP)
def Lt2 (p : Nat × Nat) : Prop := p.1 < PP ∧ p.2 < PP
theorem nDbl_lt (p : Nat × Nat) : Lt2 (nDbl p) := ⟨nMul_lt _ _, nMul_lt _ _⟩
theorem nWith_lt (u : Nat) (p q : Nat × Nat) : Lt2 (nWith u p q) := ⟨nMul_lt _ _, nMul_lt _ _⟩
theorem nLad_lt {u : Nat} (hu : u < PP) (n : Nat) : ∀ j, Lt2 (nLad u n j).1 ∧ Lt2 (nLad u n j).2
  | 0 => ⟨⟨show 1 < PP by decide, show 0 < PP by decide⟩, ⟨hu, show 1 < PP by decide⟩⟩
  | j + 1 => by
    unfold nLad
    split
    · exact ⟨nWith_lt _ _ _, nDbl_lt _⟩
    · exact ⟨nDbl_lt _, nWith_lt _ _ _⟩
theorem nOut_lt (u n : Nat) : nOut u n < PP := nMul_lt _ _
end Go.Proofs.YthljakcegoohlaaGreatDoor
namespace Go.Proofs.YthljakcegoohlaaGreatDoor
open Go
theorem fv_lin (x : Nat) : fv (121666 * x % PP) = fv (121665 * x % PP) + fv x := by
  rw [fv_mod, fv_mod, show 121666 * x = 121665 * x + x by omega, fv_plus]
theorem dbl_x {x z p m : Nat} (hz : z < PP) (hp : p = (x + z) % PP * ((x + z) % PP) % PP) (hm : m = (x + PP - z) % PP * ((x + PP - z) % PP) % PP) : p * m % PP = (nDbl (x, z)).1 := by
  show _ = nMul (nMul (nSum x z) (nSum x z)) (nMul (nSum x (nOpp z)) (nSum x (nOpp z)))
  unfold nMul nSum nOpp
  rw [opp_eq x z hz, ← hp, ← hm]
theorem dbl_z {x z p m r : Nat} (hz : z < PP) (hp : p = (x + z) % PP * ((x + z) % PP) % PP) (hm : m = (x + PP - z) % PP * ((x + PP - z) % PP) % PP) (hr : r = (p + PP - m) % PP) :
    r * ((p + 121665 * r % PP) % PP) % PP = (nDbl (x, z)).2 := by
  have hm2 : m < PP := by rw [hm]; exact Nat.mod_lt _ (by decide)
  have e : (nDbl (x, z)).2 = r * ((m + 121666 * r % PP) % PP) % PP := by
    show nMul (nSum (nMul (nSum x z) (nSum x z)) (nOpp (nMul (nSum x (nOpp z)) (nSum x (nOpp z))))) (nSum (nMul (nSum x (nOpp z)) (nSum x (nOpp z))) (nMul 121666 (nSum (nMul (nSum x z) (nSum x z)) (nOpp (nMul (nSum x (nOpp z)) (nSum x (nOpp z))))))) = _
    unfold nMul nSum nOpp
    rw [opp_eq x z hz, ← hp, ← hm, opp_eq p m hm2, ← hr]
  rw [e]
  apply fv_inj (Nat.mod_lt _ (by decide)) (Nat.mod_lt _ (by decide))
  rw [fv_mul, fv_mul, fv_add, fv_add, fv_lin, hr, fv_sub (Nat.le_of_lt hm2)]
  generalize fv (121665 * ((p + PP - m) % PP) % PP) = a
  generalize fv p = b
  generalize fv m = c
  clear e hr hm hp
  grobner
theorem with_ab {x0 z0 x1 z1 a b : Nat} (h0 : z0 < PP) (h1 : z1 < PP) (u : Nat) (ha : a = (x1 + PP - z1) % PP * ((x0 + z0) % PP) % PP) (hb : b = (x1 + z1) % PP * ((x0 + PP - z0) % PP) % PP) :
    nWith u (x1, z1) (x0, z0) = ((a + b) % PP * ((a + b) % PP) % PP, u * ((a + PP - b) % PP * ((a + PP - b) % PP) % PP) % PP) := by
  have h2 : b < PP := by rw [hb]; exact Nat.mod_lt _ (by decide)
  unfold nWith nMul nSum nOpp
  simp only []
  rw [opp_eq x1 z1 h1, opp_eq x0 z0 h0, ← ha, ← hb, opp_eq _ _ h2]
theorem with_turns {x0 z0 x1 z1 : Nat} (h0 : z0 < PP) (h1 : z1 < PP) (u : Nat) : nWith u (x1, z1) (x0, z0) = nWith u (x0, z0) (x1, z1) := by
  unfold nWith nMul nSum nOpp
  simp only []
  refine Prod.ext ?_ ?_
  · apply fv_inj (Nat.mod_lt _ (by decide)) (Nat.mod_lt _ (by decide))
    simp only [fv_mul, fv_add, fv_opp (Nat.le_of_lt h0), fv_opp (Nat.le_of_lt h1)]
    generalize fv x0 = a
    generalize fv z0 = b
    generalize fv x1 = c
    generalize fv z1 = d
    grobner
  · have e1 : (x1 + z1) % PP * ((x0 + (PP - z0) % PP) % PP) % PP ≤ PP := Nat.le_of_lt (Nat.mod_lt _ (by decide))
    have e2 : (x0 + z0) % PP * ((x1 + (PP - z1) % PP) % PP) % PP ≤ PP := Nat.le_of_lt (Nat.mod_lt _ (by decide))
    apply fv_inj (Nat.mod_lt _ (by decide)) (Nat.mod_lt _ (by decide))
    simp only [fv_mul, fv_add, fv_opp (Nat.le_of_lt h0), fv_opp (Nat.le_of_lt h1), fv_opp e1, fv_opp e2]
    generalize fv x0 = a
    generalize fv z0 = b
    generalize fv x1 = c
    generalize fv z1 = d
    generalize fv u = f
    clear e1 e2
    grobner
def clam (f : Nat → Nat) : Nat → Nat := upd (upd f 0 (f 0 - f 0 % 8)) 31 (f 31 % 64 + 64)
def sec (f : Nat → Nat) : Nat := vb (clam f) 32
theorem clam_lt {f : Nat → Nat} (hf : ∀ j, j < 32 → f j < 256) : ∀ j, j < 32 → clam f j < 256 := fun j hj => by
  have h0 := hf 0 (by decide)
  have := hf j hj
  unfold clam upd
  split
  · omega
  · split <;> omega
theorem vb_bit {g : Nat → Nat} (hg : ∀ j, j < 32 → g j < 256) (i : Nat) (hi : i < 255) : g (i / 8) / 2 ^ (i % 8) % 2 = vb g 32 / 2 ^ i % 2 := by
  have h := bt_vb g 32 hg (i / 8) (by omega)
  rw [← h]
  unfold bt
  generalize vb g 32 = x
  have e : i = 8 * (i / 8) + i % 8 := by omega
  conv => rhs; rw [e, Nat.pow_add, ← Nat.div_div_eq_div_mul]
  generalize x / 2 ^ (8 * (i / 8)) = y
  have hm := Nat.mod_lt i (show 0 < 8 by decide)
  generalize i % 8 = s at *
  have : s = 0 ∨ s = 1 ∨ s = 2 ∨ s = 3 ∨ s = 4 ∨ s = 5 ∨ s = 6 ∨ s = 7 := by omega
  rcases this with rfl | rfl | rfl | rfl | rfl | rfl | rfl | rfl <;> simp <;> omega
theorem bit_word {g : Nat → Nat} (hg : ∀ j, j < 32 → g j < 256) (i : Nat) (hi : i < 255) : (g (i / 8) / 2 ^ (i % 8) % 18446744073709551616 &&& 1) % 18446744073709551616 = vb g 32 / 2 ^ i % 2 := by
  rw [← vb_bit hg i hi, Nat.and_one_is_mod]
  have h1 : g (i / 8) / 2 ^ (i % 8) ≤ g (i / 8) := Nat.div_le_self _ _
  have h2 := hg (i / 8) (by omega)
  generalize g (i / 8) / 2 ^ (i % 8) = t at *
  omega
def swp (b : Nat) (L : (Nat × Nat) × (Nat × Nat)) : (Nat × Nat) × (Nat × Nat) := if b = 1 then (L.2, L.1) else L
theorem lad_step {U N i : Nat} (hU : U < PP) (hi : i < 255) {L : (Nat × Nat) × (Nat × Nat)} {b : Nat} (hb : b = N / 2 ^ i % 2) (hL : L = swp b (nLad U N (255 - (i + 1)))) :
    swp b (nDbl L.1, nWith U L.1 L.2) = nLad U N (255 - i) := by
  have e : 255 - i = (254 - i) + 1 := by omega
  have e1 : 255 - (i + 1) = 254 - i := by omega
  have e2 : 254 - (254 - i) = i := by omega
  have hl := nLad_lt hU N (254 - i)
  rw [e1] at hL
  rw [e]
  show _ = (if N / 2 ^ (254 - (254 - i)) % 2 = 1 then _ else _)
  rw [e2, ← hb, hL]
  unfold swp
  by_cases h : b = 1
  · rw [if_pos h, if_pos h, if_pos h]
    have := with_turns hl.1.2 hl.2.2 U (x0 := (nLad U N (254 - i)).1.1) (x1 := (nLad U N (254 - i)).2.1)
    exact Prod.ext this rfl
  · rw [if_neg h, if_neg h, if_neg h]
theorem swp_lt {b : Nat} {L : (Nat × Nat) × (Nat × Nat)} (h : Lt2 L.1 ∧ Lt2 L.2) : Lt2 (swp b L).1 ∧ Lt2 (swp b L).2 := by
  unfold swp; split
  · exact ⟨h.2, h.1⟩
  · exact h
def pnt (f : Nat → Nat) : Nat := vb f 32 % 2 ^ 255 % PP
theorem pnt_lt (f : Nat → Nat) : pnt f < PP := Nat.mod_lt _ (by decide)
theorem pnt_none : pnt (fun _ => 0) = 0 := by decide +kernel
theorem pnt_nine : pnt (upd (fun _ => 0) 0 9) = 9 := by decide +kernel
theorem bt_none {y : Nat} (hy : y < PP) : allEq 32 (bt y) (fun _ => 0) = decide (y = 0) := by
  by_cases h : y = 0
  · subst h
    rw [decide_eq_true rfl]
    exact allEq_iff.2 fun j _ => by unfold bt; simp
  · rw [decide_eq_false h]
    cases hb : allEq 32 (bt y) (fun _ => 0) with
    | false => rfl
    | true =>
      have h1 := allEq_iff.1 hb
      have h2 := vb_back y hy
      rw [vb_congr 32 h1] at h2
      exact absurd (show y = 0 from h2.symm.trans pnt_none) h
end Go.Proofs.YthljakcegoohlaaGreatDoor
namespace Go.Proofs.YthljakcegoohlaaGreatDoor
open Go Go.RowKit
def ptf (p : Nat × Nat) : Nat → Nat := fun t => if t < 4 then wd p.1 t else wd p.2 (t - 4)
def rgf (L : (Nat × Nat) × (Nat × Nat)) : Nat → Nat := fun t => if t < 8 then ptf L.1 t else ptf L.2 (t - 8)
abbrev ptv (p : Nat × Nat) : Value := .agg (arr .u64 8 (ptf p))
abbrev rgv (L : (Nat × Nat) × (Nat × Nat)) : Value := .agg (arr .u64 16 (rgf L))
theorem ptf_lt (p : Nat × Nat) (t : Nat) : ptf p t < 18446744073709551616 := by
  unfold ptf; split <;> exact wd_lt _ _
theorem rgf_lt (L : (Nat × Nat) × (Nat × Nat)) (t : Nat) : rgf L t < 18446744073709551616 := by
  unfold rgf; split <;> exact ptf_lt _ _
theorem pt_0 (p : Nat × Nat) : Value.agg (arr .u64 4 (fun t => ptf p (0 + t))) = fe p.1 := by
  exact congrArg Value.agg (arr_congr fun j hj => by unfold ptf; rw [Nat.zero_add, if_pos hj])
theorem pt_4 (p : Nat × Nat) : Value.agg (arr .u64 4 (fun t => ptf p (4 + t))) = fe p.2 := by
  exact congrArg Value.agg (arr_congr fun j hj => by unfold ptf; rw [if_neg (by omega), Nat.add_sub_cancel_left])
theorem rg_pt0 (L : (Nat × Nat) × (Nat × Nat)) : Value.agg (arr .u64 8 (fun t => rgf L (0 + t))) = ptv L.1 := by
  exact congrArg Value.agg (arr_congr fun j hj => by unfold rgf; rw [Nat.zero_add, if_pos hj])
theorem rg_0 (L : (Nat × Nat) × (Nat × Nat)) : Value.agg (arr .u64 4 (fun t => rgf L (0 + t))) = fe L.1.1 := by
  rw [← pt_0]; exact congrArg Value.agg (arr_congr fun j hj => by unfold rgf; rw [if_pos (by omega)])
theorem rg_4 (L : (Nat × Nat) × (Nat × Nat)) : Value.agg (arr .u64 4 (fun t => rgf L (4 + t))) = fe L.1.2 := by
  rw [← pt_4]; exact congrArg Value.agg (arr_congr fun j hj => by unfold rgf; rw [if_pos (by omega)])
theorem rg_8 (L : (Nat × Nat) × (Nat × Nat)) : Value.agg (arr .u64 4 (fun t => rgf L (8 + t))) = fe L.2.1 := by
  rw [← pt_0]; exact congrArg Value.agg (arr_congr fun j hj => by unfold rgf; rw [if_neg (by omega), Nat.add_sub_cancel_left, Nat.zero_add])
theorem rg_12 (L : (Nat × Nat) × (Nat × Nat)) : Value.agg (arr .u64 4 (fun t => rgf L (12 + t))) = fe L.2.2 := by
  rw [← pt_4]; exact congrArg Value.agg (arr_congr fun j hj => by unfold rgf; rw [if_neg (by omega), show 12 + j - 8 = 4 + j by omega])
theorem fill_pt (x z : Nat) : Instr.fill (fun i => some (i * 4, 4)) (arr .u64 8 fun _ => 0) [(0, fe x), (1, fe z)] = some (arr .u64 8 (ptf (x, z))) := by kernel_rfl
theorem fill_rg (p q : Nat × Nat) : Instr.fill (fun i => some (i * 8, 8)) (arr .u64 16 fun _ => 0) [(0, ptv p), (1, ptv q)] = some (arr .u64 16 (rgf (p, q))) := by kernel_rfl
def swt (n : Nat) (f : Nat → Nat) (c : Nat) : Nat → Nat := fun t => if t % 8 < c ∧ n = 1 then f ((t + 8) % 16) else f t
theorem swt_none (n : Nat) (f : Nat → Nat) (t : Nat) : swt n f 0 t = f t := by
  unfold swt; rw [if_neg (by omega)]
theorem swap_word {n a b : Nat} (hn : n ≤ 1) (ha : a < 18446744073709551616) (hb : b < 18446744073709551616) :
    (a ^^^ ((a ^^^ b) % 18446744073709551616 &&& (18446744073709551616 - n) % 18446744073709551616) % 18446744073709551616) % 18446744073709551616 = (if n = 1 then b else a) := by
  have hx : a ^^^ b < 2 ^ 64 := Nat.xor_lt_two_pow (by omega) (by omega)
  rw [Nat.mod_eq_of_lt (show a ^^^ b < 18446744073709551616 by omega)]
  have : n = 0 ∨ n = 1 := by omega
  rcases this with rfl | rfl
  · simp; omega
  · rw [if_pos rfl, show (18446744073709551616 - 1) % 18446744073709551616 = 2 ^ 64 - 1 by decide, Nat.and_two_pow_sub_one_eq_mod, Nat.mod_eq_of_lt hx, Nat.mod_eq_of_lt (show a ^^^ b < 18446744073709551616 by omega),
      ← Nat.xor_assoc, Nat.xor_self, Nat.zero_xor, Nat.mod_eq_of_lt hb]
theorem swap_step {n c : Nat} {f s : Nat → Nat} (hn : n ≤ 1) (hf : ∀ t, f t < 18446744073709551616) (hc : c < 8) (hs : ∀ t, t < 16 → s t = swt n f c t) (w v1 v2 : Nat)
    (hw : w = ((s c ^^^ s (8 + c)) % 18446744073709551616 &&& (18446744073709551616 - n) % 18446744073709551616) % 18446744073709551616)
    (h1 : v1 = (s c ^^^ w) % 18446744073709551616) (h2 : v2 = (upd s c v1 (8 + c) ^^^ w) % 18446744073709551616) : ∀ t, t < 16 → upd (upd s c v1) (8 + c) v2 t = swt n f (c + 1) t := by
  have e3 : upd s c v1 (8 + c) = s (8 + c) := by unfold upd; rw [if_neg (by omega)]
  rw [e3] at h2
  have e1 : s c = f c := by rw [hs c (by omega)]; unfold swt; rw [if_neg (by omega)]
  have e2 : s (8 + c) = f (8 + c) := by rw [hs (8 + c) (by omega)]; unfold swt; rw [if_neg (by omega)]
  have w1 := swap_word hn (hf c) (hf (8 + c))
  have w2 := swap_word hn (hf (8 + c)) (hf c)
  rw [e1, e2] at hw
  rw [← hw] at w1
  rw [Nat.xor_comm (f (8 + c)) (f c), ← hw] at w2
  rw [e1, w1] at h1
  rw [e2, w2] at h2
  intro t ht
  unfold upd
  by_cases ha : t = 8 + c
  · subst ha
    rw [if_pos rfl, h2]
    unfold swt
    by_cases hn1 : n = 1
    · rw [if_pos hn1, if_pos ⟨by omega, hn1⟩, show (8 + c + 8) % 16 = c by omega]
    · rw [if_neg hn1, if_neg (fun h => hn1 h.2)]
  · rw [if_neg ha]
    by_cases hb : t = c
    · subst hb
      rw [if_pos rfl, h1]
      unfold swt
      by_cases hn1 : n = 1
      · rw [if_pos hn1, if_pos ⟨by omega, hn1⟩, show (t + 8) % 16 = 8 + t by omega]
      · rw [if_neg hn1, if_neg (fun h => hn1 h.2)]
    · rw [if_neg hb, hs t ht]
      unfold swt
      by_cases hn1 : t % 8 < c ∧ n = 1
      · rw [if_pos hn1, if_pos ⟨by omega, hn1.2⟩]
      · rw [if_neg hn1, if_neg (fun h => hn1 ⟨by omega, h.2⟩)]
theorem swap_end {n : Nat} {L : (Nat × Nat) × (Nat × Nat)} {s : Nat → Nat} (hs : ∀ t, t < 16 → s t = swt n (rgf L) 8 t) : arr .u64 16 s = arr .u64 16 (rgf (swp n L)) := arr_congr fun t ht => by
  rw [hs t ht]
  unfold swt swp
  by_cases hn : n = 1
  · rw [if_pos ⟨by omega, hn⟩, if_pos hn]
    unfold rgf
    by_cases h8 : t < 8
    · rw [if_neg (by omega), if_pos h8, show (t + 8) % 16 - 8 = t by omega]
    · rw [if_pos (by omega), if_neg h8, show (t + 8) % 16 = t - 8 by omega]
  · rw [if_neg (fun h => hn h.2), if_neg hn]
theorem fe_none : Value.agg (arr .u64 4 (fun _ => 0)) = fe 0 := congrArg Value.agg (arr_congr fun j _ => by unfold wd; simp)
theorem nine_lt : ∀ j, j < 32 → upd (fun _ => 0) 0 9 j < 256 := by decide
theorem and248 : ∀ a, a < 256 → (a &&& 248) % 256 = a - a % 8 := by decide +kernel
theorem low127 : ∀ a, a < 256 → ((a &&& 127) % 256 ||| 64) % 256 = a % 64 + 64 := by decide +kernel
theorem clam_eq {f : Nat → Nat} (hf : ∀ j, j < 32 → f j < 256) {v0 v1 v2 : Nat} (h0 : v0 = (f 0 &&& 248) % 256) (h1 : v1 = (f 31 &&& 127) % 256) (h2 : v2 = (v1 ||| 64) % 256) :
    arr .u8 32 (upd (upd (upd f 0 v0) 31 v1) 31 v2) = arr .u8 32 (clam f) := arr_congr fun j hj => by
  subst h0 h1 h2
  unfold clam upd
  by_cases h31 : j = 31
  · subst h31; simp only [if_pos]; exact low127 _ (hf 31 (by decide))
  · simp only [if_neg h31]
    split
    · exact and248 _ (hf 0 (by decide))
    · rfl
theorem or_zero8 (a b : Nat) (ha : a < 256) (hb : b < 256) : (a ||| b) % 256 = 0 ↔ a = 0 ∧ b = 0 := by
  have h : a ||| b < 2 ^ 8 := Nat.or_lt_two_pow (by omega) (by omega)
  rw [Nat.mod_eq_of_lt (show a ||| b < 256 by omega)]
  constructor
  · intro h0
    have l1 := Nat.left_le_or (n := a) (m := b)
    have l2 := Nat.right_le_or (n := a) (m := b)
    omega
  · rintro ⟨rfl, rfl⟩; rfl
theorem tells_end {f : Nat → Nat} {s : Nat} (h : s = 0 ↔ ∀ j, j < 32 → f j = 0) : decide (((s : Nat) : Int) ≠ 0) = !allEq 32 f (fun _ => 0) := by
  cases hb : allEq 32 f (fun _ => 0) with
  | true =>
    have := h.2 (allEq_iff.1 hb)
    subst this; rfl
  | false =>
    have hne : ¬ s = 0 := fun h0 => by
      have := allEq_iff.2 (h.1 h0)
      rw [hb] at this; cases this
    simp; omega
theorem tells_step {f : Nat → Nat} {s k : Nat} (hs : s < 256) (hk : f k < 256) (h : s = 0 ↔ ∀ j, j < k → f j = 0) : (s ||| f k) % 256 = 0 ↔ ∀ j, j < k + 1 → f j = 0 := by
  rw [or_zero8 _ _ hs hk, h]
  constructor
  · rintro ⟨h1, h2⟩ j hj
    by_cases e : j = k
    · subst e; exact h2
    · exact h1 j (by omega)
  · intro h1; exact ⟨fun j hj => h1 j (by omega), h1 k (by omega)⟩
end Go.Proofs.YthljakcegoohlaaGreatDoor
namespace Go.Proofs.YthljakcegoohlaaGreatDoor
open Go Go.RowKit
abbrev SY := Bool × (Nat → Nat) × Nat × (Nat → Nat) × (Nat → Nat)
abbrev RS := (Nat → Nat) × Bool × (Nat → Nat) × Bool × (Nat → Nat) × Bool
abbrev SS := SY × RS × Nat
def SYZ : SY := (false, fun _ => 0, 0, fun _ => 0, fun _ => 0)
abbrev ky (f : Nat → Nat) : List Nat := (List.range 32).map f
theorem ky_len (f : Nat → Nat) : (ky f).length = 32 := by simp
def B32 (f : Nat → Nat) : Prop := ∀ j, j < 32 → f j < 256
theorem ky_lt {f : Nat → Nat} (h : B32 f) : ∀ b ∈ ky f, b < 256 := range_lt h
def hashP (y : SY) (l : List Nat) : SY := (y.1, y.2.1, y.2.2.1, y.2.2.2.1, hx y.2.2.2.2 l)
def keyP (y : SY) (l : List Nat) : SY := (true, kB y.2.2.2.1 l, 0, kA y.2.2.2.1 l, y.2.2.2.2)
def mixP (y : SY) (l : List Nat) : SY := (true, kC y.2.2.2.1 l, 0, kA y.2.2.2.1 l, hx y.2.2.2.2 (ky (kB y.2.2.2.1 l)))
def freshP (np : Bool) (y : SY) (f : Nat → Nat) : SY := if np then keyP (hashP y (ky f)) (ky f) else hashP y (ky f)
def pubK (f : Nat → Nat) : Nat → Nat := bt (nOut 9 (sec f))
def mulK (f g : Nat → Nat) : Nat := nOut (pnt g) (sec f)
theorem pubK_lt (f : Nat → Nat) : B32 (pubK f) := fun _ _ => bt_lt _ _
def sealP (y : SY) (tx : List Nat) : Nat × SY × List Nat :=
  if okC y.1 y.2.1 y.2.2.1 = false then (9, SYZ, [])
  else if y.1 = false then (if 800 < tx.length then (1, SYZ, []) else (0, hashP y tx, tx))
  else if y.2.2.1 = 18446744073709551615 then (11, SYZ, [])
  else if 800 < tx.length then (1, SYZ, [])
  else (0, (true, y.2.1, y.2.2.1 + 1, y.2.2.2.1, hx y.2.2.2.2 (sealL y.2.1 (nonU y.2.2.1) (ky y.2.2.2.2) tx)), sealL y.2.1 (nonU y.2.2.1) (ky y.2.2.2.2) tx)
def openP (y : SY) (tx : List Nat) : Nat × SY × List Nat :=
  if okC y.1 y.2.1 y.2.2.1 = false then (9, SYZ, [])
  else if y.1 = false then (if 800 < tx.length then (1, SYZ, []) else (0, hashP y tx, tx))
  else if y.2.2.1 = 18446744073709551615 then (11, SYZ, [])
  else if 816 < tx.length then (1, SYZ, [])
  else if tx.length < 16 then (4, SYZ, [])
  else if tagl y.2.1 (nonU y.2.2.1) (ky y.2.2.2.2) (tx.take (tx.length - 16)) = tx.drop (tx.length - 16) then (0, (true, y.2.1, y.2.2.1 + 1, y.2.2.2.1, hx y.2.2.2.2 tx), openL y.2.1 (nonU y.2.2.1) tx)
  else (10, SYZ, [])
def lastT (fi : Bool) (t : Nat) : Bool := decide ((t : Int) = 6) || ((decide ((t : Int) = 5) && fi) || (decide ((t : Int) = 4) && !fi))
def thrT (fi : Bool) (t : Nat) : Bool := decide ((t : Int) = 6) || ((decide ((t : Int) = 4) && fi) || (decide ((t : Int) = 5) && !fi))
def secT (fi : Bool) (ow : Nat → Nat) (r : RS) (t : Nat) : Nat → Nat := if lastT fi t then ow else r.1
def hasT (fi : Bool) (r : RS) (t : Nat) : Bool := if lastT fi t then true else r.2.1
def pubT (fi : Bool) (r : RS) (t : Nat) : Nat → Nat := if thrT fi t then r.2.2.1 else r.2.2.2.2.1
def sawT (fi : Bool) (r : RS) (t : Nat) : Bool := if thrT fi t then r.2.2.2.1 else r.2.2.2.2.2
def pskAt (ps : List (Nat → Nat)) (i : Nat) : Nat → Nat := ps.getD i (fun _ => 0)
def bothT (fi : Bool) (ow : Nat → Nat) (ps : List (Nat → Nat)) (t : Nat) (s : SS) : Nat × SS :=
  if t = 7 then (if ps.length ≤ s.2.2 then (5, s) else (0, mixP s.1 (ky (pskAt ps s.2.2)), s.2.1, s.2.2 + 1))
  else if (hasT fi s.2.1 t && sawT fi s.2.1 t) = false then (5, s)
  else if mulK (secT fi ow s.2.1 t) (pubT fi s.2.1 t) = 0 then (12, s)
  else (0, keyP s.1 (ky (bt (mulK (secT fi ow s.2.1 t) (pubT fi s.2.1 t)))), s.2)
abbrev npk (ps : List (Nat → Nat)) : Bool := decide (0 < ps.length)
def tokW (fi : Bool) (ow : Nat → Nat) (ps : List (Nat → Nat)) (sc : Nat → Nat) (t : Nat) (s : SS) : Nat × SS × List Nat :=
  if t = 1 then (0, (freshP (npk ps) s.1 (pubK sc), (sc, true, s.2.1.2.2), s.2.2), ky (pubK sc))
  else if t = 2 then ((sealP s.1 (ky (pubK ow))).1, ((sealP s.1 (ky (pubK ow))).2.1, s.2), (sealP s.1 (ky (pubK ow))).2.2)
  else ((bothT fi ow ps t s).1, (bothT fi ow ps t s).2, [])
def keyN (y : SY) : Nat := if y.1 then 48 else 32
def tokR (fi : Bool) (ow : Nat → Nat) (ps : List (Nat → Nat)) (t : Nat) (s : SS) (b : List Nat) : Nat × SS × List Nat :=
  if t = 1 then (if b.length < 32 then (4, s, []) else (0, (freshP (npk ps) s.1 (fun j => b.getD j 0), (s.2.1.1, s.2.1.2.1, s.2.1.2.2.1, s.2.1.2.2.2.1, (fun j => b.getD j 0), true), s.2.2), b.drop 32))
  else if t = 2 then (if b.length < (keyN s.1) then (4, s, [])
    else if (openP s.1 (b.take (keyN s.1))).1 = 0 then (0, ((openP s.1 (b.take (keyN s.1))).2.1, (s.2.1.1, s.2.1.2.1, (fun j => (openP s.1 (b.take (keyN s.1))).2.2.getD j 0), true, s.2.1.2.2.2.2), s.2.2), b.drop (keyN s.1))
    else ((openP s.1 (b.take (keyN s.1))).1, ((openP s.1 (b.take (keyN s.1))).2.1, s.2), []))
  else ((bothT fi ow ps t s).1, (bothT fi ow ps t s).2, b)
def runW (fi : Bool) (ow : Nat → Nat) (ps : List (Nat → Nat)) (sc : Nat → Nat) : List Nat → SS → List Nat → Nat × SS × List Nat
  | [], s, out => (0, s, out)
  | t :: q, s, out => if (tokW fi ow ps sc t s).1 = 0 then runW fi ow ps sc q (tokW fi ow ps sc t s).2.1 (out ++ (tokW fi ow ps sc t s).2.2) else ((tokW fi ow ps sc t s).1, (tokW fi ow ps sc t s).2.1, [])
def runR (fi : Bool) (ow : Nat → Nat) (ps : List (Nat → Nat)) : List Nat → SS → List Nat → Nat × SS × List Nat
  | [], s, b => (0, s, b)
  | t :: q, s, b => if (tokR fi ow ps t s b).1 = 0 then runR fi ow ps q (tokR fi ow ps t s b).2.1 (tokR fi ow ps t s b).2.2 else ((tokR fi ow ps t s b).1, (tokR fi ow ps t s b).2.1, [])
def turnW (fi : Bool) (ow : Nat → Nat) (ps : List (Nat → Nat)) (sc : Nat → Nat) (q : List Nat) (s : SS) (tx : List Nat) : Nat × SS × List Nat :=
  if (runW fi ow ps sc q s []).1 = 0 then ((sealP (runW fi ow ps sc q s []).2.1.1 tx).1, ((sealP (runW fi ow ps sc q s []).2.1.1 tx).2.1, (runW fi ow ps sc q s []).2.1.2), (runW fi ow ps sc q s []).2.2 ++ (sealP (runW fi ow ps sc q s []).2.1.1 tx).2.2)
  else ((runW fi ow ps sc q s []).1, (runW fi ow ps sc q s []).2.1, [])
def turnR (fi : Bool) (ow : Nat → Nat) (ps : List (Nat → Nat)) (q : List Nat) (s : SS) (b : List Nat) : Nat × SS × List Nat :=
  if (runR fi ow ps q s b).1 = 0 then ((openP (runR fi ow ps q s b).2.1.1 (runR fi ow ps q s b).2.2).1, ((openP (runR fi ow ps q s b).2.1.1 (runR fi ow ps q s b).2.2).2.1, (runR fi ow ps q s b).2.1.2), (openP (runR fi ow ps q s b).2.1.1 (runR fi ow ps q s b).2.2).2.2)
  else ((runR fi ow ps q s b).1, (runR fi ow ps q s b).2.1, [])
theorem runR_next {fi : Bool} {ow : Nat → Nat} {ps : List (Nat → Nat)} {q : List Nat} {i : Nat} {s s' : SS} {b b' : List Nat} (hi : i < q.length) (h : tokR fi ow ps (q.getD i 0) s b = (0, s', b')) : runR fi ow ps (q.drop i) s b = runR fi ow ps (q.drop (i + 1)) s' b' := by
  rw [List.drop_eq_getElem_cons hi, runR]
  rw [List.getD_eq_getElem?_getD, List.getElem?_eq_getElem hi, Option.getD_some] at h
  rw [h]; rfl
theorem runR_stop {fi : Bool} {ow : Nat → Nat} {ps : List (Nat → Nat)} {q : List Nat} {i e : Nat} {s s' : SS} {b b' : List Nat} (hi : i < q.length) (h : tokR fi ow ps (q.getD i 0) s b = (e, s', b')) (he : e ≠ 0) : runR fi ow ps (q.drop i) s b = (e, s', []) := by
  rw [List.drop_eq_getElem_cons hi, runR]
  rw [List.getD_eq_getElem?_getD, List.getElem?_eq_getElem hi, Option.getD_some] at h
  rw [h, if_neg he]
def okY (y : SY) : Prop := B32 y.2.1 ∧ y.2.2.1 < 18446744073709551616 ∧ B32 y.2.2.2.1 ∧ B32 y.2.2.2.2
def okR (r : RS) : Prop := B32 r.1 ∧ B32 r.2.2.1 ∧ B32 r.2.2.2.2.1
def okS (s : SS) : Prop := okY s.1 ∧ okR s.2.1
theorem kA_b (c : Nat → Nat) (l : List Nat) : B32 (kA c l) := fun j _ => mac_lt _ _ j
theorem kB_b (c : Nat → Nat) (l : List Nat) : B32 (kB c l) := fun j _ => mac_lt _ _ j
theorem kC_b (c : Nat → Nat) (l : List Nat) : B32 (kC c l) := fun j _ => mac_lt _ _ j
theorem hx_b (h : Nat → Nat) (l : List Nat) : B32 (hx h l) := fun j _ => hx_lt h l j
theorem okY_hash {y : SY} (h : okY y) (l : List Nat) : okY (hashP y l) := ⟨h.1, h.2.1, h.2.2.1, hx_b _ _⟩
theorem zero_small : (0 : Nat) < 18446744073709551616 := by decide
theorem okY_mk {has : Bool} {k : Nat → Nat} {n : Nat} {ch h : Nat → Nat} (hk : B32 k) (hn : n < 18446744073709551616) (hc : B32 ch) (hh : B32 h) : okY (has, k, n, ch, h) := ⟨hk, hn, hc, hh⟩
theorem okY_key {y : SY} (h : okY y) (l : List Nat) : okY (keyP y l) := by
  unfold keyP
  exact okY_mk (kB_b _ _) zero_small (kA_b _ _) h.2.2.2
theorem okY_mix (y : SY) (l : List Nat) : okY (mixP y l) := by
  unfold mixP
  exact okY_mk (kC_b _ _) zero_small (kA_b _ _) (hx_b _ _)
theorem okY_fresh {y : SY} (h : okY y) (np : Bool) (f : Nat → Nat) : okY (freshP np y f) := by
  unfold freshP; split
  · exact okY_key (okY_hash h _) _
  · exact okY_hash h _
theorem okY_zero : okY SYZ := ⟨fun _ _ => show 0 < _ by decide, show 0 < _ by decide, fun _ _ => show 0 < _ by decide, fun _ _ => show 0 < _ by decide⟩
theorem okY_open {y : SY} (h : okY y) (tx : List Nat) : okY (openP y tx).2.1 := by
  unfold openP
  split
  · exact okY_zero
  split
  · split
    · exact okY_zero
    · exact okY_hash h _
  split
  · exact okY_zero
  split
  · exact okY_zero
  split
  · exact okY_zero
  split
  · rename_i hn _ _ _
    have := h.2.1
    exact ⟨h.1, show y.2.2.1 + 1 < _ by omega, h.2.2.1, hx_b _ _⟩
  · exact okY_zero
theorem sealP_len (y : SY) (tx : List Nat) : (sealP y tx).2.2.length ≤ tx.length + 16 := by
  unfold sealP
  split
  · simp
  split
  · split <;> simp
  split
  · simp
  split
  · simp
  · show (sealL _ _ _ _).length ≤ _
    rw [sealL_len]; omega
theorem openP_lt {y : SY} {tx : List Nat} (ht : ∀ b ∈ tx, b < 256) : ∀ b ∈ (openP y tx).2.2, b < 256 := by
  unfold openP
  split
  · simp
  split
  · split
    · simp
    · exact ht
  split
  · simp
  split
  · simp
  split
  · simp
  split
  · exact strl_lt _ _ _ _ _
  · simp
theorem openP_len (y : SY) (tx : List Nat) : (openP y tx).2.2.length ≤ tx.length := by
  unfold openP
  split
  · simp
  split
  · split <;> simp
  split
  · simp
  split
  · simp
  split
  · simp
  split
  · show (openL _ _ _).length ≤ _
    rw [openL_len]; omega
  · simp
theorem openP_key {y : SY} {b : List Nat} (hb : keyN y ≤ b.length) (h : (openP y (b.take (keyN y))).1 = 0) : (openP y (b.take (keyN y))).2.2.length = 32 := by
  obtain ⟨c, hc⟩ : ∃ c, c = b.take (keyN y) := ⟨_, rfl⟩
  have hl : c.length = keyN y := by rw [hc, List.length_take]; omega
  rw [← hc] at h ⊢
  revert h
  unfold openP
  split
  · intro h; exact absurd h (show ¬ 9 = 0 by decide)
  split
  · rename_i hf
    rw [keyN, hf, if_neg (by decide)] at hl
    split
    · intro h; exact absurd h (show ¬ 1 = 0 by decide)
    · intro _; exact hl
  split
  · intro h; exact absurd h (show ¬ 11 = 0 by decide)
  split
  · intro h; exact absurd h (show ¬ 1 = 0 by decide)
  split
  · intro h; exact absurd h (show ¬ 4 = 0 by decide)
  split
  · rename_i hf _ _ _ _
    intro _
    show (openL _ _ _).length = _
    rw [openL_len, hl, keyN]
    cases hy : y.1 with
    | false => exact absurd hy hf
    | true => rfl
  · intro h; exact absurd h (show ¬ 10 = 0 by decide)
theorem okS_both {fi : Bool} {ow : Nat → Nat} {ps : List (Nat → Nat)} {t : Nat} {s : SS} (h : okS s) : okS (bothT fi ow ps t s).2 := by
  unfold bothT
  split
  · split
    · exact h
    · exact ⟨okY_mix _ _, h.2⟩
  split
  · exact h
  split
  · exact h
  · exact ⟨okY_key h.1 _, h.2⟩
theorem getD_B32 {b : List Nat} (hb : ∀ x ∈ b, x < 256) : B32 (fun j => b.getD j 0) := fun j _ => getD_lt hb j
theorem okS_tokR {fi : Bool} {ow : Nat → Nat} {ps : List (Nat → Nat)} {t : Nat} {s : SS} {b : List Nat} (h : okS s) (hb : ∀ x ∈ b, x < 256) : okS (tokR fi ow ps t s b).2.1 := by
  unfold tokR
  split
  · split
    · exact h
    · exact ⟨okY_fresh h.1 _ _, h.2.1, h.2.2.1, getD_B32 hb⟩
  split
  · split
    · exact h
    split
    · exact ⟨okY_open h.1 _, h.2.1, getD_B32 (openP_lt fun x hx => hb x (List.mem_of_mem_take hx)), h.2.2.2⟩
    · exact ⟨okY_open h.1 _, h.2⟩
  · exact okS_both h
theorem tokW_len {fi : Bool} {ow : Nat → Nat} {ps : List (Nat → Nat)} {sc : Nat → Nat} {t : Nat} {s : SS} : (tokW fi ow ps sc t s).2.2.length ≤ 48 := by
  unfold tokW
  split
  · show (ky _).length ≤ _
    rw [ky_len]; decide
  split
  · have := sealP_len s.1 (ky (pubK ow))
    rw [ky_len] at this
    exact this
  · simp
theorem tokR_lt {fi : Bool} {ow : Nat → Nat} {ps : List (Nat → Nat)} {t : Nat} {s : SS} {b : List Nat} (hb : ∀ x ∈ b, x < 256) : ∀ x ∈ (tokR fi ow ps t s b).2.2, x < 256 := by
  unfold tokR
  split
  · split
    · simp
    · exact fun x hx => hb x (List.mem_of_mem_drop hx)
  split
  · split
    · simp
    split
    · exact fun x hx => hb x (List.mem_of_mem_drop hx)
    · simp
  · exact hb
theorem tokR_len {fi : Bool} {ow : Nat → Nat} {ps : List (Nat → Nat)} {t : Nat} {s : SS} {b : List Nat} : (tokR fi ow ps t s b).2.2.length ≤ b.length := by
  unfold tokR
  split
  · split
    · simp
    · show (b.drop 32).length ≤ _
      simp
  split
  · split
    · simp
    split
    · show (b.drop _).length ≤ _
      rw [List.length_drop]; omega
    · simp
  · exact Nat.le_refl _
abbrev shP (b : List Nat) (l : Bool) (vp v0 v1 vt : Value) (fi : Bool) (tn : Int) (dd : Bool) (y : SY) (ow : Nat → Nat) (r : RS) (vk : Value) (us : Int) : List Part :=
  [pV (sv b), pV (.bool l), pV vp, pV v0, pV v1, pV vt, pV (.bool fi), pV (.int .i64 tn), pV (.bool dd), pV (.bool y.1), pI .u8 32 y.2.1, pV (u y.2.2.1), pI .u8 32 y.2.2.2.1, pI .u8 32 y.2.2.2.2, pI .u8 32 ow, pI .u8 32 r.1, pV (.bool r.2.1), pI .u8 32 r.2.2.1, pV (.bool r.2.2.2.1), pI .u8 32 r.2.2.2.2.1, pV (.bool r.2.2.2.2.2), pV vk, pV (.int .i64 us)]
abbrev shC (b : List Nat) (l : Bool) (vp v0 v1 vt : Value) (fi : Bool) (tn : Int) (dd : Bool) (y : SY) (ow : Nat → Nat) (r : RS) (vk : Value) (us : Int) : Array Value := cells 240 (shP b l vp v0 v1 vt fi tn dd y ow r vk us)
abbrev keyC (f : Nat → Nat) : List Value := (ky f).map by8
theorem keyC_len (f : Nat → Nat) : (keyC f).length = 32 := by simp
abbrev psC (ps : List (Nat → Nat)) : List Value := ps.flatMap keyC
theorem psC_at {ps : List (Nat → Nat)} {i : Nat} (h : i < ps.length) : ((psC ps).drop (i * 32)).take 32 = keyC (pskAt ps i) := by
  rw [flatMap_at keyC_len ps i h, pskAt, List.getD_eq_getElem?_getD, List.getElem?_eq_getElem h]; rfl
theorem keyC_arr (f : Nat → Nat) : (keyC f).toArray = arr .u8 32 f := by
  apply Array.ext'
  simp [keyC, ky, arr]
end Go.Proofs.YthljakcegoohlaaGreatDoor
namespace Go.Proofs.YthljakcegoohlaaGreatDoor
open Go Go.RowKit
abbrev Ev := Nat × Nat
def hit (who tok : Int) (x : Ev) : Bool := decide ((x.2 : Int) = tok) && (decide (who < 0) || decide ((x.1 : Int) = who))
def hap (l : List Ev) (who tok : Int) : Bool := l.any (hit who tok)
abbrev iv (z : Int) : Value := .int .i64 z
def ShowsLI (B : Mem) (vs : List Value) (ls : List (List Int)) : Prop := vs.length = ls.length ∧ ∀ i, i < ls.length → Shows B 1 (vs.getD i undef) (ls.getD i []).length ((ls.getD i []).map iv)
theorem iv_at {l : List Int} {i : Nat} (h : i < l.length) : (l.map iv)[i]? = some (iv (l.getD i 0)) := by
  rw [List.getElem?_map, List.getElem?_eq_getElem h, List.getD_eq_getElem?_getD, List.getElem?_eq_getElem h]; rfl
def wrong (x : Int) : Bool := decide (x < 1) || decide (7 < x)
def first1 : List (List Int) → Nat
  | [] => 0
  | t :: r => if 6 < t.length then 1 else if t.any wrong then 2 else first1 r
theorem first1_none {ls : List (List Int)} (h : ∀ j, j < ls.length → (ls.getD j []).length ≤ 6 ∧ (ls.getD j []).any wrong = false) : first1 ls = 0 := by
  induction ls with
  | nil => rfl
  | cons t r ih =>
    have h0 := h 0 (by simp)
    simp at h0
    rw [first1, if_neg (by omega)]
    have : t.any wrong = false := by simpa using h0.2
    rw [this, if_neg (by decide)]
    exact ih fun j hj => by simpa using h (j + 1) (by simpa using hj)
theorem first1_at : ∀ {ls : List (List Int)} {i : Nat}, i < ls.length → (∀ j, j < i → (ls.getD j []).length ≤ 6 ∧ (ls.getD j []).any wrong = false) → first1 ls = first1 (ls.getD i [] :: ls.drop (i + 1))
  | t :: r, 0, _, _ => rfl
  | t :: r, i + 1, hi, h => by
    have h0 := h 0 (by omega)
    simp at h0
    have : t.any wrong = false := by simpa using h0.2
    rw [first1, if_neg (by omega), this, if_neg (by decide)]
    exact (first1_at (by simpa using hi) fun j hj => by simpa using h (j + 1) (by omega))
theorem any_none {l : List Int} (h : ∀ j, j < l.length → wrong (l.getD j 0) = false) : l.any wrong = false := by
  rw [List.any_eq_false]
  intro x hx
  obtain ⟨j, hj, rfl⟩ := List.getElem_of_mem hx
  have := h j hj
  rw [List.getD_eq_getElem?_getD, List.getElem?_eq_getElem hj] at this
  simp at this
  simp [this]
theorem any_at {l : List Int} {j : Nat} (hj : j < l.length) (h : wrong (l.getD j 0) = true) : l.any wrong = true := by
  rw [List.any_eq_true]
  refine ⟨_, List.getElem_mem hj, ?_⟩
  rw [List.getD_eq_getElem?_getD, List.getElem?_eq_getElem hj] at h
  exact h
def mown (who : Int) : Nat := if who = 1 then 4 else 5
def mfre (who : Int) : Nat := if who = 1 then 5 else 4
def mlock (l : List Ev) (who : Int) : Bool := !(hap l (-1) 7 && !(hap l who 1)) && ((!(hap l (-1) (mown who)) || hap l (-1) 3) && (!(hap l (-1) 6) || hap l (-1) (mfre who)))
def locksE (es : List Ev) : Bool := hap es (-1) 3 || hap es (-1) 4 || hap es (-1) 5 || hap es (-1) 6 || hap es (-1) 7
def okPre (es : List Ev) (e : Ev) : Bool := !(decide (2 < (e.2 : Int)) || hap es e.1 e.2)
def okT (es : List Ev) (w y : Nat) : Bool :=
  if y = 0 then (!(locksE es) || mlock es w)
  else if y = 1 then !(hap es w 1)
  else if y = 2 then (!(hap es w 2) && (!(locksE es) || mlock es w))
  else if y = 3 then ((hap es 0 1 && hap es 1 1) && !(hap es (-1) y))
  else if y = 4 then ((hap es 0 1 && hap es 1 2) && !(hap es (-1) y))
  else if y = 5 then ((hap es 0 2 && hap es 1 1) && !(hap es (-1) y))
  else if y = 6 then ((hap es 0 2 && hap es 1 2) && !(hap es (-1) y))
  else true
def okTurn (es : List Ev) (e : Ev) : Bool := okT es e.1 e.2
def whoT (late : Bool) (i : Nat) : Nat := if late then (i + 1) % 2 else i % 2
def evL (late : Bool) (q0 q1 : List Nat) (us : List (List Nat)) : List (List Ev) := q0.map (fun x => (0, x)) :: q1.map (fun x => (1, x)) :: us.zipIdx.map (fun p => (p.1 ++ [0]).map fun x => (whoT late p.2, x))
def uptoE (L : List (List Ev)) (i j : Nat) : List Ev := (L.take i).flatten ++ (L.getD i []).take j
def okAt (L : List (List Ev)) (i j : Nat) : Bool := (if i < 2 then okPre else okTurn) (uptoE L i j) ((L.getD i []).getD j (0, 0))
def allOk (L : List (List Ev)) : Bool := (List.range L.length).all fun i => (List.range (L.getD i []).length).all fun j => okAt L i j
theorem allOk_true {L : List (List Ev)} (h : ∀ i j, i < L.length → j < (L.getD i []).length → okAt L i j = true) : allOk L = true := by
  rw [allOk, List.all_eq_true]
  intro i hi
  rw [List.all_eq_true]
  intro j hj
  exact h i j (by simpa using hi) (by simpa using hj)
theorem allOk_false {L : List (List Ev)} {i j : Nat} (hi : i < L.length) (hj : j < (L.getD i []).length) (h : okAt L i j = false) : allOk L = false := by
  cases e : allOk L with
  | false => rfl
  | true =>
    rw [allOk, List.all_eq_true] at e
    have := e i (by simpa using hi)
    rw [List.all_eq_true] at this
    rw [this j (by simpa using hj)] at h
    cases h
theorem uptoE_zero (L : List (List Ev)) : uptoE L 0 0 = [] := by simp [uptoE]
theorem uptoE_row {L : List (List Ev)} {i : Nat} (hi : i < L.length) : uptoE L i (L.getD i []).length = uptoE L (i + 1) 0 := by
  unfold uptoE
  rw [List.take_length, List.take_zero, List.append_nil, List.take_add_one, List.flatten_append, List.getD_eq_getElem?_getD, List.getElem?_eq_getElem hi]
  simp
abbrev ci (q : List Nat) : List Int := q.map fun x : Nat => (x : Int)
theorem ci_at {q : List Nat} {i : Nat} (h : i < q.length) : ((ci q).map iv)[i]? = some (ii (q.getD i 0)) := by
  rw [List.getElem?_map, List.getElem?_map, List.getElem?_eq_getElem h, List.getD_eq_getElem?_getD, List.getElem?_eq_getElem h]; rfl
theorem li_head {B : Mem} {v : Value} {vs : List Value} {q : List Nat} {ls : List (List Int)} (h : ShowsLI B (v :: vs) (ci q :: ls)) : Shows B 1 v q.length ((ci q).map iv) := by
  have h0 : Shows B 1 v (ci q).length ((ci q).map iv) := h.2 0 (by simp)
  rw [List.length_map] at h0; exact h0
theorem li_tail {B : Mem} {v : Value} {l : List Int} {vs : List Value} {ls : List (List Int)} (h : ShowsLI B (v :: vs) (l :: ls)) : ShowsLI B vs ls :=
  ⟨by have := h.1; simpa using this, fun i hi => by have := h.2 (i + 1) (by simpa using hi); exact this⟩
theorem li_at {B : Mem} {vs : List Value} {us : List (List Nat)} (h : ShowsLI B vs (us.map ci)) {i : Nat} (hi : i < us.length) : Shows B 1 (vs.getD i undef) (us.getD i []).length ((ci (us.getD i [])).map iv) := by
  have h0 := h.2 i (by simpa using hi)
  have e : (us.map ci).getD i [] = ci (us.getD i []) := by
    simp [List.getD_eq_getElem?_getD, hi]
  rw [e, List.length_map] at h0; exact h0
theorem li_one {B : Mem} {vs : List Value} {ls : List (List Int)} (h : ShowsLI B vs ls) : ∀ u ∈ vs, u.oneCell' = true := fun u hu => by
  obtain ⟨i, hi, rfl⟩ := List.getElem_of_mem hu
  have h0 := h.2 i (by rw [← h.1]; exact hi)
  rw [List.getD_eq_getElem?_getD, List.getElem?_eq_getElem hi] at h0
  rcases h0 with ⟨_, _, oa, c, e, _⟩ | ⟨b, o, c, cs, t, e, _⟩ <;> (simp only [Option.getD_some] at e; rw [e]; rfl)
theorem li_mono {B B' : Mem} {vs : List Value} {ls : List (List Int)} (h : ShowsLI B vs ls) (hs : ∀ x ∈ B, x ∈ B') : ShowsLI B' vs ls := ⟨h.1, fun i hi => (h.2 i hi).mono hs⟩
def qq (q0 q1 : List Nat) (a : Nat) : List Nat := if a = 0 then q0 else q1
def vq (v0 v1 : Value) (a : Nat) : Value := if a = 0 then v0 else v1
theorem evL_pre {late : Bool} {q0 q1 : List Nat} {us : List (List Nat)} {a : Nat} (h : a < 2) : (evL late q0 q1 us).getD a [] = (qq q0 q1 a).map (fun x => (a, x)) := by
  have : a = 0 ∨ a = 1 := by omega
  rcases this with rfl | rfl <;> rfl
theorem evL_turn {late : Bool} {q0 q1 : List Nat} {us : List (List Nat)} {i : Nat} (h : i < us.length) : (evL late q0 q1 us).getD (2 + i) [] = (us.getD i [] ++ [0]).map (fun x => (whoT late i, x)) := by
  rw [show 2 + i = i + 2 by omega]
  show (us.zipIdx.map (fun p => (p.1 ++ [0]).map fun x => (whoT late p.2, x))).getD i [] = _
  simp [List.getD_eq_getElem?_getD, h]
theorem evL_len {late : Bool} {q0 q1 : List Nat} {us : List (List Nat)} : (evL late q0 q1 us).length = 2 + us.length := by
  simp [evL]; omega
theorem map_at {a j : Nat} {q : List Nat} (h : j < q.length) : (q.map (fun x => (a, x))).getD j (0, 0) = (a, q.getD j 0) := by
  simp [List.getD_eq_getElem?_getD, h]
def fin3 (L : List (List Ev)) : Nat := if allOk L then 0 else 3
theorem fin3_bad {L : List (List Ev)} {i j : Nat} (hi : i < L.length) (hj : j < (L.getD i []).length) (h : okAt L i j = false) : fin3 L = 3 := by
  rw [fin3, allOk_false hi hj h]; rfl
theorem fin3_ok {L : List (List Ev)} (h : ∀ i j, i < L.length → j < (L.getD i []).length → okAt L i j = true) : fin3 L = 0 := by
  rw [fin3, allOk_true h]; rfl
theorem iv_one {l : List Int} : ∀ u ∈ l.map iv, u.oneCell' = true := fun u hu => by
  obtain ⟨n, _, rfl⟩ := List.mem_map.1 hu; rfl
theorem pre_shows {G : Mem} {v0 v1 : Value} {q0 q1 : List Nat} (h0 : Shows G 1 v0 q0.length ((ci q0).map iv)) (h1 : Shows G 1 v1 q1.length ((ci q1).map iv)) : ∀ a, a < 2 → Shows G 1 (vq v0 v1 a) (qq q0 q1 a).length ((ci (qq q0 q1 a)).map iv) := fun a ha => by
  have : a = 0 ∨ a = 1 := by omega
  rcases this with rfl | rfl
  · exact h0
  · exact h1
end Go.Proofs.YthljakcegoohlaaGreatDoor
namespace Go.Proofs.YthljakcegoohlaaGreatDoor
open Go Go.ChangeShapes Go.WideShapes Go.ChangeAt Go.RowKit
section
variable {H : Type} {enc : TypeId × Value → H} {P : Program} {t e : TypeId}
end
end Go.Proofs.YthljakcegoohlaaGreatDoor
namespace Go.Proofs.YthljakcegoohlaaGreatDoor
open Go Go.ChangeShapes Go.WideShapes Go.ChangeAt Go.RowKit
section
variable {P : Program} {G : Mem}
variable {H : Type} {enc : TypeId × Value → H}
end
end Go.Proofs.YthljakcegoohlaaGreatDoor
namespace Go.Proofs.YthljakcegoohlaaGreatDoor
open Go Go.ChangeShapes Go.WideShapes Go.ChangeAt Go.RowKit
structure RawT where
  a : Int
  b : Int
  c : Int
  t : List Nat
section
variable {P : Program} {G : Mem}
end
section
variable {P : Program} {H : Type} {enc : TypeId × Value → H}
end
end Go.Proofs.YthljakcegoohlaaGreatDoor
namespace Go.Proofs.YthljakcegoohlaaGreatDoor
open Go Go.ChangeShapes Go.WideShapes Go.ChangeAt Go.RowKit
section
variable {P : Program} {G : Mem}
end
section
variable {P : Program} {H : Type} {enc : TypeId × Value → H}
end
theorem wrong_no {l : List Int} (h : l.any wrong = false) : l = ci (l.map Int.toNat) := by
  rw [List.any_eq_false] at h
  unfold ci
  rw [List.map_map]
  conv => lhs; rw [← List.map_id l]
  refine List.map_congr_left fun x hx => ?_
  have := h x hx
  simp [wrong] at this
  show x = ((x.toNat : Nat) : Int)
  omega
theorem first1_zero : ∀ {ls : List (List Int)}, first1 ls = 0 → ∀ t ∈ ls, t.length ≤ 6 ∧ t.any wrong = false
  | t :: r, h, x, hx => by
    rw [first1] at h
    by_cases h6 : 6 < t.length
    · rw [if_pos h6] at h; cases h
    · rw [if_neg h6] at h
      cases hw : t.any wrong with
      | true => rw [hw, if_pos rfl] at h; cases h
      | false =>
        rw [hw, if_neg (by decide)] at h
        rcases List.mem_cons.1 hx with rfl | hx
        · exact ⟨by omega, hw⟩
        · exact first1_zero h x hx
def pfault (late : Bool) (p0 p1 : List Int) (ts : List (List Int)) : Nat :=
  if ts.length = 0 ∨ 5 < ts.length then 1 else if first1 (p0 :: p1 :: ts) = 0 then fin3 (evL late (p0.map Int.toNat) (p1.map Int.toNat) (ts.map fun t => t.map Int.toNat)) else first1 (p0 :: p1 :: ts)
end Go.Proofs.YthljakcegoohlaaGreatDoor
namespace Go.Proofs.YthljakcegoohlaaGreatDoor
open Go Go.RowKit
theorem hap_push (es : List Ev) (e : Ev) (who tok : Int) : hap (es ++ [e]) who tok = (hap es who tok || hit who tok e) := by simp [hap]
def stE (es : List Ev) (i : Nat) : Bool := if i < 6 then (decide (i % 3 ≠ 0) && hap es ((i / 3 : Nat) : Int) ((i % 3 : Nat) : Int)) else (decide (9 ≤ i) && hap es (-1) ((i - 6 : Nat) : Int))
abbrev kst (s : Nat → Bool) : Array Value := arrv 14 (fun i => .bool (s i))
theorem stE_nil (i : Nat) : stE [] i = false := by unfold stE; split <;> simp [hap]
theorem stE_key {es : List Ev} {w k : Nat} (hk : k = 1 ∨ k = 2) (hw : w < 2) : stE es (3 * w + k) = hap es (w : Int) (k : Int) := by
  have h1 : (3 * w + k) / 3 = w ∧ (3 * w + k) % 3 = k := by omega
  rw [stE, if_pos (by omega), h1.1, h1.2, decide_eq_true (by omega)]; rfl
theorem stE_been {es : List Ev} {t : Nat} (h3 : 3 ≤ t) : stE es (6 + t) = hap es (-1) (t : Int) := by
  rw [stE, if_neg (by omega), decide_eq_true (by omega), show 6 + t - 6 = t by omega]; rfl
theorem stE_push_key {es : List Ev} {w k : Nat} (hk : k = 1 ∨ k = 2) (hw : w < 2) (j : Nat) : stE (es ++ [(w, k)]) j = (stE es j || decide (j = 3 * w + k)) := by
  unfold stE
  by_cases h6 : j < 6
  · rw [if_pos h6, if_pos h6, hap_push]
    have e : hit ((j / 3 : Nat) : Int) ((j % 3 : Nat) : Int) (w, k) = decide (j = 3 * w + k) := by
      unfold hit
      rw [Bool.eq_iff_iff]
      simp only [Bool.and_eq_true, Bool.or_eq_true, decide_eq_true_eq]
      omega
    rw [e]
    by_cases h0 : j % 3 = 0
    · have h1 : ¬ j = 3 * w + k := by omega
      simp [h0, h1]
    · simp [h0]
  · rw [if_neg h6, if_neg h6, hap_push]
    have e : hit (-1) ((j - 6 : Nat) : Int) (w, k) = decide (k = j - 6) := by
      unfold hit
      rw [Bool.eq_iff_iff]
      simp only [Bool.and_eq_true, Bool.or_eq_true, decide_eq_true_eq]
      omega
    rw [e]
    have h1 : ¬ j = 3 * w + k := by omega
    by_cases h9 : 9 ≤ j
    · have h2 : ¬ k = j - 6 := by omega
      simp [h1, h2]
    · simp [h1, h9]
theorem stE_push_tok {es : List Ev} {w t : Nat} (h3 : 3 ≤ t) (h7 : t ≤ 7) (j : Nat) : stE (es ++ [(w, t)]) j = (stE es j || decide (j = 6 + t)) := by
  unfold stE
  by_cases h6 : j < 6
  · rw [if_pos h6, if_pos h6, hap_push]
    have e : hit ((j / 3 : Nat) : Int) ((j % 3 : Nat) : Int) (w, t) = false := by
      unfold hit
      rw [decide_eq_false (by show ¬ ((t : Int) = _); omega)]; rfl
    have h1 : ¬ j = 6 + t := by omega
    rw [e]; simp [h1]
  · rw [if_neg h6, if_neg h6, hap_push]
    have e : hit (-1) ((j - 6 : Nat) : Int) (w, t) = decide (j = 6 + t) := by
      unfold hit
      rw [Bool.eq_iff_iff]
      simp only [Bool.and_eq_true, Bool.or_eq_true, decide_eq_true_eq]
      omega
    rw [e]
    by_cases h9 : 9 ≤ j
    · simp [h9]
    · have h1 : ¬ j = 6 + t := by omega
      simp [h1, h9]
theorem stE_push_zero {es : List Ev} {w : Nat} (j : Nat) : stE (es ++ [(w, 0)]) j = stE es j := by
  unfold stE
  by_cases h6 : j < 6
  · rw [if_pos h6, if_pos h6, hap_push]
    by_cases h0 : j % 3 = 0
    · simp [h0]
    · have e : hit ((j / 3 : Nat) : Int) ((j % 3 : Nat) : Int) (w, 0) = false := by
        unfold hit
        rw [decide_eq_false (by show ¬ (((0 : Nat) : Int) = _); omega)]; rfl
      rw [e]; simp
  · rw [if_neg h6, if_neg h6, hap_push]
    by_cases h9 : 9 ≤ j
    · have e : hit (-1) ((j - 6 : Nat) : Int) (w, 0) = false := by
        unfold hit
        rw [decide_eq_false (by show ¬ (((0 : Nat) : Int) = _); omega)]; rfl
      rw [e]; simp
    · simp [h9]
theorem kst_zero {es : List Ev} {w : Nat} : kst (stE (es ++ [(w, 0)])) = kst (stE es) := arrv_congr fun j _ => by rw [stE_push_zero]
theorem kst_key {es : List Ev} {w k : Nat} (hk : k = 1 ∨ k = 2) (hw : w < 2) : arrv 14 (updv (fun i => .bool (stE es i)) (3 * w + k) (.bool true)) = kst (stE (es ++ [(w, k)])) := arrv_congr fun j _ => by
  rw [stE_push_key hk hw, updv]
  by_cases e : j = 3 * w + k
  · rw [if_pos e, decide_eq_true e, Bool.or_true]
  · rw [if_neg e, decide_eq_false e, Bool.or_false]
theorem kst_tok {es : List Ev} {w t : Nat} (h3 : 3 ≤ t) (h7 : t ≤ 7) : arrv 14 (updv (fun i => .bool (stE es i)) (6 + t) (.bool true)) = kst (stE (es ++ [(w, t)])) := arrv_congr fun j _ => by
  rw [stE_push_tok h3 h7, updv]
  by_cases e : j = 6 + t
  · rw [if_pos e, decide_eq_true e, Bool.or_true]
  · rw [if_neg e, decide_eq_false e, Bool.or_false]
def mlS (s : Nat → Bool) (w : Nat) : Bool := !(s 13 && !(s (3 * w + 1))) && (!(s (6 + mown w) && !(s 9)) && (!(s 12) || s (6 + mfre w)))
theorem mlS_stE {es : List Ev} {w : Nat} (hw : w < 2) : mlS (stE es) w = (!(locksE es) || mlock es w) := by
  have a13 : stE es 13 = hap es (-1) 7 := stE_been (es := es) (t := 7) (by decide)
  have a9 : stE es 9 = hap es (-1) 3 := stE_been (es := es) (t := 3) (by decide)
  have a12 : stE es 12 = hap es (-1) 6 := stE_been (es := es) (t := 6) (by decide)
  have a10 : stE es (6 + 4) = hap es (-1) 4 := stE_been (es := es) (t := 4) (by decide)
  have a11 : stE es (6 + 5) = hap es (-1) 5 := stE_been (es := es) (t := 5) (by decide)
  have hw2 : w = 0 ∨ w = 1 := by omega
  rcases hw2 with rfl | rfl
  · have ak : stE es (3 * 0 + 1) = hap es 0 1 := stE_key (es := es) (w := 0) (k := 1) (.inl rfl) (by decide)
    have m1 : mown ((0 : Nat) : Int) = 5 := rfl
    have m2 : mfre ((0 : Nat) : Int) = 4 := rfl
    rw [mlS, m1, m2, a13, a9, a12, a10, a11, ak, mlock, m1, m2, locksE]
    show _ = (!_ || (!(hap es (-1) 7 && !(hap es 0 1)) && ((!(hap es (-1) 5) || hap es (-1) 3) && (!(hap es (-1) 6) || hap es (-1) 4))))
    generalize hap es (-1) 7 = x7
    generalize hap es (-1) 3 = x3
    generalize hap es (-1) 4 = x4
    generalize hap es (-1) 5 = x5
    generalize hap es (-1) 6 = x6
    generalize hap es 0 1 = x1
    cases x7 <;> cases x3 <;> cases x4 <;> cases x5 <;> cases x6 <;> cases x1 <;> rfl
  · have ak : stE es (3 * 1 + 1) = hap es 1 1 := stE_key (es := es) (w := 1) (k := 1) (.inl rfl) (by decide)
    have m1 : mown ((1 : Nat) : Int) = 4 := rfl
    have m2 : mfre ((1 : Nat) : Int) = 5 := rfl
    rw [mlS, m1, m2, a13, a9, a12, a10, a11, ak, mlock, m1, m2, locksE]
    show _ = (!_ || (!(hap es (-1) 7 && !(hap es 1 1)) && ((!(hap es (-1) 4) || hap es (-1) 3) && (!(hap es (-1) 6) || hap es (-1) 5))))
    generalize hap es (-1) 7 = x7
    generalize hap es (-1) 3 = x3
    generalize hap es (-1) 4 = x4
    generalize hap es (-1) 5 = x5
    generalize hap es (-1) 6 = x6
    generalize hap es 1 1 = x1
    cases x7 <;> cases x3 <;> cases x4 <;> cases x5 <;> cases x6 <;> cases x1 <;> rfl
def ltr (t : Nat) : Nat → Nat := fun j => if t = 3 then 1 else if t = 4 then (if j = 0 then 1 else 2) else if t = 5 then (if j = 0 then 2 else 1) else 2
theorem ltr_in (t j : Nat) : ltr t j = 1 ∨ ltr t j = 2 := by
  unfold ltr
  repeat' split
  all_goals omega
def mixB (s : Nat → Bool) (t : Nat) : Bool := s (6 + t) || !(s (ltr t 0)) || !(s (3 + ltr t 1))
theorem mixB_stE {es : List Ev} {w t : Nat} (h3 : 3 ≤ t) (h6 : t ≤ 6) : mixB (stE es) t = !(okT es w t) := by
  have k0 : stE es (ltr t 0) = hap es 0 (ltr t 0 : Nat) := by
    have := stE_key (es := es) (w := 0) (ltr_in t 0) (by decide)
    simpa using this
  have k1 : stE es (3 + ltr t 1) = hap es 1 (ltr t 1 : Nat) := by
    have := stE_key (es := es) (w := 1) (ltr_in t 1) (by decide)
    simpa using this
  rw [mixB, stE_been h3, k0, k1]
  have ht : t = 3 ∨ t = 4 ∨ t = 5 ∨ t = 6 := by omega
  have b3 : ∀ a b c : Bool, (a || !b || !c) = !((b && c) && !a) := by decide
  rcases ht with rfl | rfl | rfl | rfl
  · exact b3 _ _ _
  · exact b3 _ _ _
  · exact b3 _ _ _
  · exact b3 _ _ _
theorem okT_one (es : List Ev) (w : Nat) : okT es w 1 = !(hap es w 1) := rfl
theorem okT_two {es : List Ev} {w : Nat} (hw : w < 2) : okT es w 2 = (mlS (stE es) w && !(hap es w 2)) := by
  rw [mlS_stE hw]
  show (!(hap es w 2) && (!(locksE es) || mlock es w)) = _
  rw [Bool.and_comm]
theorem okT_zero {es : List Ev} {w : Nat} (hw : w < 2) : okT es w 0 = mlS (stE es) w := by rw [mlS_stE hw]; rfl
theorem okPre_tok {es : List Ev} {a x : Nat} : okPre es (a, x) = (decide (x ≤ 2) && !(hap es a x)) := by
  unfold okPre
  by_cases h : x ≤ 2
  · have h2 : decide (2 < ((x : Nat) : Int)) = false := decide_eq_false (by omega)
    show (!(decide (2 < ((x : Nat) : Int)) || _)) = _
    rw [h2, decide_eq_true h]; rfl
  · have h2 : decide (2 < ((x : Nat) : Int)) = true := decide_eq_true (by omega)
    show (!(decide (2 < ((x : Nat) : Int)) || _)) = _
    rw [h2, decide_eq_false h]; rfl
theorem first1_toks {ls : List (List Nat)} (h : first1 (ls.map ci) = 0) : ∀ q ∈ ls, q.length ≤ 6 ∧ ∀ x ∈ q, 1 ≤ x ∧ x ≤ 7 := fun q hq => by
  obtain ⟨h1, h2⟩ := first1_zero h (ci q) (List.mem_map.2 ⟨q, hq, rfl⟩)
  refine ⟨by simpa using h1, fun x hx => ?_⟩
  rw [List.any_eq_false] at h2
  have := h2 (x : Int) (List.mem_map.2 ⟨x, hx, rfl⟩)
  simp [wrong] at this
  omega
theorem first1_split (p0 p1 : List Int) (ts : List (List Int)) : first1 (p0 :: p1 :: ts) = if first1 [p0, p1] = 0 then first1 ts else first1 [p0, p1] := by
  simp only [first1]
  repeat' split
  all_goals first | rfl | contradiction
end Go.Proofs.YthljakcegoohlaaGreatDoor
namespace Go.Proofs.YthljakcegoohlaaGreatDoor
open Go Go.RowKit
abbrev rowE (w : Nat) (l : List Nat) : List Ev := l.map fun x => (w, x)
def okPR (es : List Ev) (a : Nat) (l : List Nat) : Bool := (List.range l.length).all fun j => okPre (es ++ (rowE a l).take j) (a, l.getD j 0)
def okTR (es : List Ev) (w : Nat) (l : List Nat) : Bool := (List.range (l.length + 1)).all fun j => okT (es ++ (rowE w (l ++ [0])).take j) w ((l ++ [0]).getD j 0)
theorem rowE_next {es : List Ev} {w j : Nat} {l : List Nat} (h : j < l.length) : es ++ (rowE w l).take (j + 1) = (es ++ (rowE w l).take j) ++ [(w, l.getD j 0)] := by
  rw [List.take_add_one, List.append_assoc, List.getElem?_map, List.getElem?_eq_getElem h, List.getD_eq_getElem?_getD, List.getElem?_eq_getElem h]; rfl
theorem rowE_zero {es : List Ev} {w : Nat} {l : List Nat} : es ++ (rowE w l).take 0 = es := by simp
theorem rowE_all {es : List Ev} {w : Nat} {l : List Nat} : es ++ (rowE w l).take l.length = es ++ rowE w l := by
  rw [List.take_of_length_le (by simp)]
theorem all_true {n : Nat} {f : Nat → Bool} (h : ∀ j, j < n → f j = true) : (List.range n).all f = true := by
  rw [List.all_eq_true]; exact fun j hj => h j (by simpa using hj)
theorem all_false {n j : Nat} {f : Nat → Bool} (hj : j < n) (h : f j = false) : (List.range n).all f = false := by
  rw [List.all_eq_false]; exact ⟨j, by simpa using hj, by rw [h]; decide⟩
theorem all_at {n : Nat} {f : Nat → Bool} (h : (List.range n).all f = true) : ∀ j, j < n → f j = true := fun j hj => by
  rw [List.all_eq_true] at h; exact h j (by simpa using hj)
theorem all_not {n : Nat} {f : Nat → Bool} (h : (List.range n).all f = false) : ∃ j, j < n ∧ f j = false := by
  rw [List.all_eq_false] at h
  obtain ⟨j, h1, h2⟩ := h
  exact ⟨j, by simpa using h1, by simpa using h2⟩
theorem rowZ_take {w j : Nat} {l : List Nat} (h : j ≤ l.length) : (rowE w (l ++ [0])).take j = (rowE w l).take j := by
  rw [rowE, List.map_append, List.take_append_of_le_length (by simpa using h)]
theorem rowZ_at {j : Nat} {l : List Nat} (h : j < l.length) : (l ++ [0]).getD j 0 = l.getD j 0 := by
  rw [List.getD_eq_getElem?_getD, List.getElem?_append_left h, ← List.getD_eq_getElem?_getD]
theorem rowZ_end {l : List Nat} : (l ++ [0]).getD l.length 0 = 0 := by
  rw [List.getD_eq_getElem?_getD, List.getElem?_append_right (Nat.le_refl _), Nat.sub_self]; rfl
theorem okTR_step {es : List Ev} {w j : Nat} {l : List Nat} (h : j < l.length) : okT (es ++ (rowE w (l ++ [0])).take j) w ((l ++ [0]).getD j 0) = okT (es ++ (rowE w l).take j) w (l.getD j 0) := by
  rw [rowZ_take (by omega), rowZ_at h]
theorem okTR_last {es : List Ev} {w : Nat} {l : List Nat} : okT (es ++ (rowE w (l ++ [0])).take l.length) w ((l ++ [0]).getD l.length 0) = okT (es ++ rowE w l) w 0 := by
  rw [rowZ_take (Nat.le_refl _), rowZ_end, rowE_all]
theorem okTR_bad {es : List Ev} {w j : Nat} {l : List Nat} (h : j < l.length) (hf : okT (es ++ (rowE w l).take j) w (l.getD j 0) = false) : okTR es w l = false :=
  all_false (j := j) (by omega) (by rw [okTR_step h]; exact hf)
theorem okTR_fin {es : List Ev} {w : Nat} {l : List Nat} (h : ∀ j, j < l.length → okT (es ++ (rowE w l).take j) w (l.getD j 0) = true) : okTR es w l = okT (es ++ rowE w l) w 0 := by
  cases hz : okT (es ++ rowE w l) w 0 with
  | true =>
    refine all_true fun j hj => ?_
    by_cases e : j = l.length
    · subst e; rw [okTR_last]; exact hz
    · rw [okTR_step (by omega)]; exact h j (by omega)
  | false => exact all_false (j := l.length) (by omega) (by rw [okTR_last]; exact hz)
theorem kst_rowZ {es : List Ev} {w : Nat} {l : List Nat} : kst (stE (es ++ rowE w l)) = kst (stE (es ++ rowE w (l ++ [0]))) := by
  rw [show es ++ rowE w (l ++ [0]) = (es ++ rowE w l) ++ [(w, 0)] by simp [rowE], kst_zero]
theorem okPR_bad {es : List Ev} {a j : Nat} {l : List Nat} (h : j < l.length) (hf : okPre (es ++ (rowE a l).take j) (a, l.getD j 0) = false) : okPR es a l = false := all_false h hf
theorem okPR_ok {es : List Ev} {a : Nat} {l : List Nat} (h : ∀ j, j < l.length → okPre (es ++ (rowE a l).take j) (a, l.getD j 0) = true) : okPR es a l = true := all_true h
theorem uptoE_part (L : List (List Ev)) (i j : Nat) : uptoE L i j = uptoE L i 0 ++ (L.getD i []).take j := by simp [uptoE]
theorem pre_row {L : List (List Ev)} {a : Nat} {q : List Nat} (ha : a < 2) (hq : L.getD a [] = rowE a q) {j : Nat} (hj : j < q.length) : okAt L a j = okPre (uptoE L a 0 ++ (rowE a q).take j) (a, q.getD j 0) := by
  rw [okAt, if_pos ha, uptoE_part, hq, map_at hj]
theorem turn_row {L : List (List Ev)} {i w : Nat} {u : List Nat} (hq : L.getD (2 + i) [] = rowE w (u ++ [0])) {j : Nat} (hj : j < u.length + 1) : okAt L (2 + i) j = okT (uptoE L (2 + i) 0 ++ (rowE w (u ++ [0])).take j) w ((u ++ [0]).getD j 0) := by
  rw [okAt, if_neg (by omega), uptoE_part, hq, map_at (by simpa using hj)]; rfl
theorem pre_bad {L : List (List Ev)} {a : Nat} {q : List Nat} (hL : 2 ≤ L.length) (ha : a < 2) (hq : L.getD a [] = rowE a q) (h : okPR (uptoE L a 0) a q = false) : fin3 L = 3 := by
  obtain ⟨j, hj, hf⟩ := all_not h
  exact fin3_bad (i := a) (j := j) (by omega) (by rw [hq]; simpa using hj) (by rw [pre_row ha hq hj]; exact hf)
theorem pre_ok {L : List (List Ev)} {a : Nat} {q : List Nat} (ha : a < 2) (hq : L.getD a [] = rowE a q) (h : okPR (uptoE L a 0) a q = true) : ∀ t, t < (L.getD a []).length → okAt L a t = true := fun t ht => by
  have ht : t < q.length := by rw [hq] at ht; simpa using ht
  rw [pre_row ha hq ht]; exact all_at h t ht
theorem turn_bad {L : List (List Ev)} {i w : Nat} {u : List Nat} (hL : 2 + i < L.length) (hq : L.getD (2 + i) [] = rowE w (u ++ [0])) (h : okTR (uptoE L (2 + i) 0) w u = false) : fin3 L = 3 := by
  obtain ⟨j, hj, hf⟩ := all_not h
  exact fin3_bad (i := 2 + i) (j := j) hL (by rw [hq]; simpa using hj) (by rw [turn_row hq hj]; exact hf)
theorem turn_ok {L : List (List Ev)} {i w : Nat} {u : List Nat} (hq : L.getD (2 + i) [] = rowE w (u ++ [0])) (h : okTR (uptoE L (2 + i) 0) w u = true) : ∀ t, t < (L.getD (2 + i) []).length → okAt L (2 + i) t = true := fun t ht => by
  have ht : t < u.length + 1 := by rw [hq] at ht; simpa using ht
  rw [turn_row hq ht]; exact all_at h t ht
theorem row_next {L : List (List Ev)} {i : Nat} (hi : i < L.length) : uptoE L i 0 ++ L.getD i [] = uptoE L (i + 1) 0 := by
  rw [← uptoE_row hi, uptoE_part L i (L.getD i []).length, List.take_length]
theorem whoT_lt (late : Bool) (i : Nat) : whoT late i < 2 := by unfold whoT; split <;> omega
theorem whoT_next (late : Bool) (i : Nat) : 1 - whoT late i = whoT late (i + 1) := by
  unfold whoT
  split <;> omega
theorem pre_two {r : Nat} {t : TypeId} {b c d v0 v1 e : Value} : Shows [(⟨r, cells 6 [pV b, pV c, pV d, pV v0, pV v1, pV e], t⟩ : Blk)] 1 (.slice (some ⟨r, 3, none⟩) 2 2) [v0, v1].length [v0, v1] :=
  .inr ⟨r, 3, 2, cells 6 [pV b, pV c, pV d, pV v0, pV v1, pV e], t, rfl, Nat.le_refl _, List.mem_singleton.2 rfl, rfl, by rw [arrv_size]; exact (by decide : 3 + 2 * 1 ≤ 6), fun j u hj => by
    match j, hj with
    | 0, hj => exact hj
    | 1, hj => exact hj
    | j + 2, hj => simp at hj⟩
theorem li_two {B : Mem} {v0 v1 : Value} {vs : List Value} {p0 p1 : List Int} {ts : List (List Int)} (h : ShowsLI B (v0 :: v1 :: vs) (p0 :: p1 :: ts)) : ShowsLI B [v0, v1] [p0, p1] := ⟨rfl, fun i hi => by
  match i, hi with
  | 0, _ => exact h.2 0 (by simp)
  | 1, _ => exact h.2 1 (by simp)
  | i + 2, hi => exact absurd hi (by simp)⟩
end Go.Proofs.YthljakcegoohlaaGreatDoor
namespace Go.Proofs.YthljakcegoohlaaGreatDoor
open Go Go.RowKit
def ixb : List Nat → Nat → Option Nat
  | [], _ => none
  | b :: l, c => if b = c then some 0 else (ixb l c).map (· + 1)
def ixv : Option Nat → Value
  | some i => ii i
  | none => .int .i64 (-1)
theorem u8_eq {a b : Nat} (ha : a < 256) (hb : b < 256) : (UInt8.ofNat a == UInt8.ofNat b) = decide (a = b) := by
  by_cases h : a = b
  · subst h; simp
  · have : UInt8.ofNat a ≠ UInt8.ofNat b := fun e => h (by
      have e2 := congrArg UInt8.toNat e
      simp at e2
      omega)
    simp [h, this]
theorem lib_index : ∀ {l : List Nat} {c : Nat}, (∀ b ∈ l, b < 256) → c < 256 → Value.int .i64 (Lib.indexByte (l.map UInt8.ofNat) (UInt8.ofNat c)) = ixv (ixb l c)
  | [], _, _, _ => rfl
  | b :: l, c, hl, hc => by
    have ih := lib_index (l := l) (c := c) (fun x hx => hl x (List.mem_cons_of_mem _ hx)) hc
    have hb := hl b List.mem_cons_self
    rw [List.map_cons, Lib.indexByte, u8_eq hb hc]
    by_cases e : b = c
    · rw [decide_eq_true e, ixb, if_pos e]; rfl
    · rw [decide_eq_false e, ixb, if_neg e]
      cases h : ixb l c with
      | none =>
        rw [h] at ih
        have : Lib.indexByte (l.map UInt8.ofNat) (UInt8.ofNat c) = -1 := by injection ih
        rw [this]; rfl
      | some i =>
        rw [h] at ih
        have : Lib.indexByte (l.map UInt8.ofNat) (UInt8.ofNat c) = (i : Int) := by injection ih
        rw [this]
        have h1 : (((i : Int)) == -1) = false := by simp
        rw [h1]
        simp [ixv]
def splitB : List Nat → Nat → List (List Nat)
  | [], _ => [[]]
  | b :: l, c => if b = c then [] :: splitB l c else
    match splitB l c with
    | [] => [[b]]
    | w :: r => (b :: w) :: r
end Go.Proofs.YthljakcegoohlaaGreatDoor
namespace Go.Proofs.YthljakcegoohlaaGreatDoor
open Go Go.RowKit
def asp (b : Nat) : Nat := if b = 32 ∨ (9 ≤ b ∧ b ≤ 13) then 1 else 0
def fldGo : List Nat → List Nat → List (List Nat)
  | cur, [] => if cur = [] then [] else [cur]
  | cur, b :: l => if asp b = 0 then fldGo (cur ++ [b]) l else if cur = [] then fldGo [] l else cur :: fldGo [] l
def fieldsL (l : List Nat) : List (List Nat) := fldGo [] l
theorem fld_app : ∀ (w cur l : List Nat), (∀ b ∈ w, asp b = 0) → fldGo cur (w ++ l) = fldGo (cur ++ w) l
  | [], cur, l, _ => by simp
  | b :: w, cur, l, h => by
    rw [List.cons_append, fldGo, if_pos (h b List.mem_cons_self), fld_app w (cur ++ [b]) l (fun x hx => h x (List.mem_cons_of_mem _ hx)), List.append_assoc, List.singleton_append]
theorem at_getD {l : List Nat} {i : Nat} (h : i < l.length) : l[i]? = some (l.getD i 0) := by
  rw [List.getD_eq_getElem?_getD, List.getElem?_eq_getElem h]; rfl
theorem getD_b {l : List Nat} (h : ∀ b ∈ l, b < 256) (i : Nat) : l.getD i 0 < 256 := by
  rw [List.getD_eq_getElem?_getD]
  cases e : l[i]? with
  | none => decide
  | some b => exact h b (List.mem_of_getElem? e)
end Go.Proofs.YthljakcegoohlaaGreatDoor
namespace Go.Proofs.YthljakcegoohlaaGreatDoor
open Go Go.RowKit
abbrev nm8 : List (List Nat) := [[], [101], [115], [101, 101], [101, 115], [115, 101], [115, 115], [112, 115, 107]]
def tokOf (w : List Nat) (j : Nat) : List Nat := (List.range j).filter (fun t => decide (nm8.getD t [] = w))
def toks (l : List Nat) : List Nat := (fieldsL l).flatMap (fun w => tokOf w 8)
theorem texts_at {ws : List (List Nat)} {i : Nat} (h : i < ws.length) : (ws.map sv)[i]? = some (sv (ws.getD i [])) := by
  rw [List.getElem?_map, List.getElem?_eq_getElem h, List.getD_eq_getElem?_getD, List.getElem?_eq_getElem h]; rfl
theorem one_ii (j : Nat) : ∀ u ∈ [ii j], u.oneCell' = true := fun u hu => by simp at hu; subst hu; rfl
abbrev nNN : List Nat := [78, 78]
abbrev nNK : List Nat := [78, 75]
abbrev nXX : List Nat := [88, 88]
abbrev nIK : List Nat := [73, 75]
abbrev nXK : List Nat := [88, 75]
abbrev nKK : List Nat := [75, 75]
abbrev nXF : List Nat := [88, 88, 102, 97, 108, 108, 98, 97, 99, 107]
def ptext (n : List Nat) : List Nat :=
  if n = nNN then [59, 59, 32, 101, 59, 32, 101, 32, 101, 101, 59] else
  if n = nNK then [59, 32, 115, 59, 32, 101, 32, 101, 115, 59, 32, 101, 32, 101, 101, 59] else
  if n = nXX then [59, 59, 32, 101, 59, 32, 101, 32, 101, 101, 32, 115, 32, 101, 115, 59, 32, 115, 32, 115, 101, 59] else
  if n = nIK then [59, 32, 115, 59, 32, 101, 32, 101, 115, 32, 115, 32, 115, 115, 59, 32, 101, 32, 101, 101, 32, 115, 101, 59] else
  if n = nXK then [59, 32, 115, 59, 32, 101, 32, 101, 115, 59, 32, 101, 32, 101, 101, 59, 32, 115, 32, 115, 101, 59] else
  if n = nKK then [115, 59, 32, 115, 59, 32, 101, 32, 101, 115, 32, 115, 115, 59, 32, 101, 32, 101, 101, 32, 115, 101, 59] else
  if n = nXF then [101, 59, 59, 32, 101, 32, 101, 101, 32, 115, 32, 101, 115, 59, 32, 115, 32, 115, 101, 59] else []
end Go.Proofs.YthljakcegoohlaaGreatDoor
namespace Go.Proofs.YthljakcegoohlaaGreatDoor
open Go Go.RowKit
def trimS (l : List Nat) (c : Nat) : List Nat := if 1 ≤ l.length ∧ l.drop (l.length - 1) = [c] then l.take (l.length - 1) else l
def pbase (n : List Nat) : List (List Nat) := splitB (trimS (ptext n) 59) 59
theorem ptext_in {n : List Nat} (h : ptext n ≠ []) : n = nNN ∨ n = nNK ∨ n = nXX ∨ n = nIK ∨ n = nXK ∨ n = nKK ∨ n = nXF := by
  by_cases h0 : n = nNN
  · exact .inl h0
  by_cases h1 : n = nNK
  · exact .inr (.inl h1)
  by_cases h2 : n = nXX
  · exact .inr (.inr (.inl h2))
  by_cases h3 : n = nIK
  · exact .inr (.inr (.inr (.inl h3)))
  by_cases h4 : n = nXK
  · exact .inr (.inr (.inr (.inr (.inl h4))))
  by_cases h5 : n = nKK
  · exact .inr (.inr (.inr (.inr (.inr (.inl h5)))))
  by_cases h6 : n = nXF
  · exact .inr (.inr (.inr (.inr (.inr (.inr h6)))))
  · exact absurd (by rw [ptext, if_neg h0, if_neg h1, if_neg h2, if_neg h3, if_neg h4, if_neg h5, if_neg h6]) h
abbrev shortT (L : List (List Nat)) (k : Nat) : Prop := ∀ w ∈ L, (∀ b ∈ w, b < 128) ∧ w.length ≤ k
theorem pbase_ok {n : List Nat} (h : ptext n ≠ []) : 4 ≤ (pbase n).length ∧ (pbase n).length ≤ 5 ∧ shortT (pbase n) 30 ∧ (∀ b ∈ ptext n, b < 128) ∧ (ptext n).length ≤ 40 := by
  rcases ptext_in h with rfl | rfl | rfl | rfl | rfl | rfl | rfl <;> decide
def insT (L : List (List Nat)) (n : Int) : List (List Nat) := if n = 0 then L.set 2 ([112, 115, 107, 32] ++ L.getD 2 []) else L.set (1 + n.toNat) (L.getD (1 + n.toNat) [] ++ [32, 112, 115, 107])
theorem insT_len (L : List (List Nat)) (n : Int) : (insT L n).length = L.length := by unfold insT; split <;> simp
def pfold (L : List (List Nat)) (last : Int) : List Int → Nat × List (List Nat)
  | [] => (0, L)
  | n :: r => if n < 0 ∨ (L.length - 2 : Nat) < n then (6, []) else if n ≤ last then (3, []) else pfold (insT L n) n r
def pwith (n : List Nat) (ps : List Int) : Nat × List (List Nat) := if ptext n = [] then (5, []) else if 4 < ps.length then (1, []) else pfold (pbase n) (-1) ps
theorem drop_int {ps : List Int} {i : Nat} (h : i < ps.length) : ps.drop i = ps.getD i 0 :: ps.drop (i + 1) := by
  rw [List.drop_eq_getElem_cons h, List.getD_eq_getElem?_getD, List.getElem?_eq_getElem h]; rfl
theorem insT_zero {L : List (List Nat)} {n : Int} (h : n = 0) : insT L n = L.set 2 ([112, 115, 107, 32] ++ L.getD 2 []) := if_pos h
theorem insT_more {L : List (List Nat)} {n : Int} {k : Nat} (h : n ≠ 0) (hk : n = (k : Int)) : insT L n = L.set (1 + k) (L.getD (1 + k) [] ++ [32, 112, 115, 107]) := by
  unfold insT; rw [if_neg h, hk]; rfl
theorem or_true2 {p q : Prop} [Decidable p] [Decidable q] (h : (decide p || decide q) = true) : p ∨ q := by
  rw [Bool.or_eq_true, decide_eq_true_iff, decide_eq_true_iff] at h; exact h
theorem or_false2 {p q : Prop} [Decidable p] [Decidable q] (h : (decide p || decide q) = false) : ¬ (p ∨ q) := fun x => by
  rw [Bool.or_eq_false_iff, decide_eq_false_iff_not, decide_eq_false_iff_not] at h
  exact x.elim h.1 h.2
abbrev patC (base : List Nat) (late : Bool) (vp va vb vt : Value) : Array Value := cells 6 [pV (sv base), pV (.bool late), pV vp, pV va, pV vb, pV vt]
theorem shows_oneC {B : Mem} {z n : Nat} {v : Value} {xs : List Value} (h : Shows B z v n xs) : v.oneCell' = true := by
  rcases h with ⟨_, _, oa, c, rfl, _⟩ | ⟨b, o, c, cs, t, rfl, _⟩ <;> rfl
theorem fill1 {Z : Array Value} (hZ : Z.size = 1) {a : Value} (ha : a.cells = #[a]) : Instr.fill (fun i => some (i * 1, 1)) Z [(0, a)] = some #[a] := by
  obtain ⟨p, rfl⟩ : ∃ p, Z = #[p] := by
    rcases Z with ⟨_ | ⟨p, _ | ⟨q, l⟩⟩⟩
    · simp at hZ
    · exact ⟨p, rfl⟩
    · simp at hZ
  simp [Instr.fill, ha]
theorem fill2v {Z : Array Value} (hZ : Z.size = 2) {a b : Value} (ha : a.cells = #[a]) (hb : b.cells = #[b]) : Instr.fill (fun i => some (i * 1, 1)) Z [(0, a), (1, b)] = some #[a, b] := by
  obtain ⟨p, q, rfl⟩ : ∃ p q, Z = #[p, q] := by
    rcases Z with ⟨_ | ⟨p, _ | ⟨q, _ | ⟨r, l⟩⟩⟩⟩
    · simp at hZ
    · simp at hZ
    · exact ⟨p, q, rfl⟩
    · simp at hZ
  simp [Instr.fill, ha, hb]
theorem catOkP {base : List Nat} {late : Bool} {vp va vb vt : Value} (h1 : vp.oneCell' = true) (h2 : va.oneCell' = true) (h3 : vb.oneCell' = true) (h4 : vt.oneCell' = true) : ∀ v ∈ patC base late vp va vb vt, v.oneCell' = true := cells_one ⟨fun _ => rfl, fun _ => rfl, fun _ => h1, fun _ => h2, fun _ => h3, fun _ => h4, trivial⟩
def PatIs (base : List Nat) (late : Bool) (vp : Value) (q0 q1 : List Nat) (us : List (List Nat)) (w : Value) (B : Mem) : Prop :=
  ∃ va vb vt tvs, w = .agg (patC base late vp va vb vt) ∧ Shows B 1 va q0.length ((ci q0).map iv) ∧ Shows B 1 vb q1.length ((ci q1).map iv) ∧ Shows B 1 vt us.length tvs ∧ tvs.length = us.length ∧ ShowsLI B tvs (us.map ci)
theorem ci_ii (q : List Nat) : (ci q).map iv = q.map (fun x : Nat => ii x) := by unfold ci; rw [List.map_map]; rfl
end Go.Proofs.YthljakcegoohlaaGreatDoor
namespace Go.Proofs.YthljakcegoohlaaGreatDoor
open Go Go.RowKit
theorem ints_ext {a b : List Int} (hl : a.length = b.length) (h : ∀ j, j < a.length → a.getD j 0 = b.getD j 0) : a = b := by
  apply List.ext_getElem hl
  intro j h1 h2
  have := h j h1
  rwa [List.getD_eq_getElem?_getD, List.getD_eq_getElem?_getD, List.getElem?_eq_getElem h1, List.getElem?_eq_getElem h2] at this
theorem lists_ext {a b : List (List Int)} (hl : a.length = b.length) (h : ∀ j, j < a.length → a.getD j [] = b.getD j []) : a = b := by
  apply List.ext_getElem hl
  intro j h1 h2
  have := h j h1
  rwa [List.getD_eq_getElem?_getD, List.getD_eq_getElem?_getD, List.getElem?_eq_getElem h1, List.getElem?_eq_getElem h2] at this
def sameP (ba bb : List Nat) (la lb : Bool) (pa pb q0a q0b q1a q1b : List Int) (ta tb : List (List Int)) : Bool := decide (ba = bb ∧ la = lb ∧ pa = pb ∧ q0a = q0b ∧ q1a = q1b ∧ ta = tb)
theorem lt_all {N : Nat} {t : List (List Int)} (h : ∀ l ∈ t, l.length ≤ N) (k : Nat) : (t.getD k []).length ≤ N := by
  rw [List.getD_eq_getElem?_getD]
  cases e : t[k]? with
  | none => simp
  | some l => exact h l (List.mem_of_getElem? e)
theorem li_three {G : Mem} {v0 v1 v2 : Value} {vs : List Value} {a b c : List Int} {ls : List (List Int)} (h : ShowsLI G (v0 :: v1 :: v2 :: vs) (a :: b :: c :: ls)) : Shows G 1 v0 a.length (a.map iv) ∧ Shows G 1 v1 b.length (b.map iv) ∧ Shows G 1 v2 c.length (c.map iv) ∧ vs.length = ls.length ∧ ∀ i, i < ls.length → Shows G 1 (vs.getD i undef) (ls.getD i []).length ((ls.getD i []).map iv) :=
  ⟨h.2 0 (by simp), h.2 1 (by simp), h.2 2 (by simp), (li_tail (li_tail (li_tail h))).1, (li_tail (li_tail (li_tail h))).2⟩
end Go.Proofs.YthljakcegoohlaaGreatDoor
namespace Go.Proofs.YthljakcegoohlaaGreatDoor
open Go Go.RowKit
theorem fresh_cat {m a b : Mem} (h1 : FreshM m a) (h2 : FreshM (m ++ a) b) : FreshM m (a ++ b) := by
  refine ⟨?_, fun x hx y hy => ?_⟩
  · rw [List.map_append, List.nodup_append]
    refine ⟨h1.1, h2.1, fun p hp q hq e => ?_⟩
    obtain ⟨x, hx, rfl⟩ := List.mem_map.1 hp
    obtain ⟨y, hy, rfl⟩ := List.mem_map.1 hq
    exact h2.2 y hy x (List.mem_append_right _ hx) e
  · rcases List.mem_append.1 hx with h | h
    · exact h1.2 x h y hy
    · exact h2.2 x h y (List.mem_append_left _ hy)
theorem fresh_nil (m : Mem) : FreshM m [] := ⟨by simp, fun x hx => by simp at hx⟩
theorem fresh_vals (m : Mem) (xs : List Value) : ∃ v nw, Shows nw 1 v xs.length xs ∧ FreshM m nw := by
  obtain ⟨r, hr⟩ := fresh_of m
  refine ⟨.slice (some ⟨r, 0, none⟩) xs.length xs.length, [⟨r, xs.toArray, 0⟩], .inr ⟨r, 0, xs.length, xs.toArray, 0, rfl, Nat.le_refl _, List.mem_singleton.2 rfl, by omega, by simp, fun j u hj => by simpa using hj⟩, by simp, fun x hx y hy => ?_⟩
  simp at hx; subst hx; exact hr y hy
theorem fresh_lists (m : Mem) : ∀ ls : List (List Int), ∃ vs nw, ShowsLI nw vs ls ∧ FreshM m nw
  | [] => ⟨[], [], ⟨rfl, fun i hi => absurd hi (Nat.not_lt_zero i)⟩, fresh_nil m⟩
  | l :: ls => by
    obtain ⟨vs, nw, h1, h2⟩ := fresh_lists m ls
    obtain ⟨v, nw', h3, h4⟩ := fresh_vals (m ++ nw) (l.map iv)
    rw [List.length_map] at h3
    refine ⟨v :: vs, nw ++ nw', ⟨by simp [h1.1], fun i hi => ?_⟩, fresh_cat h2 h4⟩
    cases i with
    | zero => exact h3.mono fun x hx => List.mem_append_right _ hx
    | succ i => exact (h1.2 i (by simpa using hi)).mono fun x hx => List.mem_append_left _ hx
theorem pat_fresh (base : List Nat) (late : Bool) (vp : Value) (q0 q1 : List Nat) (us : List (List Nat)) (m : Mem) : ∃ w nw, PatIs base late vp q0 q1 us w nw ∧ FreshM m nw := by
  obtain ⟨va, n0, h0, f0⟩ := fresh_vals m ((ci q0).map iv)
  obtain ⟨vb, n1, h1, f1⟩ := fresh_vals (m ++ n0) ((ci q1).map iv)
  obtain ⟨tvs, n2, h2, f2⟩ := fresh_lists (m ++ (n0 ++ n1)) (us.map ci)
  obtain ⟨vt, n3, h3, f3⟩ := fresh_vals (m ++ (n0 ++ n1 ++ n2)) tvs
  have hl : tvs.length = us.length := by rw [h2.1, List.length_map]
  have e0 : ((ci q0).map iv).length = q0.length := by simp [ci]
  have e1 : ((ci q1).map iv).length = q1.length := by simp [ci]
  rw [e0] at h0
  rw [e1] at h1
  rw [hl] at h3
  refine ⟨_, n0 ++ n1 ++ n2 ++ n3, ⟨va, vb, vt, tvs, rfl, h0.mono ?_, h1.mono ?_, h3.mono ?_, hl, li_mono h2 ?_⟩, fresh_cat (fresh_cat (fresh_cat f0 f1) f2) f3⟩
  · exact fun x hx => List.mem_append_left _ (List.mem_append_left _ (List.mem_append_left _ hx))
  · exact fun x hx => List.mem_append_left _ (List.mem_append_left _ (List.mem_append_right _ hx))
  · exact fun x hx => List.mem_append_right _ hx
  · exact fun x hx => List.mem_append_left _ (List.mem_append_right _ hx)
theorem pat_li {B : Mem} {vp va vb : Value} {ps : List Int} {q0 q1 : List Nat} {us : List (List Nat)} {tvs : List Value} (hp : Shows B 1 vp ps.length (ps.map iv)) (h0 : Shows B 1 va q0.length ((ci q0).map iv)) (h1 : Shows B 1 vb q1.length ((ci q1).map iv)) (h : ShowsLI B tvs (us.map ci)) : ShowsLI B (vp :: va :: vb :: tvs) (ps :: ci q0 :: ci q1 :: us.map ci) := by
  refine ⟨by simp [h.1], fun i hi => ?_⟩
  match i with
  | 0 => exact hp
  | 1 => rw [show q0.length = (ci q0).length by simp [ci]] at h0; exact h0
  | 2 => rw [show q1.length = (ci q1).length by simp [ci]] at h1; exact h1
  | i + 3 => exact h.2 i (by simpa using hi)
end Go.Proofs.YthljakcegoohlaaGreatDoor
