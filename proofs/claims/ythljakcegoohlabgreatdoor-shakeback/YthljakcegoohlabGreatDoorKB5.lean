import Derived.Test.YthljakcegoohlabGreatDoorKB4
namespace Go.Proofs.YthljakcegoohlabGreatDoor
open Go Go.RowKit
def nbl (ln : Nat) : Nat := if ln % 64 = 0 ∧ 0 < ln then 64 else ln % 64
def okB (n ln : Nat) (d : Nat → Nat) : Bool := (List.range 64).all (fun j => decide (j < n) || decide (d j = 0)) && decide (n = nbl ln)
theorem okB_open {n ln : Nat} {d : Nat → Nat} (h : okB n ln d = true) : n = nbl ln ∧ n ≤ ln ∧ n ≤ 64 ∧ (ln - n) % 64 = 0 ∧ ∀ j, n ≤ j → j < 64 → d j = 0 := by
  unfold okB at h
  rw [Bool.and_eq_true, List.all_eq_true] at h
  obtain ⟨h1, h2⟩ := h
  have e : n = nbl ln := of_decide_eq_true h2
  have e2 := e
  unfold nbl at e2
  refine ⟨e, ?_, ?_, ?_, fun j hj hj2 => ?_⟩
  · split at e2 <;> omega
  · split at e2 <;> omega
  · split at e2 <;> omega
  · have := h1 j (List.mem_range.2 hj2)
    have hn : ¬ j < n := by omega
    simpa [hn] using this
def hacc (h : Nat → Nat) (base : Nat) (S : List Nat) : Nat → Nat → Nat
  | 0 => h
  | k + 1 => sqz (hacc h base S k) ((S.drop (64 * k)).take 64) (base + 64 * (k + 1)) false
def nblk (n : Nat) : Nat := (n - 1) / 64
def hol (w : Nat → Nat) : Nat → List Nat
  | 0 => []
  | i + 1 => hol w i ++ lowl (w i) 4
theorem hol_len (w : Nat → Nat) : ∀ i, (hol w i).length = 4 * i
  | 0 => rfl
  | i + 1 => by rw [hol, List.length_append, hol_len w i, lowl_len]; omega
theorem hol_lt (w : Nat → Nat) : ∀ i, ∀ b ∈ hol w i, b < 256
  | 0, b, h => by simp [hol] at h
  | i + 1, b, h => by
    rcases List.mem_append.1 h with h | h
    · exact hol_lt w i b h
    · exact lowl_lt _ _ b h
def hsumf (w : Nat → Nat) (j : Nat) : Nat := (hol w 8).getD j 0
theorem hsumf_lt (w : Nat → Nat) (j : Nat) : hsumf w j < 256 := getD_lt (hol_lt w 8) j
def rem64 (m : List Nat) : List Nat := m.drop (64 * nblk m.length)
theorem rem64_len (m : List Nat) : (rem64 m).length = nbl m.length := by
  unfold rem64 nblk nbl
  rw [List.length_drop]
  split <;> omega
theorem rem64_lt {m : List Nat} (h : ∀ b ∈ m, b < 256) : ∀ b ∈ rem64 m, b < 256 := fun b hb => h b (List.mem_of_mem_drop hb)
def hmsg (m : List Nat) : Nat → Nat := hacc hbeg 0 m (nblk m.length)
def heldB (m : List Nat) (i : Nat) : Nat := (rem64 m).getD i 0
theorem heldB_lt {m : List Nat} (hm : ∀ b ∈ m, b < 256) (j : Nat) : heldB m j < 256 := getD_lt (rem64_lt hm) j
theorem ok_heldB (m : List Nat) : okB (rem64 m).length m.length (heldB m) = true := by
  unfold okB
  rw [Bool.and_eq_true, List.all_eq_true]
  refine ⟨fun j _ => ?_, decide_eq_true (rem64_len m)⟩
  by_cases h : j < (rem64 m).length
  · simp [h]
  · have : heldB m j = 0 := by
      unfold heldB
      rw [List.getD_eq_getElem?_getD, List.getElem?_eq_none (by omega)]; rfl
    simp [this]
theorem sS_heldB (m l : List Nat) : sS (heldB m) (rem64 m).length l = rem64 m ++ l := by
  unfold sS
  congr 1
  apply List.ext_getElem
  · simp
  · intro j h1 h2
    simp only [List.getElem_map, List.getElem_range]
    unfold heldB
    rw [List.getD_eq_getElem?_getD, List.getElem?_eq_getElem h2]; rfl
theorem hacc_pre (h : Nat → Nat) (base : Nat) (m l : List Nat) : ∀ k, 64 * k ≤ m.length → hacc h base (m ++ l) k = hacc h base m k
  | 0, _ => rfl
  | k + 1, hk => by
    rw [hacc, hacc, hacc_pre h base m l k (by omega), List.drop_append_of_le_length (by omega), List.take_append_of_le_length (by simp; omega)]
theorem nblk_le (n : Nat) : 64 * nblk n ≤ n := by unfold nblk; omega
theorem drop_rem64 (m l : List Nat) (k : Nat) : (m ++ l).drop (64 * (nblk m.length + k)) = (rem64 m ++ l).drop (64 * k) := by
  have e : (m ++ l).drop (64 * nblk m.length) = rem64 m ++ l := List.drop_append_of_le_length (nblk_le _)
  rw [← e, List.drop_drop, Nat.mul_add]
theorem hacc_app (m l : List Nat) : ∀ k, hacc hbeg 0 (m ++ l) (nblk m.length + k) = hacc (hmsg m) (64 * nblk m.length) (rem64 m ++ l) k
  | 0 => hacc_pre hbeg 0 m l _ (nblk_le _)
  | k + 1 => by
    show hacc hbeg 0 (m ++ l) (nblk m.length + k + 1) = _
    rw [hacc, hacc, hacc_app m l k, drop_rem64, show 0 + 64 * (nblk m.length + k + 1) = 64 * nblk m.length + 64 * (k + 1) by omega]
theorem base_of (m : List Nat) : m.length - (rem64 m).length = 64 * nblk m.length := by
  have := nblk_le m.length
  rw [show (rem64 m).length = m.length - 64 * nblk m.length by simp [rem64]]
  omega
theorem part64 (m l : List Nat) : nblk m.length + nblk (rem64 m ++ l).length = nblk (m ++ l).length := by
  have e : (rem64 m).length = m.length - 64 * nblk m.length := by simp [rem64]
  rw [List.length_append, List.length_append, e]
  unfold nblk
  omega
theorem hmsg_app (m l : List Nat) : hacc (hmsg m) (64 * nblk m.length) (rem64 m ++ l) (nblk (rem64 m ++ l).length) = hmsg (m ++ l) := by
  rw [← hacc_app, part64 m l]; rfl
theorem rem64_app (m l : List Nat) : (rem64 m ++ l).drop (64 * nblk (rem64 m ++ l).length) = rem64 (m ++ l) := by
  rw [← drop_rem64, part64 m l]; rfl
def bsum (m : List Nat) (j : Nat) : Nat := if m.length ≤ 1073741824 then hsumf (sqz (hmsg m) ((List.range 64).map (heldB m)) m.length true) j else hsumf (sqz (fun _ => 0) ((List.range 64).map fun _ => 0) 0 true) j
theorem bsum_lt (m : List Nat) (j : Nat) : bsum m j < 256 := by unfold bsum; split <;> exact hsumf_lt _ _
abbrev cB (m : List Nat) : Array Value := cells 74 [pI .u32 8 (hmsg m), pI .u8 64 (heldB m), pV (.int .i64 ((rem64 m).length : Nat)), pV (.int .i64 (m.length : Nat))]
abbrev stB (m : List Nat) : Value := .agg (cB m)
theorem heldB_nil : heldB [] = fun _ => 0 := by funext i; simp [heldB, rem64]
theorem hmsg_nil : hmsg [] = hbeg := rfl
theorem bsum_small {m : List Nat} (h : m.length ≤ 1073741824) : bsum m = hsumf (sqz (hmsg m) ((List.range 64).map (heldB m)) m.length true) := by funext j; unfold bsum; rw [if_pos h]
end Go.Proofs.YthljakcegoohlabGreatDoor
namespace Go.Proofs.YthljakcegoohlabGreatDoor
open Go Go.RowKit
theorem words_step {f s : Nat → Nat} {i : Nat} (hf : ∀ j, j < 64 → f j < 256) (hi : i < 64) (hs : ∀ t, t < 16 → s t = pw f i t) :
    ∀ t, t < 16 → upd s (i / 4) ((s (i / 4) ||| (f i * 2 ^ (i % 4 * 8)) % 4294967296) % 4294967296) t = pw f (i + 1) t := fun t ht => by
  rw [hs _ (by omega), pw_step (hf i hi) (fun j hj => hf j (by omega))]
  unfold upd
  by_cases h : t = i / 4
  · rw [if_pos h, h]
  · rw [if_neg h, hs t ht, pw_other h]
theorem cut4 (f : Nat → Nat) {t : Nat} (ht : t < 16) : (((List.range 64).map f).drop (4 * t)).take 4 = [f (4 * t), f (4 * t + 1), f (4 * t + 2), f (4 * t + 3)] := by
  apply List.ext_getElem
  · simp; omega
  · intro j h1 h2
    simp only [List.getElem_take, List.getElem_drop, List.getElem_map, List.getElem_range]
    simp only [List.length_cons, List.length_nil] at h2
    rcases (by omega : j = 0 ∨ j = 1 ∨ j = 2 ∨ j = 3) with rfl | rfl | rfl | rfl <;> rfl
theorem words_all (f : Nat → Nat) : ∀ t, t < 16 → pw f 64 t = wrd ((List.range 64).map f) t := fun t ht => by
  unfold wrd
  rw [cut4 f ht, le4, pw_full (by omega)]
def mst (f : Nat → Nat) (a b c d x y : Nat) : Nat → Nat :=
  let f1 := upd f a ((f a + (f b + x) % 4294967296) % 4294967296)
  let f2 := upd f1 d (rotl ((f1 d ^^^ f1 a) % 4294967296) 16)
  let f3 := upd f2 c ((f2 c + f2 d) % 4294967296)
  let f4 := upd f3 b (rotl ((f3 b ^^^ f3 c) % 4294967296) 20)
  let f5 := upd f4 a ((f4 a + (f4 b + y) % 4294967296) % 4294967296)
  let f6 := upd f5 d (rotl ((f5 d ^^^ f5 a) % 4294967296) 24)
  let f7 := upd f6 c ((f6 c + f6 d) % 4294967296)
  upd f7 b (rotl ((f7 b ^^^ f7 c) % 4294967296) 25)
def mat (f : Nat → Nat) (a b c d x y t : Nat) : Nat :=
  let q := bq (f a) (f b) (f c) (f d) x y
  if t = a then q.1 else if t = b then q.2.1 else if t = c then q.2.2.1 else if t = d then q.2.2.2 else f t
theorem mst_eqs {s : Nat → Nat} {a b c d x y q1 q2 q3 q4 q5 q6 q7 q8 : Nat} (ab : a ≠ b) (ac : a ≠ c) (ad : a ≠ d) (bc : b ≠ c) (bd : b ≠ d) (cd : c ≠ d) (h1 : q1 = (s a + (s b + x) % 4294967296) % 4294967296)
    (h2 : q2 = rotl ((upd s a q1 d ^^^ upd s a q1 a) % 4294967296) 16)
    (h3 : q3 = (upd (upd s a q1) d q2 c + upd (upd s a q1) d q2 d) % 4294967296)
    (h4 : q4 = rotl ((upd (upd (upd s a q1) d q2) c q3 b ^^^ upd (upd (upd s a q1) d q2) c q3 c) % 4294967296) 20)
    (h5 : q5 = (upd (upd (upd (upd s a q1) d q2) c q3) b q4 a + (upd (upd (upd (upd s a q1) d q2) c q3) b q4 b + y) % 4294967296) % 4294967296)
    (h6 : q6 = rotl ((upd (upd (upd (upd (upd s a q1) d q2) c q3) b q4) a q5 d ^^^ upd (upd (upd (upd (upd s a q1) d q2) c q3) b q4) a q5 a) % 4294967296) 24)
    (h7 : q7 = (upd (upd (upd (upd (upd (upd s a q1) d q2) c q3) b q4) a q5) d q6 c + upd (upd (upd (upd (upd (upd s a q1) d q2) c q3) b q4) a q5) d q6 d) % 4294967296)
    (h8 : q8 = rotl ((upd (upd (upd (upd (upd (upd (upd s a q1) d q2) c q3) b q4) a q5) d q6) c q7 b ^^^ upd (upd (upd (upd (upd (upd (upd s a q1) d q2) c q3) b q4) a q5) d q6) c q7 c) % 4294967296) 25) :
    upd (upd (upd (upd (upd (upd (upd (upd s a q1) d q2) c q3) b q4) a q5) d q6) c q7) b q8 = mat s a b c d x y := by
  have ba := ab.symm
  have ca := ac.symm
  have da := ad.symm
  have cb := bc.symm
  have db := bd.symm
  have dc := cd.symm
  simp only [updS, updN _ _ ab, updN _ _ ac, updN _ _ ad, updN _ _ bc, updN _ _ bd, updN _ _ cd, updN _ _ ba, updN _ _ ca, updN _ _ da, updN _ _ cb, updN _ _ db, updN _ _ dc] at h1 h2 h3 h4 h5 h6 h7 h8
  have eA : (bq (s a) (s b) (s c) (s d) x y) = (q5, q8, q7, q6) := by
    unfold bq
    simp only
    rw [← h1, ← h2, ← h3, ← h4, ← h5, ← h6, ← h7, ← h8]
  funext t
  unfold mat
  rw [eA]
  by_cases ha : t = a
  · subst ha
    simp only [updS, updN _ _ ab, updN _ _ ac, updN _ _ ad, if_pos]
  · by_cases hb : t = b
    · subst hb
      simp only [updS, if_neg ha, if_pos]
    · by_cases hc : t = c
      · subst hc
        simp only [updS, updN _ _ cb, if_neg ha, if_neg hb, if_pos]
      · by_cases hd : t = d
        · subst hd
          simp only [updS, updN _ _ db, updN _ _ dc, if_neg ha, if_neg hb, if_neg hc, if_pos]
        · simp only [if_neg ha, if_neg hb, if_neg hc, if_neg hd, updN _ _ ha, updN _ _ hb, updN _ _ hc, updN _ _ hd]
theorem mst_mat (f : Nat → Nat) {a b c d : Nat} (x y : Nat) (ab : a ≠ b) (ac : a ≠ c) (ad : a ≠ d) (bc : b ≠ c) (bd : b ≠ d) (cd : c ≠ d) : mst f a b c d x y = mat f a b c d x y := mst_eqs ab ac ad bc bd cd rfl rfl rfl rfl rfl rfl rfl rfl
def sgf (j : Nat) : Nat := sigL.getD j 0
def colM (m : Nat → Nat) (r : Nat) (f : Nat → Nat) : Nat → Nat → Nat
  | 0 => f
  | i + 1 => mat (colM m r f i) i (4 + i) (8 + i) (12 + i) (m (sig r (2 * i))) (m (sig r (2 * i + 1)))
def diaM (m : Nat → Nat) (r : Nat) (f : Nat → Nat) : Nat → Nat → Nat
  | 0 => f
  | i + 1 => mat (diaM m r f i) i (4 + (i + 1) % 4) (8 + (i + 2) % 4) (12 + (i + 3) % 4) (m (sig r (8 + 2 * i))) (m (sig r (9 + 2 * i)))
def rndM (m : Nat → Nat) (f : Nat → Nat) : Nat → Nat → Nat
  | 0 => f
  | r + 1 => diaM m r (colM m r (rndM m f r) 4) 4
theorem colM_zero (m : Nat → Nat) (r : Nat) (f : Nat → Nat) : f = colM m r f 0 := by rw [colM]
theorem diaM_zero (m : Nat → Nat) (r : Nat) (f : Nat → Nat) : f = diaM m r f 0 := by rw [diaM]
theorem rndM_zero (m : Nat → Nat) (f : Nat → Nat) : f = rndM m f 0 := by rw [rndM]
theorem colM_succ (m : Nat → Nat) (r : Nat) (f : Nat → Nat) (i : Nat) : mat (colM m r f i) i (4 + i) (8 + i) (12 + i) (m (sig r (2 * i))) (m (sig r (2 * i + 1))) = colM m r f (i + 1) := by rw [colM]
theorem diaM_succ (m : Nat → Nat) (r : Nat) (f : Nat → Nat) (i : Nat) : mat (diaM m r f i) i (4 + (i + 1) % 4) (8 + (i + 2) % 4) (12 + (i + 3) % 4) (m (sig r (8 + 2 * i))) (m (sig r (9 + 2 * i))) = diaM m r f (i + 1) := by rw [diaM]
theorem rndM_succ (m : Nat → Nat) (f : Nat → Nat) (r : Nat) : diaM m r (colM m r (rndM m f r) 4) 4 = rndM m f (r + 1) := by rw [rndM]
theorem col_brn (m : Nat → Nat) (r : Nat) (f : Nat → Nat) : ∀ i, i ≤ 4 → ∀ t, t < 16 → colM m r f i t = if t % 4 < i then brn (fun c => m (sig r (2 * c))) (fun c => m (sig r (2 * c + 1))) f t else f t
  | 0, _, t, _ => by rw [if_neg (by omega), colM]
  | i + 1, hi, t, ht => by
    have ih := col_brn m r f i (by omega)
    rw [colM]
    exact brn_step (by omega) ih _ rfl rfl t ht
theorem shp_at (f : Nat → Nat) {t : Nat} (ht : t < 16) : shn 1 (shp 1 f) t = f t := by
  unfold shn shp
  congr 1
  omega
theorem dia_brn (m : Nat → Nat) (r : Nat) (f : Nat → Nat) : ∀ i, i ≤ 4 → ∀ t, t < 16 → diaM m r f i t = shn 1 (fun u => if u % 4 < i then brn (fun c => m (sig r (8 + 2 * c))) (fun c => m (sig r (9 + 2 * c))) (shp 1 f) u else shp 1 f u) t
  | 0, _, t, ht => by
    rw [diaM]
    exact ((congrArg (fun g => shn 1 g t) (funext fun u => if_neg (by omega))).trans (shp_at f ht)).symm
  | i + 1, hi, t, ht => by
    have ih := dia_brn m r f i (by omega)
    have hs : ∀ u, u < 16 → shp 1 (diaM m r f i) u = if u % 4 < i then brn (fun c => m (sig r (8 + 2 * c))) (fun c => m (sig r (9 + 2 * c))) (shp 1 f) u else shp 1 f u := fun u hu => by
      unfold shp
      rw [ih _ (by omega)]
      unfold shn
      rw [show 4 * ((4 * (u / 4) + (u % 4 + 4 + 1 * (u / 4)) % 4) / 4) + ((4 * (u / 4) + (u % 4 + 4 + 1 * (u / 4)) % 4) % 4 + 4 - 1 * ((4 * (u / 4) + (u % 4 + 4 + 1 * (u / 4)) % 4) / 4)) % 4 = u by omega]
      rfl
    have st := brn_step (by omega : i < 4) hs _ rfl rfl (4 * (t / 4) + (t % 4 + 4 - 1 * (t / 4)) % 4) (by omega)
    rw [diaM]
    refine Eq.trans ?_ st
    unfold mat
    have e0 : shp 1 (diaM m r f i) i = diaM m r f i i := by unfold shp; congr 1; omega
    have e1 : shp 1 (diaM m r f i) (4 + i) = diaM m r f i (4 + (i + 1) % 4) := by unfold shp; congr 1; omega
    have e2 : shp 1 (diaM m r f i) (8 + i) = diaM m r f i (8 + (i + 2) % 4) := by unfold shp; congr 1; omega
    have e3 : shp 1 (diaM m r f i) (12 + i) = diaM m r f i (12 + (i + 3) % 4) := by unfold shp; congr 1; omega
    rw [e0, e1, e2, e3]
    obtain ⟨q, hq⟩ : ∃ q, q = bq (diaM m r f i i) (diaM m r f i (4 + (i + 1) % 4)) (diaM m r f i (8 + (i + 2) % 4)) (diaM m r f i (12 + (i + 3) % 4)) (m (sig r (8 + 2 * i))) (m (sig r (9 + 2 * i))) := ⟨_, rfl⟩
    simp only
    rw [← hq]
    obtain ⟨u, hu⟩ : ∃ u, u = 4 * (t / 4) + (t % 4 + 4 - 1 * (t / 4)) % 4 := ⟨_, rfl⟩
    rw [← hu]
    have k0 : (u = i) = (t = i) := propext ⟨fun h => by omega, fun h => by omega⟩
    have k1 : (u = 4 + i) = (t = 4 + (i + 1) % 4) := propext ⟨fun h => by omega, fun h => by omega⟩
    have k2 : (u = 8 + i) = (t = 8 + (i + 2) % 4) := propext ⟨fun h => by omega, fun h => by omega⟩
    have k3 : (u = 12 + i) = (t = 12 + (i + 3) % 4) := propext ⟨fun h => by omega, fun h => by omega⟩
    have k4 : shp 1 (diaM m r f i) u = diaM m r f i t := by
      unfold shp
      rw [show 4 * (u / 4) + (u % 4 + 4 + 1 * (u / 4)) % 4 = t by omega]
    simp only [k0, k1, k2, k3, k4]
theorem brn_congr {x y f x2 y2 g : Nat → Nat} (hx : ∀ c, c < 4 → x c = x2 c) (hy : ∀ c, c < 4 → y c = y2 c) (h : ∀ t, t < 16 → f t = g t) : ∀ t, t < 16 → brn x y f t = brn x2 y2 g t := fun t ht => by
  unfold brn
  rw [h _ (by omega), h _ (by omega), h _ (by omega), h _ (by omega), hx _ (by omega), hy _ (by omega)]
theorem shp_zero (f : Nat → Nat) (t : Nat) : shp 0 f t = f t := by unfold shp; congr 1; omega
theorem shn_zero (f : Nat → Nat) (t : Nat) : shn 0 f t = f t := by unfold shn; congr 1; omega
theorem rnd_brs {m w : Nat → Nat} {l : List Nat} (hm : ∀ t, t < 16 → m t = wrd l t) : ∀ r t, t < 16 → rndM m w r t = brs l w r t
  | 0, t, _ => by rw [rndM, brs]
  | r + 1, t, ht => by
    have ih := rnd_brs (w := w) hm r
    have c4 : ∀ t, t < 16 → colM m r (rndM m w r) 4 t = bpart l r (brs l w r) 1 t := fun t ht => by
      rw [col_brn m r _ 4 (by omega) t ht, if_pos (by omega), bpart, bpart, bstep, shn_zero]
      exact brn_congr (fun c hc => (hm _ (sig_lt _ _)).trans (congrArg (fun z => wrd l (sig r z)) (by omega))) (fun c hc => (hm _ (sig_lt _ _)).trans (congrArg (fun z => wrd l (sig r z)) (by omega))) (fun u hu => (ih u hu).trans (shp_zero _ u).symm) t ht
    rw [rndM, brs, dia_brn m r _ 4 (by omega) t ht, bpart, bstep]
    unfold shn
    refine Eq.trans (if_pos (by omega)) ?_
    refine brn_congr (fun c hc => (hm _ (sig_lt _ _)).trans (congrArg (fun z => wrd l (sig r z)) (by omega))) (fun c hc => (hm _ (sig_lt _ _)).trans (congrArg (fun z => wrd l (sig r z)) (by omega))) (fun u hu => ?_) _ (by omega)
    unfold shp
    exact c4 _ (by omega)
theorem sqd_step {h s v z : Nat → Nat} {l : List Nat} {many : Nat} {last : Bool} {q : Nat} (hq : q < 8) (hb : ∀ t, t < 16 → v t = brs l (w0 h many last) 10 t) (hz : z = sqz h l many last) (hs : ∀ t, t < 8 → s t = if t < q then z t else h t) :
    ∀ t, t < 8 → upd s q ((s q ^^^ (v q ^^^ v (8 + q)) % 4294967296) % 4294967296) t = if t < q + 1 then z t else h t := by
  rw [hb q (by omega), hb (8 + q) (by omega)]
  subst hz
  exact sqz_step hq rfl hs
end Go.Proofs.YthljakcegoohlabGreatDoor
namespace Go.Proofs.YthljakcegoohlabGreatDoor
open Go Go.RowKit
theorem spr_zero {x : Nat} (h : x < 4294967296) : (x ^^^ 0 % 4294967296) % 4294967296 = x := by simp; omega
theorem spr_false {h s : Nat → Nat} {many : Nat} (hs : ∀ t, t < 16 → s t = if t % 8 < 8 then w00 h t else 0) : ∀ t, t < 16 → upd (upd s 12 ((s 12 ^^^ many % 4294967296) % 4294967296)) 13 ((upd s 12 ((s 12 ^^^ many % 4294967296) % 4294967296) 13 ^^^ 0 % 4294967296) % 4294967296) t = w0 h many false t := fun t ht => by
  have e : upd s 12 ((s 12 ^^^ many % 4294967296) % 4294967296) 13 = ivf 5 := by
    rw [updN _ _ (by decide), hs 13 (by decide), if_pos (by decide)]; rfl
  rw [e, spr_zero (ivf_lt 5)]
  by_cases h1 : t = 13
  · rw [h1, updS]; rfl
  · rw [updN _ _ h1]; exact w0_false hs t ht
theorem spr_true {h s : Nat → Nat} {many : Nat} (hs : ∀ t, t < 16 → s t = if t % 8 < 8 then w00 h t else 0) : ∀ t, t < 16 → upd (upd (upd s 12 ((s 12 ^^^ many % 4294967296) % 4294967296)) 13 ((upd s 12 ((s 12 ^^^ many % 4294967296) % 4294967296) 13 ^^^ 0 % 4294967296) % 4294967296)) 14 ((4294967295 ^^^ upd (upd s 12 ((s 12 ^^^ many % 4294967296) % 4294967296)) 13 ((upd s 12 ((s 12 ^^^ many % 4294967296) % 4294967296) 13 ^^^ 0 % 4294967296) % 4294967296) 14) % 4294967296) t = w0 h many true t := fun t ht => by
  have e := spr_false (many := many) hs
  by_cases h1 : t = 14
  · rw [h1, updS, e 14 (by decide)]; rfl
  · rw [updN _ _ h1, e t ht]
    unfold w0
    by_cases h2 : t = 12
    · rw [if_pos h2, if_pos h2]
    · rw [if_neg h2, if_neg h2, if_neg (by simp), if_neg (by simp [h1])]
theorem hol_at (w : Nat → Nat) : ∀ n i, i < 4 * n → (hol w n).getD i 0 = w (i / 4) / 256 ^ (i % 4) % 256
  | 0, i, h => by omega
  | n + 1, i, h => by
    rw [hol, List.getD_eq_getElem?_getD]
    by_cases hi : i < 4 * n
    · rw [List.getElem?_append_left (by rw [hol_len]; exact hi), ← List.getD_eq_getElem?_getD, hol_at w n i hi]
    · rw [List.getElem?_append_right (by rw [hol_len]; omega), hol_len, List.getElem?_eq_getElem (by rw [lowl_len]; omega)]
      rw [show i / 4 = n by omega, show i % 4 = i - 4 * n by omega]
      simp [lowl]
theorem hsum_at (w : Nat → Nat) {i : Nat} (hi : i < 32) : w (i / 4) / 2 ^ (i % 4 * 8) % 256 = hsumf w i := by
  unfold hsumf
  rw [hol_at w 8 i (by omega), Nat.mul_comm (i % 4) 8, Nat.pow_mul]
def heldP (S : List Nat) (p j : Nat) : Nat := if j < p - 64 * nblk p then S.getD (64 * nblk p + j) 0 else 0
def AddInv (h d : Nat → Nat) (n ln : Nat) (l : List Nat) (hh g : Nat → Nat) (nn q : Nat) : Prop :=
  ln ≤ q ∧ q ≤ ln + l.length ∧ hh = hacc h (ln - n) (sS d n l) (nblk (n + (q - ln))) ∧ (∀ j, j < 64 → g j = heldP (sS d n l) (n + (q - ln)) j) ∧ nn = n + (q - ln) - 64 * nblk (n + (q - ln))
theorem sS_low (d : Nat → Nat) {n j : Nat} (l : List Nat) (h : j < n) : (sS d n l).getD j 0 = d j := by
  unfold sS
  rw [List.getD_eq_getElem?_getD, List.getElem?_append_left (by simpa using h), List.getElem?_map, List.getElem?_range h]
  rfl
theorem sS_high (d : Nat → Nat) (n j : Nat) (l : List Nat) : (sS d n l).getD (n + j) 0 = l.getD j 0 := by
  unfold sS
  rw [List.getD_eq_getElem?_getD, List.getElem?_append_right (by simp), List.length_map, List.length_range, Nat.add_sub_cancel_left, ← List.getD_eq_getElem?_getD]
theorem drop_at (l : List Nat) (c j : Nat) : (l.drop c).getD j 0 = l.getD (c + j) 0 := by
  rw [List.getD_eq_getElem?_getD, List.getElem?_drop, ← List.getD_eq_getElem?_getD]
theorem add_first {h d : Nat → Nat} {n ln : Nat} (l : List Nat) (hok : okB n ln d = true) : AddInv h d n ln l h d n ln := by
  obtain ⟨_, hnl, hn, _, hz⟩ := okB_open hok
  have hb : nblk (n + (ln - ln)) = 0 := by unfold nblk; omega
  refine ⟨Nat.le_refl _, by omega, by rw [hb]; rfl, fun j hj => ?_, by rw [hb]; omega⟩
  unfold heldP
  rw [hb]
  by_cases h1 : j < n
  · rw [if_pos (by omega), show 64 * 0 + j = j by omega, sS_low d l h1]
  · rw [if_neg (by omega), hz j (by omega) hj]
theorem add_lt {h d hh g : Nat → Nat} {n ln nn q : Nat} {l : List Nat} (hd : ∀ j, j < 64 → d j < 256) (hn : n ≤ 64) (hl : ∀ b ∈ l, b < 256) (hi : AddInv h d n ln l hh g nn q) : ∀ j, j < 64 → g j < 256 := fun j hj => by
  rw [hi.2.2.2.1 j hj]
  unfold heldP
  split
  · exact getD_lt (sS_lt (n := n) (fun j hj => hd j (by omega)) hl) _
  · decide
theorem add_nn {h d hh g : Nat → Nat} {n ln nn q : Nat} {l : List Nat} (hi : AddInv h d n ln l hh g nn q) : nn ≤ 64 := by
  rw [hi.2.2.2.2]; unfold nblk; omega
theorem add_full {h d hh g : Nat → Nat} {n ln nn q : Nat} {l : List Nat} (hnl : n ≤ ln) (hi : AddInv h d n ln l hh g nn q) (hN : nn = 64) (hm : (ln - n) % 64 = 0) {k : Nat} (hk : k = min (l.drop (q - ln)).length 64) (h0 : 0 < (l.drop (q - ln)).length) {hh' g' : Nat → Nat} {nn' q' : Nat} (e1 : hh' = sqz hh ((List.range 64).map g) q false) (e2 : ∀ j, j < 64 → g' j = if 0 ≤ j ∧ j < 0 + k then (l.drop (q - ln)).getD (j - 0) 0 else 0) (e3 : nn' = 0 + k) (e4 : q' = q + k) : AddInv h d n ln l hh' g' nn' q' := by
  obtain ⟨i1, i2, i3, i4, i5⟩ := hi
  rw [List.length_drop] at hk h0
  obtain ⟨B, hB⟩ : ∃ B, B = nblk (n + (q - ln)) := ⟨_, rfl⟩
  have hp : n + (q - ln) = 64 * (B + 1) := by have := hB; unfold nblk at this; omega
  have hp' : n + (q' - ln) = 64 * (B + 1) + k := by omega
  have hB' : nblk (n + (q' - ln)) = B + 1 := by unfold nblk; omega
  have hfull : (List.range 64).map g = ((sS d n l).drop (64 * B)).take 64 := by
    apply List.ext_getElem
    · simp [sS_len]; omega
    · intro j h1 h2
      simp only [List.getElem_map, List.getElem_range, List.getElem_take, List.getElem_drop]
      have hj : j < 64 := by simpa using h1
      rw [i4 j hj]
      unfold heldP
      rw [← hB, if_pos (by omega), List.getD_eq_getElem?_getD, List.getElem?_eq_getElem (by rw [sS_len]; omega)]
      rfl
  refine ⟨by omega, by omega, ?_, fun j hj => ?_, by rw [hB']; omega⟩
  · rw [e1, hB', hacc, hfull, i3, ← hB, show ln - n + 64 * (B + 1) = q by omega]
  · rw [e2 j hj]
    unfold heldP
    rw [hB']
    by_cases h1 : j < k
    · rw [if_pos (by omega), if_pos (by omega), drop_at, Nat.sub_zero, show 64 * (B + 1) + j = n + (q - ln + j) by omega, sS_high]
    · rw [if_neg (by omega), if_neg (by omega)]
theorem add_more {h d hh g : Nat → Nat} {n ln nn q : Nat} {l : List Nat} (hi : AddInv h d n ln l hh g nn q) (hN : nn < 64) {k : Nat} (hk : k = min (l.drop (q - ln)).length (64 - nn)) (h0 : 0 < (l.drop (q - ln)).length) {g' : Nat → Nat} {nn' q' : Nat} (e2 : ∀ j, j < 64 → g' j = if nn ≤ j ∧ j < nn + k then (l.drop (q - ln)).getD (j - nn) 0 else g j) (e3 : nn' = nn + k) (e4 : q' = q + k) : AddInv h d n ln l hh g' nn' q' := by
  obtain ⟨i1, i2, i3, i4, i5⟩ := hi
  rw [List.length_drop] at hk h0
  obtain ⟨B, hB⟩ : ∃ B, B = nblk (n + (q - ln)) := ⟨_, rfl⟩
  rw [← hB] at i3 i5
  have hpB : 64 * B ≤ n + (q - ln) := by rw [hB]; exact nblk_le _
  have hB' : nblk (n + (q' - ln)) = B := by have := hB; unfold nblk at this ⊢; omega
  refine ⟨by omega, by omega, by rw [hB']; exact i3, fun j hj => ?_, by rw [hB']; omega⟩
  rw [e2 j hj]
  unfold heldP
  rw [hB']
  by_cases h1 : nn ≤ j ∧ j < nn + k
  · rw [if_pos h1, if_pos (by omega), drop_at, show 64 * B + j = n + (q - ln + (j - nn)) by omega, sS_high]
  · rw [if_neg h1, i4 j hj]
    unfold heldP
    rw [← hB]
    by_cases h2 : j < nn
    · rw [if_pos (by omega), if_pos (by omega)]
    · rw [if_neg (by omega), if_neg (by omega)]
theorem add_shows {B : Mem} {bv : Value} {l : List Nat} {q ln k : Nat} (h : Shows B 1 bv (l.drop (q - ln)).length ((l.drop (q - ln)).map by8)) (hk : k ≤ (l.drop (q - ln)).length) (hq : ln ≤ q) : Shows B 1 (slPart 1 bv k (l.drop (q - ln)).length) (l.drop (q + k - ln)).length ((l.drop (q + k - ln)).map by8) :=
  h.cut hk (Nat.le_refl _) (by rw [List.drop_drop, List.take_of_length_le (by simp; omega), show q - ln + k = q + k - ln by omega])
theorem cH_congr {h h' d d' : Nat → Nat} {n n' ln ln' : Nat} (hh : h = h') (hd : ∀ j, j < 64 → d j = d' j) (hn : n = n') (hl : ln = ln') : Value.agg (cells 74 [pI .u32 8 h, pI .u8 64 d, pV (.int .i64 (n : Int)), pV (.int .i64 (ln : Int))]) = Value.agg (cells 74 [pI .u32 8 h', pI .u8 64 d', pV (.int .i64 (n' : Int)), pV (.int .i64 (ln' : Int))]) := by
  subst hh hn hl
  congr 1
  exact cells_congr ⟨rfl, fun _ _ => rfl, rfl, fun i hi => congrArg (fun z : Nat => Value.int .u8 (z : Int)) (hd i hi), rfl, fun _ _ => rfl, rfl, fun _ _ => rfl, trivial⟩
theorem add_last {h d hh g : Nat → Nat} {n ln nn q : Nat} {l : List Nat} (hi : AddInv h d n ln l hh g nn q) (h0 : (l.drop (q - ln)).length = 0) : hh = hacc h (ln - n) (sS d n l) (nblk (sS d n l).length) ∧ (∀ j, j < 64 → g j = ((sS d n l).drop (64 * nblk (sS d n l).length)).getD j 0) ∧ nn = ((sS d n l).drop (64 * nblk (sS d n l).length)).length ∧ q = ln + l.length := by
  obtain ⟨i1, i2, i3, i4, i5⟩ := hi
  rw [List.length_drop] at h0
  have hp : n + (q - ln) = (sS d n l).length := by rw [sS_len]; omega
  rw [hp] at i3 i4 i5
  refine ⟨i3, fun j hj => ?_, by rw [i5, List.length_drop], by omega⟩
  rw [i4 j hj, drop_at]
  unfold heldP
  by_cases h1 : j < (sS d n l).length - 64 * nblk (sS d n l).length
  · rw [if_pos h1]
  · rw [if_neg h1, List.getD_eq_getElem?_getD, List.getElem?_eq_none (by omega)]; rfl
end Go.Proofs.YthljakcegoohlabGreatDoor
namespace Go.Proofs.YthljakcegoohlabGreatDoor
open Go Go.RowKit
def bsl (l : List Nat) : List Nat := (List.range 32).map (bsum l)
theorem bsl_len (l : List Nat) : (bsl l).length = 32 := by simp [bsl]
theorem bsl_lt (l : List Nat) : ∀ b ∈ bsl l, b < 256 := range_lt fun _ _ => bsum_lt _ _
def xorl (l : List Nat) (c : Nat) : List Nat := l.map fun b => (b ^^^ c) % 256
theorem xorl_len (l : List Nat) (c : Nat) : (xorl l c).length = l.length := by simp [xorl]
theorem xorl_lt (l : List Nat) (c : Nat) : ∀ b ∈ xorl l c, b < 256 := fun b hb => by
  obtain ⟨x, _, rfl⟩ := List.mem_map.1 hb
  exact Nat.mod_lt _ (by decide)
def mkey (k : List Nat) : List Nat := if 64 < k.length then bsl k else k
theorem mkey_le (k : List Nat) : (mkey k).length ≤ 64 := by unfold mkey; split <;> simp_all [bsl_len]
def mpad (k : List Nat) : List Nat := mkey k ++ zrs (64 - (mkey k).length)
theorem mpad_len (k : List Nat) : (mpad k).length = 64 := by have := mkey_le k; simp [mpad, zrs_len]; omega
def mac (k s : List Nat) (j : Nat) : Nat := bsum (xorl (mpad k) 92 ++ bsl (xorl (mpad k) 54 ++ s)) j
theorem mac_lt (k s : List Nat) (j : Nat) : mac k s j < 256 := bsum_lt _ _
def macl (k s : List Nat) : List Nat := (List.range 32).map (mac k s)
theorem macl_lt (k s : List Nat) : ∀ b ∈ macl k s, b < 256 := range_lt fun _ _ => mac_lt _ _ _
def thr3 (a b c : Nat → Nat) (t : Nat) : Nat := if t < 32 then a t else if t < 64 then b (t - 32) else c (t - 64)
def two2 (a b : Nat → Nat) (t : Nat) : Nat := if t < 32 then a t else b (t - 32)
def kT (c : Nat → Nat) (s : List Nat) : List Nat := macl ((List.range 32).map c) s
def kA (c : Nat → Nat) (s : List Nat) : Nat → Nat := mac (kT c s) [1]
def kB (c : Nat → Nat) (s : List Nat) : Nat → Nat := mac (kT c s) ((List.range 32).map (kA c s) ++ [2])
def kC (c : Nat → Nat) (s : List Nat) : Nat → Nat := mac (kT c s) ((List.range 32).map (kB c s) ++ [3])
theorem kT_lt (c : Nat → Nat) (s : List Nat) : ∀ b ∈ kT c s, b < 256 := macl_lt _ _
theorem app_lt {l : List Nat} {x : Nat} (h : ∀ b ∈ l, b < 256) (hx : x < 256) : ∀ b ∈ l ++ [x], b < 256 := fun b hb => by
  rcases List.mem_append.1 hb with hb | hb
  · exact h b hb
  · simp at hb; omega
end Go.Proofs.YthljakcegoohlabGreatDoor
namespace Go.Proofs.YthljakcegoohlabGreatDoor
open Go Go.RowKit
theorem tur_first {k : Nat → Nat} {x n : Nat} : ∀ t, t < n → k t = if t < 0 then (k t ^^^ x) % 256 else k t := fun t _ => by rw [if_neg (Nat.not_lt_zero t)]
theorem tur_next {k s : Nat → Nat} {x i n v : Nat} (h : ∀ t, t < n → s t = if t < i then (k t ^^^ x) % 256 else k t) (hi : i < n) (hv : v = (s i ^^^ x) % 256) : ∀ t, t < n → upd s i v t = if t < i + 1 then (k t ^^^ x) % 256 else k t := fun t ht => by
  unfold upd
  by_cases e : t = i
  · subst e
    have hs := h t ht
    rw [if_neg (Nat.lt_irrefl t)] at hs
    rw [if_pos rfl, if_pos (by omega), hv, hs]
  · rw [if_neg e, h t ht]
    by_cases h1 : t < i
    · rw [if_pos h1, if_pos (by omega)]
    · rw [if_neg h1, if_neg (by omega)]
theorem tur_last {p : List Nat} {s : Nat → Nat} {x : Nat} (hp : p.length = 64) (h : ∀ t, t < 64 → s t = if t < 64 then (p.getD t 0 ^^^ x) % 256 else p.getD t 0) : ∀ t, t < 64 → s t = (xorl p x).getD t 0 := fun t ht => by
  rw [h t ht, if_pos ht]
  simp [xorl, List.getD_eq_getElem?_getD, List.getElem?_eq_getElem (show t < p.length by omega)]
theorem fit_at {k l : List Nat} (h : mkey k = l) (hl : l.length ≤ 64) {n : Nat} (hn : n = min l.length 64) : ∀ j, j < 64 → (if 0 ≤ j ∧ j < 0 + n then l.getD (j - 0) 0 else 0) = (mpad k).getD j 0 := fun j hj => by
  unfold mpad
  rw [h, Nat.sub_zero, List.getD_eq_getElem?_getD, List.getD_eq_getElem?_getD]
  by_cases hk : j < l.length
  · rw [if_pos (by omega), List.getElem?_append_left hk]
  · rw [if_neg (by omega), List.getElem?_append_right (by omega)]
    rw [← List.getD_eq_getElem?_getD]
    exact zrs_at (by omega)
theorem shows32 (r : Nat) (f : Nat → Nat) (t : TypeId) : Shows [⟨r, arr .u8 32 f, t⟩] 1 (.slice (some ⟨r, 0, none⟩) 32 32) ((List.range 32).map f).length (((List.range 32).map f).map by8) := by
  have h := arr_shows r 32 f t 0 32 32 (by decide) (by decide)
  simp only [Nat.zero_add] at h
  exact h
end Go.Proofs.YthljakcegoohlabGreatDoor
namespace Go.Proofs.YthljakcegoohlabGreatDoor
open Go Go.RowKit
abbrev cS (has : Bool) (k : Nat → Nat) (n : Nat) (ch h : Nat → Nat) : Array Value := cells 98 [pV (.bool has), pI .u8 32 k, pV (u n), pI .u8 32 ch, pI .u8 32 h]
abbrev SV (has : Bool) (k : Nat → Nat) (n : Nat) (ch h : Nat → Nat) : Value := .agg (cS has k n ch h)
theorem cells_shows {N o l cap : Nat} {ps : List Part} (r k : Nat) (t : TypeId) (g : Nat → Nat) (hk : catAt ps k = some (o, pI .u8 l g)) (hN : o + l ≤ N) (hc : l ≤ cap) : Shows [⟨r, cells N ps, t⟩] 1 (.slice (some ⟨r, o, none⟩) l cap) ((List.range l).map g).length (((List.range l).map g).map by8) := by
  have e : ((List.range l).map g).length = l := by simp
  refine .inr ⟨r, o, cap, cells N ps, t, by rw [e], by rw [e]; exact hc, by simp, by simp, by rw [e, cells, arrv_size]; omega, fun j u hj => ?_⟩
  rw [List.getElem?_map, List.getElem?_map] at hj
  by_cases hl : j < l
  · rw [List.getElem?_range hl] at hj
    simp at hj
    rw [cells, arrv_get (by omega), cat_part hk j hl, ← hj]
  · rw [List.getElem?_eq_none (by simpa using hl)] at hj
    cases hj
theorem key_pad (l : List Nat) : ∀ j, j < 32 → (if 0 ≤ j ∧ j < 0 + min l.length 32 then l.getD (j - 0) 0 else 0) = l.getD j 0 := fun j hj => by
  split
  · rfl
  · rw [List.getD_eq_getElem?_getD, List.getElem?_eq_none (by omega)]; rfl
def sbeg (l : List Nat) (j : Nat) : Nat := if 32 < l.length then bsum l j else l.getD j 0
theorem sbeg_short {l : List Nat} (h : ¬ 32 < l.length) : sbeg l = fun j => l.getD j 0 := by funext j; exact if_neg h
theorem sbeg_long {l : List Nat} (h : 32 < l.length) : sbeg l = bsum l := by funext j; exact if_pos h
theorem sbeg_lt {l : List Nat} (h : ∀ b ∈ l, b < 256) (j : Nat) : sbeg l j < 256 := by
  unfold sbeg
  split
  · exact bsum_lt _ _
  · exact getD_lt h j
def hx (h : Nat → Nat) (l : List Nat) : Nat → Nat := bsum ((List.range 32).map h ++ l)
theorem hx_lt (h : Nat → Nat) (l : List Nat) (j : Nat) : hx h l j < 256 := bsum_lt _ _
theorem apps_lt {l k : List Nat} (h : ∀ b ∈ l, b < 256) (h2 : ∀ b ∈ k, b < 256) : ∀ b ∈ l ++ k, b < 256 := fun b hb => (List.mem_append.1 hb).elim (h b) (h2 b)
theorem thr3_0 (a b c : Nat → Nat) : ∀ j, j < 32 → thr3 a b c (0 + j) = a j := fun j hj => by unfold thr3; rw [if_pos (by omega), Nat.zero_add]
theorem thr3_1 (a b c : Nat → Nat) : ∀ j, j < 32 → thr3 a b c (32 + j) = b j := fun j hj => by unfold thr3; rw [if_neg (by omega), if_pos (by omega), Nat.add_sub_cancel_left]
theorem thr3_2 (a b c : Nat → Nat) : ∀ j, j < 32 → thr3 a b c (64 + j) = c j := fun j hj => by unfold thr3; rw [if_neg (by omega), if_neg (by omega), Nat.add_sub_cancel_left]
end Go.Proofs.YthljakcegoohlabGreatDoor
namespace Go.Proofs.YthljakcegoohlabGreatDoor
def IsP (p : Nat) : Prop := 2 ≤ p ∧ ∀ d, d ∣ p → d = 1 ∨ d = p
theorem IsP.coprime {p a : Nat} (hp : IsP p) (h : ¬ p ∣ a) : Nat.Coprime p a := by
  rcases hp.2 (Nat.gcd p a) (Nat.gcd_dvd_left p a) with h1 | h1
  · exact h1
  · exact absurd (h1 ▸ Nat.gcd_dvd_right p a) h
theorem IsP.euclid {p a b : Nat} (hp : IsP p) (h : p ∣ a * b) : p ∣ a ∨ p ∣ b := by
  by_cases ha : p ∣ a
  · exact .inl ha
  · exact .inr ((hp.coprime ha).dvd_of_dvd_mul_left h)
def ch : Nat → Nat → Nat
  | _, 0 => 1
  | 0, _ + 1 => 0
  | n + 1, k + 1 => ch n k + ch n (k + 1)
def sumTo (f : Nat → Nat) : Nat → Nat
  | 0 => 0
  | n + 1 => sumTo f n + f n
theorem ch_zero (n : Nat) : ch n 0 = 1 := by cases n <;> rfl
theorem ch_big : ∀ (n k : Nat), n < k → ch n k = 0
  | 0, k + 1, _ => rfl
  | n + 1, k + 1, h => by show ch n k + ch n (k + 1) = 0; rw [ch_big n k (by omega), ch_big n (k + 1) (by omega)]
theorem ch_self (n : Nat) : ch n n = 1 := by
  induction n with
  | zero => rfl
  | succ n ih => show ch n n + ch n (n + 1) = 1; rw [ih, ch_big n (n + 1) (by omega)]
theorem ch_mul (n : Nat) : ∀ k, (k + 1) * ch (n + 1) (k + 1) = (n + 1) * ch n k := by
  induction n with
  | zero =>
    intro k
    cases k with
    | zero => rfl
    | succ k => show (k + 1 + 1) * (ch 0 (k + 1) + ch 0 (k + 1 + 1)) = _; simp [ch]
  | succ n ih =>
    intro k
    cases k with
    | zero =>
      have := ih 0
      show (0 + 1) * (ch (n + 1) 0 + ch (n + 1) (0 + 1)) = _
      rw [ch_zero] at *
      omega
    | succ k =>
      have h1 := ih k
      have h2 := ih (k + 1)
      show (k + 1 + 1) * (ch (n + 1) (k + 1) + ch (n + 1) (k + 1 + 1)) = (n + 1 + 1) * ch (n + 1) (k + 1)
      have h3 : ch (n + 1) (k + 1) = ch n k + ch n (k + 1) := rfl
      rw [Nat.mul_add, h2]
      have e1 : (k + 1 + 1) * ch (n + 1) (k + 1) = (k + 1) * ch (n + 1) (k + 1) + ch (n + 1) (k + 1) := by rw [Nat.add_mul, Nat.one_mul]
      have e2 : (n + 1 + 1) * ch (n + 1) (k + 1) = (n + 1) * ch (n + 1) (k + 1) + ch (n + 1) (k + 1) := by rw [Nat.add_mul, Nat.one_mul]
      have e3 : (n + 1) * ch (n + 1) (k + 1) = (n + 1) * ch n k + (n + 1) * ch n (k + 1) := by rw [h3, Nat.mul_add]
      omega
theorem sumTo_add (f g : Nat → Nat) (n : Nat) : sumTo (fun k => f k + g k) n = sumTo f n + sumTo g n := by
  induction n with
  | zero => rfl
  | succ n ih => simp only [sumTo, ih]; omega
theorem sumTo_mul (c : Nat) (f : Nat → Nat) (n : Nat) : sumTo (fun k => c * f k) n = c * sumTo f n := by
  induction n with
  | zero => rfl
  | succ n ih => simp only [sumTo, ih, Nat.mul_add]
theorem sumTo_congr {f g : Nat → Nat} (n : Nat) (h : ∀ k, k < n → f k = g k) : sumTo f n = sumTo g n := by
  induction n with
  | zero => rfl
  | succ n ih => simp only [sumTo]; rw [ih (fun k hk => h k (by omega)), h n (by omega)]
theorem sumTo_shift (f : Nat → Nat) (n : Nat) : sumTo f (n + 1) = f 0 + sumTo (fun k => f (k + 1)) n := by
  induction n with
  | zero => simp [sumTo]
  | succ n ih => rw [sumTo, ih]; simp only [sumTo]; omega
theorem binom (a n : Nat) : (a + 1) ^ n = sumTo (fun k => ch n k * a ^ k) (n + 1) := by
  induction n with
  | zero => rfl
  | succ n ih =>
    rw [sumTo_shift]
    have e : sumTo (fun k => ch (n + 1) (k + 1) * a ^ (k + 1)) (n + 1) = a * sumTo (fun k => ch n k * a ^ k) (n + 1) + sumTo (fun k => ch n (k + 1) * a ^ (k + 1)) (n + 1) := by
      rw [← sumTo_mul, ← sumTo_add]
      refine sumTo_congr _ fun k _ => ?_
      show (ch n k + ch n (k + 1)) * a ^ (k + 1) = _
      rw [Nat.add_mul, Nat.pow_succ, ← Nat.mul_assoc, Nat.mul_comm a]
    have e2 : sumTo (fun k => ch n k * a ^ k) (n + 1) = 1 + sumTo (fun k => ch n (k + 1) * a ^ (k + 1)) (n + 1) := by
      rw [sumTo_shift]
      show ch n 0 * a ^ 0 + sumTo (fun k => ch n (k + 1) * a ^ (k + 1)) n = 1 + (sumTo (fun k => ch n (k + 1) * a ^ (k + 1)) n + ch n (n + 1) * a ^ (n + 1))
      rw [ch_zero, ch_big n (n + 1) (by omega)]
      simp
    rw [e, Nat.pow_succ, ih, Nat.mul_add, Nat.mul_one, Nat.mul_comm, ch_zero, Nat.pow_zero]
    omega
theorem ch_dvd {p : Nat} (hp : IsP p) (k : Nat) (h0 : 0 < k) (h1 : k < p) : p ∣ ch p k := by
  obtain ⟨n, rfl⟩ : ∃ n, p = n + 1 := ⟨p - 1, by have := hp.1; omega⟩
  obtain ⟨j, rfl⟩ : ∃ j, k = j + 1 := ⟨k - 1, by omega⟩
  have := ch_mul n j
  rcases hp.euclid (a := j + 1) (b := ch (n + 1) (j + 1)) ⟨ch n j, this⟩ with h | h
  · exact absurd (Nat.le_of_dvd (by omega) h) (by omega)
  · exact h
theorem sumTo_mod (p : Nat) (f : Nat → Nat) (n : Nat) (h : ∀ k, k < n → p ∣ f k) : p ∣ sumTo f n := by
  induction n with
  | zero => exact Nat.dvd_zero p
  | succ n ih => exact Nat.dvd_add (ih fun k hk => h k (by omega)) (h n (by omega))
theorem fermat_p {p : Nat} (hp : IsP p) (a : Nat) : a ^ p % p = a % p := by
  induction a with
  | zero => rw [Nat.zero_pow (by have := hp.1; omega)]
  | succ a ih =>
    obtain ⟨n, hn⟩ : ∃ n, p = n + 1 := ⟨p - 1, by have := hp.1; omega⟩
    have hb := binom a p
    rw [sumTo, ch_self, Nat.one_mul] at hb
    have hs : sumTo (fun k => ch p k * a ^ k) p = 1 + sumTo (fun k => ch p (k + 1) * a ^ (k + 1)) n := by
      have := sumTo_shift (fun k => ch p k * a ^ k) n
      rw [← hn] at this
      rw [this, ch_zero, Nat.pow_zero]
    have hd : p ∣ sumTo (fun k => ch p (k + 1) * a ^ (k + 1)) n := sumTo_mod p _ n fun k hk => Nat.dvd_mul_right_of_dvd (ch_dvd hp (k + 1) (by omega) (by omega)) _
    obtain ⟨c, hc⟩ := hd
    rw [hb, hs, hc]
    have e : 1 + p * c + a ^ p = a ^ p + 1 + p * c := by omega
    rw [e, Nat.add_mul_mod_self_left, Nat.add_mod, ih, ← Nat.add_mod]
theorem dvd_of_mod {a p : Nat} (h : a % p = 0) : p ∣ a := Nat.dvd_of_mod_eq_zero h
theorem fermat {p : Nat} (hp : IsP p) {a : Nat} (h : ¬ p ∣ a) : a ^ (p - 1) % p = 1 := by
  have h1 := fermat_p hp a
  have ha : 0 < a := by
    rcases Nat.eq_zero_or_pos a with h0 | h0
    · exact absurd (h0 ▸ Nat.dvd_zero p) h
    · exact h0
  have hpos : 1 ≤ a ^ (p - 1) := Nat.pow_pos ha
  have e : a ^ p = a * a ^ (p - 1) := by
    have : p = (p - 1) + 1 := by have := hp.1; omega
    conv => lhs; rw [this]
    rw [Nat.pow_succ, Nat.mul_comm]
  have h2 : p ∣ a * (a ^ (p - 1) - 1) := by
    rw [Nat.mul_sub, Nat.mul_one, ← e]
    exact dvd_of_mod (Nat.sub_mod_eq_zero_of_mod_eq h1)
  rcases hp.euclid h2 with h3 | h3
  · exact absurd h3 h
  · obtain ⟨c, hc⟩ := h3
    have : a ^ (p - 1) = 1 + p * c := by omega
    rw [this, Nat.add_mul_mod_self_left, Nat.mod_eq_of_lt (by have := hp.1; omega)]
theorem pow_gcd {b q : Nat} (hq : 1 < q) (m n : Nat) : b ^ m % q = 1 → b ^ n % q = 1 → b ^ (Nat.gcd m n) % q = 1 := by
  refine Nat.gcd.induction (P := fun m n => b ^ m % q = 1 → b ^ n % q = 1 → b ^ (Nat.gcd m n) % q = 1) m n ?_ ?_
  · intro n _ h; rw [Nat.gcd_zero_left]; exact h
  · intro m n _ ih h1 h2
    rw [Nat.gcd_rec]
    refine ih ?_ h1
    have e : b ^ n = (b ^ m) ^ (n / m) * b ^ (n % m) := by rw [← Nat.pow_mul, ← Nat.pow_add, Nat.div_add_mod]
    rw [e, Nat.mul_mod, Nat.pow_mod, h1, Nat.one_pow, Nat.mod_eq_of_lt hq, Nat.one_mul, Nat.mod_mod] at h2
    exact h2
theorem small_factor (N : Nat) (hN : 2 ≤ N) (h : ¬ IsP N) : ∃ q, IsP q ∧ q ∣ N ∧ q * q ≤ N := by
  have key : ∀ n d, d ≤ n → 2 ≤ d → d ∣ N → d * d ≤ N → ∃ q, IsP q ∧ q ∣ N ∧ q * q ≤ N := by
    intro n
    induction n with
    | zero => intro d h1 h2; omega
    | succ n ih =>
      intro d h1 h2 h3 h4
      by_cases hp : IsP d
      · exact ⟨d, hp, h3, h4⟩
      · have : ∃ e, e ∣ d ∧ e ≠ 1 ∧ e ≠ d := by
          refine Classical.byContradiction fun hn => hp ⟨h2, fun e he => ?_⟩
          by_cases h1 : e = 1
          · exact .inl h1
          · by_cases h2 : e = d
            · exact .inr h2
            · exact absurd ⟨e, he, h1, h2⟩ hn
        obtain ⟨e, he, h5, h6⟩ := this
        have hle := Nat.le_of_dvd (by omega) he
        have hpos : 0 < e := Nat.pos_of_dvd_of_pos he (by omega)
        exact ih e (by omega) (by omega) (Nat.dvd_trans he h3) (Nat.le_trans (Nat.mul_le_mul hle hle) h4)
  have : ∃ e, e ∣ N ∧ e ≠ 1 ∧ e ≠ N := by
    refine Classical.byContradiction fun hn => h ⟨hN, fun e he => ?_⟩
    by_cases h1 : e = 1
    · exact .inl h1
    · by_cases h2 : e = N
      · exact .inr h2
      · exact absurd ⟨e, he, h1, h2⟩ hn
  obtain ⟨e, he, h5, h6⟩ := this
  have hpos : 0 < e := Nat.pos_of_dvd_of_pos he (by omega)
  have hle := Nat.le_of_dvd (by omega) he
  obtain ⟨f, hf⟩ := he
  have hf1 : f ≠ 1 := fun e1 => by rw [e1, Nat.mul_one] at hf; exact h6 hf.symm
  have hf0 : f ≠ 0 := fun e1 => by rw [e1, Nat.mul_zero] at hf; omega
  rcases Nat.le_total e f with hef | hef
  · exact key e e (Nat.le_refl _) (by omega) ⟨f, hf⟩ (by rw [hf]; exact Nat.mul_le_mul_left _ hef)
  · exact key f f (Nat.le_refl _) (by omega) ⟨e, by rw [hf, Nat.mul_comm]⟩ (by rw [hf]; exact Nat.mul_le_mul_right _ hef)
theorem pock {N g r m c q : Nat} (hr : IsP r) (hm : N - 1 = m * r) (h1 : g ^ (N - 1) % N = 1) (hc : g ^ m % N = c) (hg : Nat.gcd (c - 1) N = 1) (hq : IsP q) (hqN : q ∣ N) : r ∣ q - 1 := by
  have q2 := hq.1
  have toq : ∀ x, x % N % q = x % q := fun x => Nat.mod_mod_of_dvd x hqN
  have hbr : (g ^ m) ^ r % q = 1 := by
    rw [← Nat.pow_mul, ← hm, ← toq, h1, Nat.mod_eq_of_lt (by omega)]
  have hbn : ¬ q ∣ g ^ m := fun hd => by
    obtain ⟨t, ht⟩ := hd
    have hr0 : r ≠ 0 := by have := hr.1; omega
    have : (g ^ m) ^ r % q = 0 := by
      rw [Nat.pow_mod, ht, Nat.mul_mod_right, Nat.zero_pow (by omega), Nat.zero_mod]
    omega
  have hf := fermat hq hbn
  have hgcd := pow_gcd (by omega) r (q - 1) hbr hf
  rcases hr.2 (Nat.gcd r (q - 1)) (Nat.gcd_dvd_left _ _) with h | h
  · exfalso
    rw [h, Nat.pow_one] at hgcd
    have hcq : c % q = 1 := by rw [← hc, toq]; exact hgcd
    have hd : q ∣ c - 1 := by
      refine dvd_of_mod (Nat.sub_mod_eq_zero_of_mod_eq ?_)
      rw [hcq, Nat.mod_eq_of_lt (by omega)]
    have := Nat.dvd_gcd hd hqN
    rw [hg] at this
    have := Nat.le_of_dvd (by omega) this
    omega
  · rw [← h]; exact Nat.gcd_dvd_right _ _
def pm (N : Nat) : Nat → Nat → Nat → Nat
  | 0, _, _ => 1 % N
  | f + 1, g, n => if n % 2 = 1 then g * pm N f (g * g % N) (n / 2) % N else pm N f (g * g % N) (n / 2)
theorem pm_eq (N : Nat) : ∀ f g n, n < 2 ^ f → pm N f g n = g ^ n % N
  | 0, g, n, h => by
    have : n = 0 := by simp at h; omega
    subst this; rfl
  | f + 1, g, n, h => by
    have hn : n / 2 < 2 ^ f := by rw [Nat.pow_succ] at h; omega
    have ih := pm_eq N f (g * g % N) (n / 2) hn
    have e1 : (g * g % N) ^ (n / 2) % N = g ^ (2 * (n / 2)) % N := by
      rw [← Nat.pow_mod, Nat.pow_mul, Nat.pow_two]
    unfold pm
    split
    · rename_i ho
      have e : n = 2 * (n / 2) + 1 := by omega
      rw [ih, e1]
      conv => rhs; rw [e, Nat.pow_succ, Nat.mul_comm]
      rw [Nat.mul_mod, Nat.mod_mod, ← Nat.mul_mod]
    · have e : n = 2 * (n / 2) := by omega
      rw [ih, e1]
      conv => rhs; rw [e]
theorem trial (n k : Nat) (hn : 2 ≤ n) (hk : n < k * k) (h : ((List.range k).all fun d => d < 2 || !(n % d == 0)) = true) : IsP n := by
  refine Classical.byContradiction fun hp => ?_
  obtain ⟨q, h1, h2, h3⟩ := small_factor n hn hp
  have hqk : q < k := by
    rcases Nat.lt_or_ge q k with h | h
    · exact h
    · have := Nat.mul_le_mul h h; omega
  have := (List.all_eq_true.1 h) q (by simpa using hqk)
  have hz : n % q = 0 := Nat.mod_eq_zero_of_dvd h2
  have := h1.1
  simp [hz] at *
  omega
theorem p7 : IsP 7 := trial 7 3 (by decide) (by decide) (by decide +kernel)
theorem p3 : IsP 3 := trial 3 2 (by decide) (by decide) (by decide +kernel)
theorem p75707 : IsP 75707 := trial 75707 276 (by decide) (by decide) (by decide +kernel)
theorem p8574133 : IsP 8574133 := trial 8574133 2929 (by decide) (by decide) (by decide +kernel)
theorem pock2 {N g r s m m' c c' F : Nat} (hN : 2 ≤ N) (hr : IsP r) (hs : IsP s) (hrs : Nat.gcd r s = 1) (hm : N - 1 = m * r) (hm' : N - 1 = m' * s) (f : Nat) (hf : N - 1 < 2 ^ f) (hmf : m < 2 ^ f) (hmf' : m' < 2 ^ f)
    (h1 : pm N f g (N - 1) = 1) (hc : pm N f g m = c) (hc' : pm N f g m' = c') (hg : Nat.gcd (c - 1) N = 1) (hg' : Nat.gcd (c' - 1) N = 1) (hF : F = r * s) (ho : N % 2 = 1) (hr2 : r % 2 = 1) (hs2 : s % 2 = 1) (hbig : N < (2 * F) * (2 * F)) : IsP N := by
  refine Classical.byContradiction fun hp => ?_
  obtain ⟨q, h2, h3, h4⟩ := small_factor N hN hp
  rw [pm_eq N f g _ hf] at h1
  rw [pm_eq N f g _ hmf] at hc
  rw [pm_eq N f g _ hmf'] at hc'
  have d1 := pock hr hm h1 hc hg h2 h3
  have d2 := pock hs hm' h1 hc' hg' h2 h3
  have d3 : F ∣ q - 1 := by rw [hF]; exact Nat.Coprime.mul_dvd_of_dvd_of_dvd hrs d1 d2
  have hq2 := h2.1
  have hqo : q % 2 = 1 := by
    rcases Nat.mod_two_eq_zero_or_one q with h | h
    · exfalso
      have : 2 ∣ N := Nat.dvd_trans (dvd_of_mod h) h3
      have := Nat.mod_eq_zero_of_dvd this
      omega
    · exact h
  have d4 : 2 ∣ q - 1 := dvd_of_mod (by omega)
  have hco : Nat.gcd 2 F = 1 := by
    have : F % 2 = 1 := by rw [hF, Nat.mul_mod, hr2, hs2]
    rw [Nat.gcd_rec, this]; rfl
  have d5 : 2 * F ∣ q - 1 := Nat.Coprime.mul_dvd_of_dvd_of_dvd hco d4 d3
  have hle := Nat.le_of_dvd (by omega) d5
  have := Nat.mul_le_mul (show 2 * F ≤ q by omega) (show 2 * F ≤ q by omega)
  omega
theorem pN1 : IsP 1919519569386763 :=
  pock2 (g := 2) (by decide) p8574133 p7 (by decide +kernel) (m := 223873314) (m' := 274217081340966) (by decide) (by decide) 64 (by decide) (by decide) (by decide) (by decide +kernel) rfl rfl (by decide +kernel) (by decide +kernel) rfl (by decide) (by decide) (by decide) (by decide)
theorem pN2 : IsP 75445702479781427272750846543864801 :=
  pock2 (g := 2) (by decide) pN1 p75707 (by decide +kernel) (m := 39304471641247389600) (m' := 996548568557483816196003626400) (by decide) (by decide) 128 (by decide) (by decide) (by decide) (by decide +kernel) rfl rfl (by decide +kernel) (by decide +kernel) rfl (by decide) (by decide) (by decide) (by decide)
theorem pN3 : IsP 74058212732561358302231226437062788676166966415465897661863160754340907 :=
  pock2 (g := 2) (by decide) pN2 p3 (by decide +kernel) (m := 981609426360740691344999861639072106) (m' := 24686070910853786100743742145687596225388988805155299220621053584780302) (by decide) (by decide) 240 (by decide) (by decide) (by decide) (by decide +kernel) rfl rfl (by decide +kernel) (by decide +kernel) rfl (by decide) (by decide) (by decide) (by decide)
theorem pPP : IsP PP :=
  pock2 (g := 2) (by decide) pN3 p3 (by decide +kernel) (m := 781764) (m' := 19298681539552699237261830834781317975544997444273427339909597334652188273316) (by decide) (by decide) 256 (by decide) (by decide) (by decide) (by decide +kernel) rfl rfl (by decide +kernel) (by decide +kernel) rfl (by decide) (by decide) (by decide) (by decide)
theorem inv_mul (a : Nat) (h0 : a ≠ 0) (h : a < PP) : a * (a ^ EE % PP) % PP = 1 := by
  have hn : ¬ PP ∣ a := fun hd => absurd (Nat.le_of_dvd (by omega) hd) (by omega)
  have := fermat pPP hn
  rw [show PP - 1 = EE + 1 by decide, Nat.pow_succ, Nat.mul_comm] at this
  rw [Nat.mul_mod, Nat.mod_mod, ← Nat.mul_mod]; exact this
theorem no_zero (a b : Nat) (h0 : a ≠ 0) (h : a < PP) (hb : b < PP) (hz : a * b % PP = 0) : b = 0 := by
  rcases pPP.euclid (dvd_of_mod hz) with h1 | h1
  · exact absurd (Nat.le_of_dvd (by omega) h1) (by omega)
  · rcases Nat.eq_zero_or_pos b with h2 | h2
    · exact h2
    · exact absurd (Nat.le_of_dvd h2 h1) (by omega)
end Go.Proofs.YthljakcegoohlabGreatDoor
namespace Go.Proofs.YthljakcegoohlabGreatDoor
abbrev F := Fin PP
theorem F_val_mul (a b : F) : (a * b).val = a.val * b.val % PP := Fin.val_mul a b
theorem F_eq {a b : F} (h : a.val = b.val) : a = b := Fin.ext h
theorem F_ne {a : F} (h : a ≠ 0) : a.val ≠ 0 := fun h0 => h (Fin.ext h0)
theorem F_noz {a b : F} (h : a * b = 0) : a = 0 ∨ b = 0 := by
  by_cases ha : a = 0
  · exact .inl ha
  · refine .inr (Fin.ext (no_zero a.val b.val (F_ne ha) a.isLt b.isLt ?_))
    have := congrArg Fin.val h
    rw [F_val_mul] at this
    exact this
theorem F_can {a b c : F} (ha : a ≠ 0) (h : a * b = a * c) : b = c := by
  have : a * (b - c) = 0 := by grind
  rcases F_noz this with h1 | h1
  · exact absurd h1 ha
  · grind
theorem F_mul_ne {a b : F} (ha : a ≠ 0) (hb : b ≠ 0) : a * b ≠ 0 := fun h => by
  rcases F_noz h with h1 | h1
  · exact ha h1
  · exact hb h1
def fpw (a : F) (n : Nat) : F := ⟨a.val ^ n % PP, Nat.mod_lt _ (by decide)⟩
def fiv (a : F) : F := fpw a EE
theorem iv_mul {a : F} (h : a ≠ 0) : a * fiv a = 1 := by
  apply F_eq
  rw [F_val_mul]
  exact inv_mul a.val (F_ne h) a.isLt
theorem pw_zero (n : Nat) (h : 0 < n) : fpw 0 n = 0 := by
  apply F_eq
  show 0 ^ n % PP = 0
  rw [Nat.zero_pow h]; rfl
theorem iv_zero : fiv 0 = 0 := pw_zero EE (by decide)
theorem sq_one {z : F} (h : z * z = 1) : z = 1 ∨ z = -1 := by
  have h2 : (z - 1) * (z + 1) = 0 := by grind
  rcases F_noz h2 with h3 | h3
  · left; grind
  · right; grind
theorem pw_add (a : F) (m n : Nat) : fpw a (m + n) = fpw a m * fpw a n := by
  apply F_eq
  rw [F_val_mul]
  show a.val ^ (m + n) % PP = (a.val ^ m % PP) * (a.val ^ n % PP) % PP
  rw [Nat.pow_add, Nat.mul_mod]
theorem pw_mul (a b : F) (n : Nat) : fpw (a * b) n = fpw a n * fpw b n := by
  apply F_eq
  rw [F_val_mul]
  show (a * b).val ^ n % PP = (a.val ^ n % PP) * (b.val ^ n % PP) % PP
  rw [F_val_mul, ← Nat.pow_mod, Nat.mul_pow, Nat.mul_mod]
theorem pw_one (a : F) : fpw a 1 = a := by
  apply F_eq
  show a.val ^ 1 % PP = a.val
  rw [Nat.pow_one]; exact Nat.mod_eq_of_lt a.isLt
theorem pw_pp {a : F} (h : a ≠ 0) : fpw a (PP - 1) = 1 := by
  apply F_eq
  show a.val ^ (PP - 1) % PP = 1
  refine fermat pPP fun hd => ?_
  have := F_ne h
  exact absurd (Nat.le_of_dvd (by omega) hd) (by have := a.isLt; omega)
abbrev HP : Nat := 28948022309329048855892746252171976963317496166410141009864396001978282409974
abbrev QP : Nat := 14474011154664524427946373126085988481658748083205070504932198000989141204987
abbrev EP : Nat := 7237005577332262213973186563042994240829374041602535252466099000494570602494
theorem pw_val (a : F) (n : Nat) (hn : n < 2 ^ 256) (c : F) (h : pm PP 256 a.val n = c.val) : fpw a n = c := by
  apply F_eq
  rw [pm_eq PP 256 a.val n hn] at h
  exact h
theorem twoHP : HP + HP = PP - 1 := by decide
theorem twoQP : QP + QP = HP := by decide
theorem twoEP : EP + EP = QP + 1 := by decide
theorem half {a : F} (h : a ≠ 0) : fpw a HP = 1 ∨ fpw a HP = -1 :=
  sq_one (by rw [← pw_add, twoHP]; exact pw_pp h)
theorem two_half : fpw 2 QP * fpw 2 QP = -1 := by
  rw [← pw_add, twoQP]
  exact pw_val 2 HP (by decide) (-1) (by decide +kernel)
theorem root_of {q e a t : F} (h : q * q = 1) (h3 : e * e = q * a) (ht : t * t = -1) : ∃ r, r * r = a := by
  rcases sq_one h with h4 | h4
  · exact ⟨e, by grind⟩
  · exact ⟨e * t, by grind⟩
theorem root {a : F} (h : fpw a HP = 1) : ∃ r, r * r = a :=
  root_of (q := fpw a QP) (e := fpw a EP) (t := fpw 2 QP) (by rw [← pw_add, twoQP]; exact h) (by rw [← pw_add, twoEP, pw_add, pw_one]) two_half
theorem sq_half {a : F} (h : a ≠ 0) : fpw (a * a) HP = 1 := by
  rw [pw_mul, ← pw_add, twoHP]; exact pw_pp h
def NoSq (D : F) : Prop := ∀ a b : F, D * (b * b) = a * a → b = 0
theorem noSq_of {D : F} (hD : fpw D HP = -1) : NoSq D := fun a b h => by
  by_cases hb : b = 0
  · exact hb
  · have h1 := congrArg (fun z => fpw z HP) h
    simp only [pw_mul D] at h1
    rw [hD, sq_half hb] at h1
    by_cases ha : a = 0
    · subst ha
      have hz : (0 : F) * 0 = 0 := by grind
      rw [hz] at h1
      rw [pw_zero HP (by decide)] at h1
      exact absurd h1 (by decide +kernel)
    · rw [sq_half ha] at h1
      exact absurd h1 (by decide +kernel)
end Go.Proofs.YthljakcegoohlabGreatDoor
namespace Go.Proofs.YthljakcegoohlabGreatDoor
set_option maxHeartbeats 4000000
theorem clo_id (D x1 y1 x2 y2 : F) : D*D*D*D*((x1*y2+y1*x2)*(x1*y2+y1*x2))*((y1*y2-x1*x2)*(y1*y2-x1*x2)) - D*(D*D*((x1*y2+y1*x2)*(x1*y2+y1*x2))*((D-x1*x2*y1*y2)*(D-x1*x2*y1*y2)) + D*D*((y1*y2-x1*x2)*(y1*y2-x1*x2))*((D+x1*x2*y1*y2)*(D+x1*x2*y1*y2)) - (D+x1*x2*y1*y2)*(D+x1*x2*y1*y2)*((D-x1*x2*y1*y2)*(D-x1*x2*y1*y2))) =
    (-2*(D*D*D*D)*(x2*x2*x2*x2)*(y2*y2) + (D*D*D*D)*(x2*x2*x2*x2) - 2*(D*D*D*D)*(x2*x2)*(y2*y2*y2*y2) + 4*(D*D*D*D)*(x2*x2)*(y2*y2) + (D*D*D*D)*(y2*y2*y2*y2) - (D*D*D)*(x1*x1)*(x2*x2*x2*x2)*(y2*y2) - (D*D*D)*(x1*x1)*(x2*x2)*(y2*y2*y2*y2) - (D*D*D)*(x2*x2*x2*x2)*(y1*y1)*(y2*y2) + 2*(D*D*D)*(x2*x2*x2*x2)*(y2*y2*y2*y2) - (D*D*D)*(x2*x2)*(y1*y1)*(y2*y2*y2*y2) - 2*(D*D*D)*(x2*x2)*(y2*y2) + (D*D)*(x1*x1)*(x2*x2*x2*x2)*(y2*y2*y2*y2) + (D*D)*(x2*x2*x2*x2)*(y1*y1)*(y2*y2*y2*y2) - (D*D)*(x2*x2*x2*x2)*(y2*y2*y2*y2) + D*(x1*x1)*(x2*x2*x2*x2)*(y1*y1)*(y2*y2*y2*y2)) * (x1*x1*(y1*y1) - D*(x1*x1+y1*y1-1)) +
    (2*(D*D*D*D)*(x1*x1)*(x2*x2)*(y2*y2) - (D*D*D*D)*(x1*x1)*(x2*x2) - (D*D*D*D)*(x1*x1)*(y2*y2) + 2*(D*D*D*D)*(x2*x2)*(y1*y1)*(y2*y2) - (D*D*D*D)*(x2*x2)*(y1*y1) - 2*(D*D*D*D)*(x2*x2)*(y2*y2) + (D*D*D*D)*(x2*x2) - (D*D*D*D)*(y1*y1)*(y2*y2) + (D*D*D*D)*(y2*y2) + (D*D*D*D) + (D*D*D)*(x1*x1*x1*x1)*(x2*x2)*(y2*y2) - 2*(D*D*D)*(x1*x1)*(x2*x2)*(y2*y2) + (D*D*D)*(x2*x2)*(y1*y1*y1*y1)*(y2*y2) - 2*(D*D*D)*(x2*x2)*(y1*y1)*(y2*y2) + (D*D*D)*(x2*x2)*(y2*y2)) * (x2*x2*(y2*y2) - D*(x2*x2+y2*y2-1)) := by grind
theorem assx_id (D x1 y1 x2 y2 x3 y3 : F) : ((x1*y2+y1*x2)*(D-x1*x2*y1*y2)*y3+(y1*y2-x1*x2)*(D+x1*x2*y1*y2)*x3)*((D+x2*x3*y2*y3)*(D-x2*x3*y2*y3)+D*(x2*y3+y2*x3)*(y2*y3-x2*x3)*x1*y1) - ((x2*y3+y2*x3)*(D-x2*x3*y2*y3)*y1+(y2*y3-x2*x3)*(D+x2*x3*y2*y3)*x1)*((D+x1*x2*y1*y2)*(D-x1*x2*y1*y2)+D*(x1*y2+y1*x2)*(y1*y2-x1*x2)*x3*y3) =
    (D*x1*(x2*x2*x2*x2)*(x3*x3)*y2*y3 + D*x1*(x2*x2*x2)*(x3*x3*x3)*(y2*y2) - D*x1*(x2*x2*x2)*x3*(y2*y2) - D*x1*(x2*x2)*(y2*y2*y2)*(y3*y3*y3) + D*x1*(x2*x2)*(y2*y2*y2)*y3 - D*x1*x2*x3*(y2*y2*y2*y2)*(y3*y3) + D*(x2*x2*x2*x2)*x3*y1*y2*(y3*y3) - D*(x2*x2*x2)*y1*(y2*y2)*(y3*y3*y3) + D*(x2*x2*x2)*y1*(y2*y2)*y3 - D*(x2*x2)*(x3*x3*x3)*y1*(y2*y2*y2) + D*(x2*x2)*x3*y1*(y2*y2*y2) + D*x2*(x3*x3)*y1*(y2*y2*y2*y2)*y3 - x1*(x2*x2*x2*x2)*(x3*x3)*(y2*y2*y2)*y3 + x1*(x2*x2*x2)*x3*(y2*y2*y2*y2)*(y3*y3) - (x2*x2*x2*x2)*x3*y1*(y2*y2*y2)*(y3*y3) - (x2*x2*x2)*(x3*x3)*y1*(y2*y2*y2*y2)*y3) * (x1*x1*(y1*y1) - D*(x1*x1+y1*y1-1)) +
    ((D*D)*(x1*x1*x1)*x2*(x3*x3*x3) + (D*D)*(x1*x1*x1)*x2*x3*(y3*y3) - (D*D)*(x1*x1*x1)*x2*x3 - (D*D)*(x1*x1*x1)*(x3*x3)*y2*y3 - (D*D)*(x1*x1*x1)*y2*(y3*y3*y3) + (D*D)*(x1*x1*x1)*y2*y3 - (D*D)*(x1*x1)*x2*(x3*x3)*y1*y3 - (D*D)*(x1*x1)*x2*y1*(y3*y3*y3) + (D*D)*(x1*x1)*x2*y1*y3 - (D*D)*(x1*x1)*(x3*x3*x3)*y1*y2 - (D*D)*(x1*x1)*x3*y1*y2*(y3*y3) + (D*D)*(x1*x1)*x3*y1*y2 + (D*D)*x1*x2*(x3*x3*x3)*(y1*y1) - (D*D)*x1*x2*(x3*x3*x3) + (D*D)*x1*x2*x3*(y1*y1)*(y3*y3) - (D*D)*x1*x2*x3*(y1*y1) - (D*D)*x1*x2*x3*(y3*y3) + (D*D)*x1*x2*x3 - (D*D)*x1*(x3*x3)*(y1*y1)*y2*y3 + (D*D)*x1*(x3*x3)*y2*y3 - (D*D)*x1*(y1*y1)*y2*(y3*y3*y3) + (D*D)*x1*(y1*y1)*y2*y3 + (D*D)*x1*y2*(y3*y3*y3) - (D*D)*x1*y2*y3 - (D*D)*x2*(x3*x3)*(y1*y1*y1)*y3 + (D*D)*x2*(x3*x3)*y1*y3 - (D*D)*x2*(y1*y1*y1)*(y3*y3*y3) + (D*D)*x2*(y1*y1*y1)*y3 + (D*D)*x2*y1*(y3*y3*y3) - (D*D)*x2*y1*y3 - (D*D)*(x3*x3*x3)*(y1*y1*y1)*y2 + (D*D)*(x3*x3*x3)*y1*y2 - (D*D)*x3*(y1*y1*y1)*y2*(y3*y3) + (D*D)*x3*(y1*y1*y1)*y2 + (D*D)*x3*y1*y2*(y3*y3) - (D*D)*x3*y1*y2 - D*(x1*x1*x1)*(x2*x2)*(x3*x3)*y2*y3 - D*(x1*x1*x1)*x2*(x3*x3*x3)*(y3*y3) + D*(x1*x1*x1)*x2*x3*(y2*y2)*(y3*y3) + D*(x1*x1*x1)*(x3*x3)*y2*(y3*y3*y3) - D*(x1*x1)*(x2*x2)*x3*y1*y2*(y3*y3) - D*(x1*x1)*x2*(x3*x3)*y1*(y2*y2)*y3 + D*(x1*x1)*x2*(x3*x3)*y1*(y3*y3*y3) + D*(x1*x1)*(x3*x3*x3)*y1*y2*(y3*y3) - D*x1*(x2*x2)*(x3*x3)*(y1*y1)*y2*y3 + D*x1*(x2*x2)*(x3*x3)*y2*y3 - D*x1*x2*(x3*x3*x3)*(y1*y1)*(y3*y3) + D*x1*x2*(x3*x3*x3)*(y3*y3) + D*x1*x2*x3*(y1*y1)*(y2*y2)*(y3*y3) - D*x1*x2*x3*(y2*y2)*(y3*y3) + D*x1*(x3*x3)*(y1*y1)*y2*(y3*y3*y3) - D*x1*(x3*x3)*y2*(y3*y3*y3) - D*(x2*x2)*x3*(y1*y1*y1)*y2*(y3*y3) + D*(x2*x2)*x3*y1*y2*(y3*y3) - D*x2*(x3*x3)*(y1*y1*y1)*(y2*y2)*y3 + D*x2*(x3*x3)*(y1*y1*y1)*(y3*y3*y3) + D*x2*(x3*x3)*y1*(y2*y2)*y3 - D*x2*(x3*x3)*y1*(y3*y3*y3) + D*(x3*x3*x3)*(y1*y1*y1)*y2*(y3*y3) - D*(x3*x3*x3)*y1*y2*(y3*y3) + (x1*x1)*(x2*x2)*(x3*x3*x3)*y1*y2*(y3*y3) + (x1*x1)*x2*(x3*x3)*y1*(y2*y2)*(y3*y3*y3) + x1*(x2*x2)*(x3*x3)*(y1*y1)*y2*(y3*y3*y3) - x1*x2*(x3*x3*x3)*(y1*y1)*(y2*y2)*(y3*y3)) * (x2*x2*(y2*y2) - D*(x2*x2+y2*y2-1)) +
    (-(D*D)*(x1*x1*x1)*(x2*x2*x2)*x3 + (D*D)*(x1*x1*x1)*(x2*x2)*y2*y3 - (D*D)*(x1*x1*x1)*x2*x3*(y2*y2) + (D*D)*(x1*x1*x1)*x2*x3 + (D*D)*(x1*x1*x1)*(y2*y2*y2)*y3 - (D*D)*(x1*x1*x1)*y2*y3 + (D*D)*(x1*x1)*(x2*x2*x2)*y1*y3 + (D*D)*(x1*x1)*(x2*x2)*x3*y1*y2 + (D*D)*(x1*x1)*x2*y1*(y2*y2)*y3 - (D*D)*(x1*x1)*x2*y1*y3 + (D*D)*(x1*x1)*x3*y1*(y2*y2*y2) - (D*D)*(x1*x1)*x3*y1*y2 - (D*D)*x1*(x2*x2*x2)*x3*(y1*y1) + (D*D)*x1*(x2*x2*x2)*x3 + (D*D)*x1*(x2*x2)*(y1*y1)*y2*y3 - (D*D)*x1*(x2*x2)*y2*y3 - (D*D)*x1*x2*x3*(y1*y1)*(y2*y2) + (D*D)*x1*x2*x3*(y1*y1) + (D*D)*x1*x2*x3*(y2*y2) - (D*D)*x1*x2*x3 + (D*D)*x1*(y1*y1)*(y2*y2*y2)*y3 - (D*D)*x1*(y1*y1)*y2*y3 - (D*D)*x1*(y2*y2*y2)*y3 + (D*D)*x1*y2*y3 + (D*D)*(x2*x2*x2)*(y1*y1*y1)*y3 - (D*D)*(x2*x2*x2)*y1*y3 + (D*D)*(x2*x2)*x3*(y1*y1*y1)*y2 - (D*D)*(x2*x2)*x3*y1*y2 + (D*D)*x2*(y1*y1*y1)*(y2*y2)*y3 - (D*D)*x2*(y1*y1*y1)*y3 - (D*D)*x2*y1*(y2*y2)*y3 + (D*D)*x2*y1*y3 + (D*D)*x3*(y1*y1*y1)*(y2*y2*y2) - (D*D)*x3*(y1*y1*y1)*y2 - (D*D)*x3*y1*(y2*y2*y2) + (D*D)*x3*y1*y2 - D*(x1*x1)*(x2*x2)*x3*y1*y2 - D*(x1*x1)*x2*y1*(y2*y2)*y3 - D*x1*(x2*x2)*(y1*y1)*y2*y3 + D*x1*x2*x3*(y1*y1)*(y2*y2)) * (x3*x3*(y3*y3) - D*(x3*x3+y3*y3-1)) := by grind
theorem assy_id (D x1 y1 x2 y2 x3 y3 : F) : ((y1*y2-x1*x2)*(D+x1*x2*y1*y2)*y3-(x1*y2+y1*x2)*(D-x1*x2*y1*y2)*x3)*((D+x2*x3*y2*y3)*(D-x2*x3*y2*y3)-D*(x2*y3+y2*x3)*(y2*y3-x2*x3)*x1*y1) - ((y2*y3-x2*x3)*(D+x2*x3*y2*y3)*y1-(x2*y3+y2*x3)*(D-x2*x3*y2*y3)*x1)*((D+x1*x2*y1*y2)*(D-x1*x2*y1*y2)-D*(x1*y2+y1*x2)*(y1*y2-x1*x2)*x3*y3) =
    (-D*x1*(x2*x2*x2*x2)*x3*y2*(y3*y3) + D*x1*(x2*x2*x2)*(y2*y2)*(y3*y3*y3) - D*x1*(x2*x2*x2)*(y2*y2)*y3 + D*x1*(x2*x2)*(x3*x3*x3)*(y2*y2*y2) - D*x1*(x2*x2)*x3*(y2*y2*y2) - D*x1*x2*(x3*x3)*(y2*y2*y2*y2)*y3 + D*(x2*x2*x2*x2)*(x3*x3)*y1*y2*y3 + D*(x2*x2*x2)*(x3*x3*x3)*y1*(y2*y2) - D*(x2*x2*x2)*x3*y1*(y2*y2) - D*(x2*x2)*y1*(y2*y2*y2)*(y3*y3*y3) + D*(x2*x2)*y1*(y2*y2*y2)*y3 - D*x2*x3*y1*(y2*y2*y2*y2)*(y3*y3) + x1*(x2*x2*x2*x2)*x3*(y2*y2*y2)*(y3*y3) + x1*(x2*x2*x2)*(x3*x3)*(y2*y2*y2*y2)*y3 - (x2*x2*x2*x2)*(x3*x3)*y1*(y2*y2*y2)*y3 + (x2*x2*x2)*x3*y1*(y2*y2*y2*y2)*(y3*y3)) * (x1*x1*(y1*y1) - D*(x1*x1+y1*y1-1)) +
    ((D*D)*(x1*x1*x1)*x2*(x3*x3)*y3 + (D*D)*(x1*x1*x1)*x2*(y3*y3*y3) - (D*D)*(x1*x1*x1)*x2*y3 + (D*D)*(x1*x1*x1)*(x3*x3*x3)*y2 + (D*D)*(x1*x1*x1)*x3*y2*(y3*y3) - (D*D)*(x1*x1*x1)*x3*y2 + (D*D)*(x1*x1)*x2*(x3*x3*x3)*y1 + (D*D)*(x1*x1)*x2*x3*y1*(y3*y3) - (D*D)*(x1*x1)*x2*x3*y1 - (D*D)*(x1*x1)*(x3*x3)*y1*y2*y3 - (D*D)*(x1*x1)*y1*y2*(y3*y3*y3) + (D*D)*(x1*x1)*y1*y2*y3 + (D*D)*x1*x2*(x3*x3)*(y1*y1)*y3 - (D*D)*x1*x2*(x3*x3)*y3 + (D*D)*x1*x2*(y1*y1)*(y3*y3*y3) - (D*D)*x1*x2*(y1*y1)*y3 - (D*D)*x1*x2*(y3*y3*y3) + (D*D)*x1*x2*y3 + (D*D)*x1*(x3*x3*x3)*(y1*y1)*y2 - (D*D)*x1*(x3*x3*x3)*y2 + (D*D)*x1*x3*(y1*y1)*y2*(y3*y3) - (D*D)*x1*x3*(y1*y1)*y2 - (D*D)*x1*x3*y2*(y3*y3) + (D*D)*x1*x3*y2 + (D*D)*x2*(x3*x3*x3)*(y1*y1*y1) - (D*D)*x2*(x3*x3*x3)*y1 + (D*D)*x2*x3*(y1*y1*y1)*(y3*y3) - (D*D)*x2*x3*(y1*y1*y1) - (D*D)*x2*x3*y1*(y3*y3) + (D*D)*x2*x3*y1 - (D*D)*(x3*x3)*(y1*y1*y1)*y2*y3 + (D*D)*(x3*x3)*y1*y2*y3 - (D*D)*(y1*y1*y1)*y2*(y3*y3*y3) + (D*D)*(y1*y1*y1)*y2*y3 + (D*D)*y1*y2*(y3*y3*y3) - (D*D)*y1*y2*y3 + D*(x1*x1*x1)*(x2*x2)*x3*y2*(y3*y3) + D*(x1*x1*x1)*x2*(x3*x3)*(y2*y2)*y3 - D*(x1*x1*x1)*x2*(x3*x3)*(y3*y3*y3) - D*(x1*x1*x1)*(x3*x3*x3)*y2*(y3*y3) - D*(x1*x1)*(x2*x2)*(x3*x3)*y1*y2*y3 - D*(x1*x1)*x2*(x3*x3*x3)*y1*(y3*y3) + D*(x1*x1)*x2*x3*y1*(y2*y2)*(y3*y3) + D*(x1*x1)*(x3*x3)*y1*y2*(y3*y3*y3) + D*x1*(x2*x2)*x3*(y1*y1)*y2*(y3*y3) - D*x1*(x2*x2)*x3*y2*(y3*y3) + D*x1*x2*(x3*x3)*(y1*y1)*(y2*y2)*y3 - D*x1*x2*(x3*x3)*(y1*y1)*(y3*y3*y3) - D*x1*x2*(x3*x3)*(y2*y2)*y3 + D*x1*x2*(x3*x3)*(y3*y3*y3) - D*x1*(x3*x3*x3)*(y1*y1)*y2*(y3*y3) + D*x1*(x3*x3*x3)*y2*(y3*y3) - D*(x2*x2)*(x3*x3)*(y1*y1*y1)*y2*y3 + D*(x2*x2)*(x3*x3)*y1*y2*y3 - D*x2*(x3*x3*x3)*(y1*y1*y1)*(y3*y3) + D*x2*(x3*x3*x3)*y1*(y3*y3) + D*x2*x3*(y1*y1*y1)*(y2*y2)*(y3*y3) - D*x2*x3*y1*(y2*y2)*(y3*y3) + D*(x3*x3)*(y1*y1*y1)*y2*(y3*y3*y3) - D*(x3*x3)*y1*y2*(y3*y3*y3) + (x1*x1)*(x2*x2)*(x3*x3)*y1*y2*(y3*y3*y3) - (x1*x1)*x2*(x3*x3*x3)*y1*(y2*y2)*(y3*y3) - x1*(x2*x2)*(x3*x3*x3)*(y1*y1)*y2*(y3*y3) - x1*x2*(x3*x3)*(y1*y1)*(y2*y2)*(y3*y3*y3)) * (x2*x2*(y2*y2) - D*(x2*x2+y2*y2-1)) +
    (-(D*D)*(x1*x1*x1)*(x2*x2*x2)*y3 - (D*D)*(x1*x1*x1)*(x2*x2)*x3*y2 - (D*D)*(x1*x1*x1)*x2*(y2*y2)*y3 + (D*D)*(x1*x1*x1)*x2*y3 - (D*D)*(x1*x1*x1)*x3*(y2*y2*y2) + (D*D)*(x1*x1*x1)*x3*y2 - (D*D)*(x1*x1)*(x2*x2*x2)*x3*y1 + (D*D)*(x1*x1)*(x2*x2)*y1*y2*y3 - (D*D)*(x1*x1)*x2*x3*y1*(y2*y2) + (D*D)*(x1*x1)*x2*x3*y1 + (D*D)*(x1*x1)*y1*(y2*y2*y2)*y3 - (D*D)*(x1*x1)*y1*y2*y3 - (D*D)*x1*(x2*x2*x2)*(y1*y1)*y3 + (D*D)*x1*(x2*x2*x2)*y3 - (D*D)*x1*(x2*x2)*x3*(y1*y1)*y2 + (D*D)*x1*(x2*x2)*x3*y2 - (D*D)*x1*x2*(y1*y1)*(y2*y2)*y3 + (D*D)*x1*x2*(y1*y1)*y3 + (D*D)*x1*x2*(y2*y2)*y3 - (D*D)*x1*x2*y3 - (D*D)*x1*x3*(y1*y1)*(y2*y2*y2) + (D*D)*x1*x3*(y1*y1)*y2 + (D*D)*x1*x3*(y2*y2*y2) - (D*D)*x1*x3*y2 - (D*D)*(x2*x2*x2)*x3*(y1*y1*y1) + (D*D)*(x2*x2*x2)*x3*y1 + (D*D)*(x2*x2)*(y1*y1*y1)*y2*y3 - (D*D)*(x2*x2)*y1*y2*y3 - (D*D)*x2*x3*(y1*y1*y1)*(y2*y2) + (D*D)*x2*x3*(y1*y1*y1) + (D*D)*x2*x3*y1*(y2*y2) - (D*D)*x2*x3*y1 + (D*D)*(y1*y1*y1)*(y2*y2*y2)*y3 - (D*D)*(y1*y1*y1)*y2*y3 - (D*D)*y1*(y2*y2*y2)*y3 + (D*D)*y1*y2*y3 - D*(x1*x1)*(x2*x2)*y1*y2*y3 + D*(x1*x1)*x2*x3*y1*(y2*y2) + D*x1*(x2*x2)*x3*(y1*y1)*y2 + D*x1*x2*(y1*y1)*(y2*y2)*y3) * (x3*x3*(y3*y3) - D*(x3*x3+y3*y3-1)) := by grind
end Go.Proofs.YthljakcegoohlabGreatDoor
namespace Go.Proofs.YthljakcegoohlabGreatDoor
set_option maxHeartbeats 1000000
abbrev Pt := F × F
def EdOn (D : F) (P : Pt) : Prop := P.1 * P.1 * (P.2 * P.2) = D * (P.1 * P.1 + P.2 * P.2 - 1)
def edAdd (D : F) (P Q : Pt) : Pt := (D * (P.1 * Q.2 + P.2 * Q.1) * fiv (D + P.1 * Q.1 * P.2 * Q.2), D * (P.2 * Q.2 - P.1 * Q.1) * fiv (D - P.1 * Q.1 * P.2 * Q.2))
def edO : Pt := (0, 1)
def edNeg (P : Pt) : Pt := (-P.1, P.2)
theorem two_ne : (2 : F) ≠ 0 := by decide +kernel
theorem one_ne : (1 : F) ≠ 0 := by decide +kernel
theorem NoSq.ne {D : F} (h : NoSq D) : D ≠ 0 := fun h0 => by
  have := h 0 1 (by rw [h0]; grind)
  exact one_ne this
theorem comp_cut {D x1 y1 x2 y2 e : F} (h0 : D ≠ 0) (he : e * e = 1) (e2 : x2 * x2 * (y2 * y2) = D * (x2 * x2 + y2 * y2 - 1)) (hk : x1 * x2 * y1 * y2 = e * D) : x1 * x1 * (y1 * y1) * (x2 * x2 + y2 * y2 - 1) = D := by
  apply F_can h0
  have h1 : D * (x1 * x1 * (y1 * y1) * (x2 * x2 + y2 * y2 - 1)) = (x1 * x2 * y1 * y2) * (x1 * x2 * y1 * y2) := by
    have : D * (x1 * x1 * (y1 * y1) * (x2 * x2 + y2 * y2 - 1)) = x1 * x1 * (y1 * y1) * (D * (x2 * x2 + y2 * y2 - 1)) := by grind
    rw [this, ← e2]; grind
  rw [h1, hk]
  have : e * D * (e * D) = e * e * (D * D) := by grind
  rw [this, he]; grind
theorem comp_sq {D x1 y1 x2 y2 e : F} (he : e * e = 1) (e1 : x1 * x1 * (y1 * y1) = D * (x1 * x1 + y1 * y1 - 1)) (hc : x1 * x1 * (y1 * y1) * (x2 * x2 + y2 * y2 - 1) = D) (hk : x1 * x2 * y1 * y2 = e * D) :
    D * ((x1 + e * y1) * (x1 + e * y1)) = (x1 * y1 * (x2 + y2)) * (x1 * y1 * (x2 + y2)) := by
  have h1 : (x1 * y1 * (x2 + y2)) * (x1 * y1 * (x2 + y2)) = x1 * x1 * (y1 * y1) * (x2 * x2 + y2 * y2 - 1) + x1 * x1 * (y1 * y1) + 2 * (x1 * y1) * (x1 * x2 * y1 * y2) := by grind
  rw [h1, hc, e1, hk]
  have h2 : D * ((x1 + e * y1) * (x1 + e * y1)) = D * (x1 * x1 + 2 * e * (x1 * y1) + e * e * (y1 * y1)) := by grind
  rw [h2, he]; grind
theorem comp {D x1 y1 x2 y2 e : F} (hD : NoSq D) (he : e * e = 1) (e1 : x1 * x1 * (y1 * y1) = D * (x1 * x1 + y1 * y1 - 1)) (e2 : x2 * x2 * (y2 * y2) = D * (x2 * x2 + y2 * y2 - 1)) (hk : x1 * x2 * y1 * y2 = e * D) : False := by
  have hc := comp_cut hD.ne he e2 hk
  have h1 := hD _ _ (comp_sq he e1 hc hk)
  have hk' : x1 * (-x2) * y1 * y2 = (-e) * D := by grind
  have hc' : x1 * x1 * (y1 * y1) * ((-x2) * (-x2) + y2 * y2 - 1) = D := by rw [← hc]; grind
  have h2 := hD _ _ (comp_sq (e := -e) (x2 := -x2) (by rw [← he]; grind) e1 hc' hk')
  have h3 : 2 * x1 = 0 := by grind
  rcases F_noz h3 with h4 | h4
  · exact two_ne h4
  · rw [h4] at hk
    have h5 : e * (e * D) = 0 := by rw [← hk]; grind
    have h6 : e * (e * D) = e * e * D := by grind
    rw [h6, he] at h5
    exact hD.ne (by rw [← h5]; grind)
theorem den_p {D : F} {P Q : Pt} (hD : NoSq D) (hP : EdOn D P) (hQ : EdOn D Q) : D + P.1 * Q.1 * P.2 * Q.2 ≠ 0 := fun h =>
  comp (e := -1) hD (by grind) hP hQ (by grind)
theorem den_m {D : F} {P Q : Pt} (hD : NoSq D) (hP : EdOn D P) (hQ : EdOn D Q) : D - P.1 * Q.1 * P.2 * Q.2 ≠ 0 := fun h =>
  comp (e := 1) hD (by grind) hP hQ (by grind)
theorem clo_gen {D nx ny a b ia ib : F} (h : D*D*D*D*(nx*nx)*(ny*ny) - D*(D*D*(nx*nx)*(b*b) + D*D*(ny*ny)*(a*a) - a*a*(b*b)) = 0) (ha : a*ia = 1) (hb : b*ib = 1) :
    (D*nx*ia)*(D*nx*ia)*((D*ny*ib)*(D*ny*ib)) = D*((D*nx*ia)*(D*nx*ia) + (D*ny*ib)*(D*ny*ib) - 1) := by
  have h1 : (D*nx*ia)*(D*nx*ia)*((D*ny*ib)*(D*ny*ib)) - D*((D*nx*ia)*(D*nx*ia)*((b*ib)*(b*ib)) + (D*ny*ib)*(D*ny*ib)*((a*ia)*(a*ia)) - (a*ia)*(a*ia)*((b*ib)*(b*ib))) = (D*D*D*D*(nx*nx)*(ny*ny) - D*(D*D*(nx*nx)*(b*b) + D*D*(ny*ny)*(a*a) - a*a*(b*b))) * (ia*ia*(ib*ib)) := by grind
  rw [h, ha, hb] at h1
  grind
theorem edOn_zero {D x y : F} (h : x * x * (y * y) = D * (x * x + y * y - 1)) : x * x * (y * y) - D * (x * x + y * y - 1) = 0 := by rw [h]; grind
theorem edAdd_on {D : F} {P Q : Pt} (hD : NoSq D) (hP : EdOn D P) (hQ : EdOn D Q) : EdOn D (edAdd D P Q) := by
  have h := clo_id D P.1 P.2 Q.1 Q.2
  rw [edOn_zero hP, edOn_zero hQ] at h
  refine clo_gen (h.trans (by grind)) (iv_mul (den_p hD hP hQ)) (iv_mul (den_m hD hP hQ))
theorem edAdd_comm (D : F) (P Q : Pt) : edAdd D P Q = edAdd D Q P := by
  unfold edAdd
  rw [show P.1 * Q.1 * P.2 * Q.2 = Q.1 * P.1 * Q.2 * P.2 by grind, show P.1 * Q.2 + P.2 * Q.1 = Q.1 * P.2 + Q.2 * P.1 by grind, show P.2 * Q.2 - P.1 * Q.1 = Q.2 * P.2 - Q.1 * P.1 by grind]
theorem half_x {D nx ny a b ia ib x y ic : F} (h0 : D ≠ 0) (ha : a * ia = 1) (hb : b * ib = 1) (hc : (D + D*nx*ia*x*(D*ny*ib)*y) * ic = 1) :
    (D * (D*nx*ia*y + D*ny*ib*x) * ic) * (a*b + D*nx*ny*x*y) = D * (nx*b*y + ny*a*x) := by
  have h1 : D * (a*b + D*nx*ny*x*y) = a * b * (D + D*nx*ia*x*(D*ny*ib)*y) := by
    have : a * b * (D + D*nx*ia*x*(D*ny*ib)*y) = a * b * D + D*nx*(a*ia)*x*(D*ny*(b*ib))*y := by grind
    rw [this, ha, hb]; grind
  apply F_can h0
  have h2 : D * ((D * (D*nx*ia*y + D*ny*ib*x) * ic) * (a*b + D*nx*ny*x*y)) = (D * (D*nx*ia*y + D*ny*ib*x) * ic) * (D * (a*b + D*nx*ny*x*y)) := by grind
  have h3 : (D * (D*nx*ia*y + D*ny*ib*x) * ic) * (a * b * (D + D*nx*ia*x*(D*ny*ib)*y)) = D * (D*nx*(a*ia)*b*y + D*ny*(b*ib)*a*x) * ((D + D*nx*ia*x*(D*ny*ib)*y) * ic) := by grind
  rw [h2, h1, h3, ha, hb, hc]; grind
theorem half_y {D nx ny a b ia ib x y ic : F} (h0 : D ≠ 0) (ha : a * ia = 1) (hb : b * ib = 1) (hc : (D - D*nx*ia*x*(D*ny*ib)*y) * ic = 1) :
    (D * (D*ny*ib*y - D*nx*ia*x) * ic) * (a*b - D*nx*ny*x*y) = D * (ny*a*y - nx*b*x) := by
  have h1 : D * (a*b - D*nx*ny*x*y) = a * b * (D - D*nx*ia*x*(D*ny*ib)*y) := by
    have : a * b * (D - D*nx*ia*x*(D*ny*ib)*y) = a * b * D - D*nx*(a*ia)*x*(D*ny*(b*ib))*y := by grind
    rw [this, ha, hb]; grind
  apply F_can h0
  have h2 : D * ((D * (D*ny*ib*y - D*nx*ia*x) * ic) * (a*b - D*nx*ny*x*y)) = (D * (D*ny*ib*y - D*nx*ia*x) * ic) * (D * (a*b - D*nx*ny*x*y)) := by grind
  have h3 : (D * (D*ny*ib*y - D*nx*ia*x) * ic) * (a * b * (D - D*nx*ia*x*(D*ny*ib)*y)) = D * (D*ny*(b*ib)*a*y - D*nx*(a*ia)*b*x) * ((D - D*nx*ia*x*(D*ny*ib)*y) * ic) := by grind
  rw [h2, h1, h3, ha, hb, hc]; grind
theorem half_np {D nx ny a b ia ib x y : F} (ha0 : a ≠ 0) (hb0 : b ≠ 0) (ha : a * ia = 1) (hb : b * ib = 1) (hc : D + D*nx*ia*x*(D*ny*ib)*y ≠ 0) : a*b + D*nx*ny*x*y ≠ 0 := fun h => by
  have h1 : D * (a*b + D*nx*ny*x*y) = a * b * (D + D*nx*ia*x*(D*ny*ib)*y) := by
    have : a * b * (D + D*nx*ia*x*(D*ny*ib)*y) = a * b * D + D*nx*(a*ia)*x*(D*ny*(b*ib))*y := by grind
    rw [this, ha, hb]; grind
  rw [h] at h1
  have h2 : a * b * (D + D*nx*ia*x*(D*ny*ib)*y) = 0 := by rw [← h1]; grind
  rcases F_noz h2 with h3 | h3
  · exact F_mul_ne ha0 hb0 h3
  · exact hc h3
theorem half_nm {D nx ny a b ia ib x y : F} (ha0 : a ≠ 0) (hb0 : b ≠ 0) (ha : a * ia = 1) (hb : b * ib = 1) (hc : D - D*nx*ia*x*(D*ny*ib)*y ≠ 0) : a*b - D*nx*ny*x*y ≠ 0 := fun h => by
  have h1 : D * (a*b - D*nx*ny*x*y) = a * b * (D - D*nx*ia*x*(D*ny*ib)*y) := by
    have : a * b * (D - D*nx*ia*x*(D*ny*ib)*y) = a * b * D - D*nx*(a*ia)*x*(D*ny*(b*ib))*y := by grind
    rw [this, ha, hb]; grind
  rw [h] at h1
  have h2 : a * b * (D - D*nx*ia*x*(D*ny*ib)*y) = 0 := by rw [← h1]; grind
  rcases F_noz h2 with h3 | h3
  · exact F_mul_ne ha0 hb0 h3
  · exact hc h3
theorem cross {T T' d1 d2 n1 n2 D : F} (h1 : T * d1 = D * n1) (h2 : T' * d2 = D * n2) (hd1 : d1 ≠ 0) (hd2 : d2 ≠ 0) (h : n1 * d2 - n2 * d1 = 0) : T = T' := by
  apply F_can (F_mul_ne hd1 hd2)
  have e1 : d1 * d2 * T = T * d1 * d2 := by grind
  have e2 : d1 * d2 * T' = T' * d2 * d1 := by grind
  rw [e1, e2, h1, h2]
  have e3 : D * n1 * d2 - D * n2 * d1 = D * (n1 * d2 - n2 * d1) := by grind
  rw [h] at e3
  grind
theorem ne_of_one {a b : F} (h : a * b = 1) : a ≠ 0 := fun h0 => by
  rw [h0] at h
  exact one_ne (by rw [← h]; grind)
theorem zeros3 (a b c : F) : a * 0 + b * 0 + c * 0 = 0 := by grind
theorem ass_x {D x1 y1 x2 y2 x3 y3 ia ib ic ja jb jc : F} (h0 : D ≠ 0) (e1 : x1*x1*(y1*y1) = D*(x1*x1+y1*y1-1)) (e2 : x2*x2*(y2*y2) = D*(x2*x2+y2*y2-1)) (e3 : x3*x3*(y3*y3) = D*(x3*x3+y3*y3-1))
    (a1 : (D+x1*x2*y1*y2)*ia = 1) (a2 : (D-x1*x2*y1*y2)*ib = 1) (b1 : (D+x2*x3*y2*y3)*ja = 1) (b2 : (D-x2*x3*y2*y3)*jb = 1) (c1 : (D + D*(x1*y2+y1*x2)*ia*x3*(D*(y1*y2-x1*x2)*ib)*y3)*ic = 1) (c2 : (D + D*(x2*y3+y2*x3)*ja*x1*(D*(y2*y3-x2*x3)*jb)*y1)*jc = 1) :
    D*(D*(x1*y2+y1*x2)*ia*y3 + D*(y1*y2-x1*x2)*ib*x3)*ic = D*(D*(x2*y3+y2*x3)*ja*y1 + D*(y2*y3-x2*x3)*jb*x1)*jc := by
  have hx := assx_id D x1 y1 x2 y2 x3 y3
  rw [edOn_zero e1, edOn_zero e2, edOn_zero e3] at hx
  exact cross (half_x h0 a1 a2 c1) (half_x h0 b1 b2 c2) (half_np (ne_of_one a1) (ne_of_one a2) a1 a2 (ne_of_one c1)) (half_np (ne_of_one b1) (ne_of_one b2) b1 b2 (ne_of_one c2)) (hx.trans (zeros3 _ _ _))
theorem ass_y {D x1 y1 x2 y2 x3 y3 ia ib ic ja jb jc : F} (h0 : D ≠ 0) (e1 : x1*x1*(y1*y1) = D*(x1*x1+y1*y1-1)) (e2 : x2*x2*(y2*y2) = D*(x2*x2+y2*y2-1)) (e3 : x3*x3*(y3*y3) = D*(x3*x3+y3*y3-1))
    (a1 : (D+x1*x2*y1*y2)*ia = 1) (a2 : (D-x1*x2*y1*y2)*ib = 1) (b1 : (D+x2*x3*y2*y3)*ja = 1) (b2 : (D-x2*x3*y2*y3)*jb = 1) (c1 : (D - D*(x1*y2+y1*x2)*ia*x3*(D*(y1*y2-x1*x2)*ib)*y3)*ic = 1) (c2 : (D - D*(x2*y3+y2*x3)*ja*x1*(D*(y2*y3-x2*x3)*jb)*y1)*jc = 1) :
    D*(D*(y1*y2-x1*x2)*ib*y3 - D*(x1*y2+y1*x2)*ia*x3)*ic = D*(D*(y2*y3-x2*x3)*jb*y1 - D*(x2*y3+y2*x3)*ja*x1)*jc := by
  have hx := assy_id D x1 y1 x2 y2 x3 y3
  rw [edOn_zero e1, edOn_zero e2, edOn_zero e3] at hx
  exact cross (half_y h0 a1 a2 c1) (half_y h0 b1 b2 c2) (half_nm (ne_of_one a1) (ne_of_one a2) a1 a2 (ne_of_one c1)) (half_nm (ne_of_one b1) (ne_of_one b2) b1 b2 (ne_of_one c2)) (hx.trans (zeros3 _ _ _))
theorem edAdd_assoc {D : F} {P Q R : Pt} (hD : NoSq D) (hP : EdOn D P) (hQ : EdOn D Q) (hR : EdOn D R) : edAdd D (edAdd D P Q) R = edAdd D P (edAdd D Q R) := by
  rw [edAdd_comm D P (edAdd D Q R)]
  have hS := edAdd_on hD hP hQ
  have hS' := edAdd_on hD hQ hR
  have a1 := iv_mul (den_p hD hP hQ)
  have a2 := iv_mul (den_m hD hP hQ)
  have b1 := iv_mul (den_p hD hQ hR)
  have b2 := iv_mul (den_m hD hQ hR)
  have c1 := iv_mul (den_p hD hS hR)
  have c2 := iv_mul (den_p hD hS' hP)
  have d1 := iv_mul (den_m hD hS hR)
  have d2 := iv_mul (den_m hD hS' hP)
  obtain ⟨x1, y1⟩ := P
  obtain ⟨x2, y2⟩ := Q
  obtain ⟨x3, y3⟩ := R
  simp only [EdOn] at hP hQ hR
  simp only [edAdd] at a1 a2 b1 b2 c1 c2 d1 d2 ⊢
  exact Prod.ext (ass_x hD.ne hP hQ hR a1 a2 b1 b2 c1 c2) (ass_y hD.ne hP hQ hR a1 a2 b1 b2 d1 d2)
theorem neg_id {D x y : F} (h : x * x * (y * y) = D * (x * x + y * y - 1)) : D * (y * y - x * -x) = D - x * -x * y * y := by grind
theorem edO_on (D : F) : EdOn D edO := by unfold EdOn edO; grind
theorem edNeg_on {D : F} {P : Pt} (h : EdOn D P) : EdOn D (edNeg P) := by unfold EdOn edNeg at *; grind
theorem edAdd_O {D : F} (h0 : D ≠ 0) (P : Pt) : edAdd D P edO = P := by
  have := iv_mul h0
  apply Prod.ext
  · show D * (P.1 * 1 + P.2 * 0) * fiv (D + P.1 * 0 * P.2 * 1) = P.1
    rw [show D + P.1 * 0 * P.2 * 1 = D by grind]; grind
  · show D * (P.2 * 1 - P.1 * 0) * fiv (D - P.1 * 0 * P.2 * 1) = P.2
    rw [show D - P.1 * 0 * P.2 * 1 = D by grind]; grind
theorem edAdd_neg {D : F} {P : Pt} (hD : NoSq D) (h : EdOn D P) : edAdd D P (edNeg P) = edO := by
  have h1 := iv_mul (den_m hD h (edNeg_on h))
  apply Prod.ext
  · show D * (P.1 * P.2 + P.2 * -P.1) * _ = 0
    grind
  · have h1' : (D - P.1 * -P.1 * P.2 * P.2) * fiv (D - P.1 * -P.1 * P.2 * P.2) = 1 := h1
    show D * (P.2 * P.2 - P.1 * -P.1) * fiv (D - P.1 * -P.1 * P.2 * P.2) = 1
    have e : D * (P.2 * P.2 - P.1 * -P.1) = D - P.1 * -P.1 * P.2 * P.2 := neg_id h
    rw [e]; exact h1'
def edMul (D : F) : Nat → Pt → Pt
  | 0, _ => edO
  | n + 1, P => edAdd D (edMul D n P) P
theorem edMul_on {D : F} {P : Pt} (hD : NoSq D) (h : EdOn D P) : ∀ n, EdOn D (edMul D n P)
  | 0 => edO_on D
  | n + 1 => edAdd_on hD (edMul_on hD h n) h
theorem edMul_add {D : F} {P : Pt} (hD : NoSq D) (h : EdOn D P) (a : Nat) : ∀ b, edMul D (a + b) P = edAdd D (edMul D a P) (edMul D b P)
  | 0 => (edAdd_O hD.ne _).symm
  | b + 1 => by
    show edAdd D (edMul D (a + b) P) P = edAdd D (edMul D a P) (edAdd D (edMul D b P) P)
    rw [edMul_add hD h a b, edAdd_assoc hD (edMul_on hD h a) (edMul_on hD h b) h]
theorem edMul_mul {D : F} {P : Pt} (hD : NoSq D) (h : EdOn D P) (b : Nat) : ∀ a, edMul D (a * b) P = edMul D a (edMul D b P)
  | 0 => by rw [Nat.zero_mul]; rfl
  | a + 1 => by
    rw [Nat.succ_mul, edMul_add hD h, edMul_mul hD h b a]; rfl
theorem edMul_one {D : F} (h0 : D ≠ 0) (P : Pt) : edMul D 1 P = P := by
  show edAdd D edO P = P
  rw [edAdd_comm]; exact edAdd_O h0 P
theorem edSub {D : F} {P Q : Pt} (hD : NoSq D) (hP : EdOn D P) (hQ : EdOn D Q) : edAdd D (edAdd D Q P) (edNeg Q) = P := by
  rw [edAdd_comm D Q P, edAdd_assoc hD hP hQ (edNeg_on hQ), edAdd_neg hD hQ, edAdd_O hD.ne]
end Go.Proofs.YthljakcegoohlabGreatDoor
namespace Go.Proofs.YthljakcegoohlabGreatDoor
set_option maxHeartbeats 1000000
def FRep (p : Pt) (P : Pt) : Prop := p.1 + p.2 ≠ 0 ∧ p.1 - p.2 = (p.1 + p.2) * P.2
def mDbl (g : F) (p : Pt) : Pt :=
  ((p.1 + p.2) * (p.1 + p.2) * ((p.1 - p.2) * (p.1 - p.2)),
   ((p.1 + p.2) * (p.1 + p.2) - (p.1 - p.2) * (p.1 - p.2)) * ((p.1 - p.2) * (p.1 - p.2) + g * ((p.1 + p.2) * (p.1 + p.2) - (p.1 - p.2) * (p.1 - p.2))))
def mWith (u : F) (p q : Pt) : Pt :=
  (((p.1 - p.2) * (q.1 + q.2) + (p.1 + p.2) * (q.1 - q.2)) * ((p.1 - p.2) * (q.1 + q.2) + (p.1 + p.2) * (q.1 - q.2)),
   u * (((p.1 - p.2) * (q.1 + q.2) - (p.1 + p.2) * (q.1 - q.2)) * ((p.1 - p.2) * (q.1 + q.2) - (p.1 + p.2) * (q.1 - q.2))))
theorem rep_of {X Z y : F} (h : X * (1 - y) = Z * (1 + y)) (hn : X = 0 → Z ≠ 0) : X + Z ≠ 0 ∧ X - Z = (X + Z) * y := by
  have h1 : X - Z = (X + Z) * y := by grobner
  refine ⟨fun h0 => ?_, h1⟩
  rw [h0] at h1
  have h2 : 2 * X = 0 := by grobner
  rcases F_noz h2 with h3 | h3
  · exact two_ne h3
  · exact hn h3 (by grobner)
theorem dbl_key {D g x y : F} (hg : D * (g - 1) = g) (e : x * x * (y * y) = D * (x * x + y * y - 1)) : (y * y + g * (1 - y * y)) * (1 - x * x) = y * y := by
  have h1 : (y * y + g * (1 - y * y)) * (1 - x * x) - y * y = (g - 1) * (x * x * (y * y)) - g * (x * x + y * y - 1) := by grobner
  rw [e] at h1
  have h2 : (g - 1) * (D * (x * x + y * y - 1)) = D * (g - 1) * (x * x + y * y - 1) := by grobner
  rw [h2, hg] at h1
  grobner
theorem dbl_y {D x y v : F} (h0 : D ≠ 0) (e : x * x * (y * y) = D * (x * x + y * y - 1)) (hv : v * (D - x * x * y * y) = D * (y * y - x * x)) : v * (2 - x * x - y * y) = y * y - x * x := by
  apply F_can h0
  have h1 : D - x * x * y * y = D * (2 - x * x - y * y) := by grobner
  rw [h1] at hv
  rw [← hv]; grobner
theorem dbl_fin {g x y v w : F} (hk : (y * y + g * (1 - y * y)) * (1 - x * x) = y * y) (hv : v * (2 - x * x - y * y) = y * y - x * x) (hn : 2 - x * x - y * y ≠ 0) :
    (w * w * (w * y * (w * y))) * (1 - v) = ((w * w - w * y * (w * y)) * (w * y * (w * y) + g * (w * w - w * y * (w * y)))) * (1 + v) := by
  apply F_can hn
  have h1 : (2 - x * x - y * y) * ((w * w * (w * y * (w * y))) * (1 - v)) = w * w * (w * w) * (y * y) * ((2 - x * x - y * y) - v * (2 - x * x - y * y)) := by grobner
  have h2 : (2 - x * x - y * y) * (((w * w - w * y * (w * y)) * (w * y * (w * y) + g * (w * w - w * y * (w * y)))) * (1 + v)) = w * w * (w * w) * (1 - y * y) * (y * y + g * (1 - y * y)) * ((2 - x * x - y * y) + v * (2 - x * x - y * y)) := by grobner
  rw [h1, h2, hv]
  have h3 : w * w * (w * w) * (1 - y * y) * (y * y + g * (1 - y * y)) * ((2 - x * x - y * y) + (y * y - x * x)) = w * w * (w * w) * (1 - y * y) * 2 * ((y * y + g * (1 - y * y)) * (1 - x * x)) := by grobner
  rw [h3, hk]; grobner
theorem sq_zero {a : F} (h : a * a = 0) : a = 0 := by rcases F_noz h with h1 | h1 <;> exact h1
theorem dbl_nz {g y w : F} (hw : w ≠ 0) (hg : g ≠ 0) (h : w * w * (w * y * (w * y)) = 0) : (w * w - w * y * (w * y)) * (w * y * (w * y) + g * (w * w - w * y * (w * y))) ≠ 0 := by
  have h1 : (w * w * y) * (w * w * y) = 0 := by rw [← h]; grobner
  have hy : y = 0 := by
    rcases F_noz (sq_zero h1) with h2 | h2
    · exact absurd h2 (F_mul_ne hw hw)
    · exact h2
  subst hy
  have e : (w * w - w * 0 * (w * 0)) * (w * 0 * (w * 0) + g * (w * w - w * 0 * (w * 0))) = w * w * (w * w) * g := by grobner
  rw [e]
  exact F_mul_ne (F_mul_ne (F_mul_ne hw hw) (F_mul_ne hw hw)) hg
theorem dbl_rep {D g : F} {p Q : Pt} (hD : NoSq D) (hg : D * (g - 1) = g) (hg0 : g ≠ 0) (hQ : EdOn D Q) (h : FRep p Q) : FRep (mDbl g p) (edAdd D Q Q) := by
  obtain ⟨X, Z⟩ := p
  have hd := den_m hD hQ hQ
  have hi := iv_mul hd
  obtain ⟨x, y⟩ := Q
  obtain ⟨hw, he⟩ := h
  simp only [EdOn] at hQ
  simp only [edAdd] at *
  generalize fiv (D - x * x * y * y) = ib at *
  have hv : D * (y * y - x * x) * ib * (D - x * x * y * y) = D * (y * y - x * x) := by
    have : D * (y * y - x * x) * ib * (D - x * x * y * y) = D * (y * y - x * x) * ((D - x * x * y * y) * ib) := by grobner
    rw [this, hi]; grobner
  have hn : 2 - x * x - y * y ≠ 0 := fun h0 => hd (by
    have : D - x * x * y * y = D * (2 - x * x - y * y) := by grobner
    rw [this, h0]; grobner)
  unfold FRep mDbl
  simp only
  rw [he]
  exact rep_of (dbl_fin (dbl_key hg hQ) (dbl_y hD.ne hQ hv) hn) (dbl_nz hw hg0)
theorem dif_id (D x1 y1 x2 y2 : F) : (D - x1*x2*y1*y2 + D*(y1*y2-x1*x2)) * (D + x1*x2*y1*y2 + D*(y1*y2+x1*x2)) * ((y1-y2)*(y1-y2)) - (D - x1*x2*y1*y2 - D*(y1*y2-x1*x2)) * (D + x1*x2*y1*y2 - D*(y1*y2+x1*x2)) * ((y1+y2)*(y1+y2)) =
    (-4*D*(x2*x2)*y1*y2 + 4*(x2*x2)*y1*(y2*y2*y2)) * (x1*x1*(y1*y1) - D*(x1*x1+y1*y1-1)) + (4*D*(y1*y1*y1)*y2 - 4*D*y1*y2) * (x2*x2*(y2*y2) - D*(x2*x2+y2*y2-1)) := by grobner
theorem dif_alg {a b v m p q z1 z2 : F} (h : (b + v * b) * (a + m * a) * p - (b - v * b) * (a - m * a) * q = z1 * 0 + z2 * 0) : a * b * ((1 + v) * (1 + m) * p) = a * b * ((1 - v) * (1 - m) * q) := by
  have h1 : a * b * ((1 + v) * (1 + m) * p) - a * b * ((1 - v) * (1 - m) * q) = (b + v * b) * (a + m * a) * p - (b - v * b) * (a - m * a) * q := by grobner
  rw [h] at h1
  grobner
theorem dif_y {D x1 y1 x2 y2 v m : F} (e1 : x1*x1*(y1*y1) = D*(x1*x1+y1*y1-1)) (e2 : x2*x2*(y2*y2) = D*(x2*x2+y2*y2-1))
    (hp : D + x1*x2*y1*y2 ≠ 0) (hm : D - x1*x2*y1*y2 ≠ 0) (hv : v * (D - x1*x2*y1*y2) = D*(y1*y2-x1*x2)) (hmm : m * (D + x1*x2*y1*y2) = D*(y1*y2+x1*x2)) :
    (1 + v) * (1 + m) * ((y1-y2)*(y1-y2)) = (1 - v) * (1 - m) * ((y1+y2)*(y1+y2)) := by
  have h := dif_id D x1 y1 x2 y2
  rw [edOn_zero e1, edOn_zero e2, ← hv, ← hmm] at h
  exact F_can (F_mul_ne hp hm) (dif_alg h)
theorem wit_fin {y1 y2 v m u w1 w2 : F} (hu : u * (1 - m) = 1 + m) (h : (1 + v) * (1 + m) * ((y1-y2)*(y1-y2)) = (1 - v) * (1 - m) * ((y1+y2)*(y1+y2))) (hm : 1 - m ≠ 0) :
    ((w1 * y1 * w2 + w1 * (w2 * y2)) * (w1 * y1 * w2 + w1 * (w2 * y2))) * (1 - v) = (u * ((w1 * y1 * w2 - w1 * (w2 * y2)) * (w1 * y1 * w2 - w1 * (w2 * y2)))) * (1 + v) := by
  apply F_can hm
  have h1 : (1 - m) * ((u * ((w1 * y1 * w2 - w1 * (w2 * y2)) * (w1 * y1 * w2 - w1 * (w2 * y2)))) * (1 + v)) = (w1 * w2) * (w1 * w2) * ((1 + v) * (u * (1 - m)) * ((y1-y2)*(y1-y2))) := by grobner
  rw [h1, hu, h]; grobner
theorem sum_z {w1 w2 y1 y2 : F} (h : w1 * y1 * w2 + w1 * (w2 * y2) = 0) : w1 * w2 * (y1 + y2) = w1 * w2 * 0 := by grobner
theorem dif_z {w1 w2 y1 y2 : F} (h : w1 * y1 * w2 - w1 * (w2 * y2) = 0) : w1 * w2 * (y1 - y2) = w1 * w2 * 0 := by grobner
theorem both_z {y1 y2 : F} (h1 : y1 + y2 = 0) (h2 : y1 - y2 = 0) : y1 = 0 ∧ y2 = 0 := by
  have h3 : 2 * y1 = 0 := by grobner
  have h4 : 2 * y2 = 0 := by grobner
  refine ⟨?_, ?_⟩
  · rcases F_noz h3 with h | h
    · exact absurd h two_ne
    · exact h
  · rcases F_noz h4 with h | h
    · exact absurd h two_ne
    · exact h
theorem on_y0 {D x : F} (h0 : D ≠ 0) (e : x * x * (0 * 0) = D * (x * x + 0 * 0 - 1)) : x * x = 1 := F_can h0 (by
  have h1 : D * (x * x) = D * (x * x + 0 * 0 - 1) + D * 1 := by clear e; grobner
  rw [h1, ← e]; clear h1 e; grobner)
theorem mul_m {D x1 x2 m : F} (h : m * (D + x1 * x2 * 0 * 0) = D * (0 * 0 + x1 * x2)) : D * m = D * (x1 * x2) := by grobner
theorem sq_m {x1 x2 m : F} (h1 : x1 * x1 = 1) (h2 : x2 * x2 = 1) (h : m = x1 * x2) : m * m = 1 := by
  rw [h]
  have : x1 * x2 * (x1 * x2) = x1 * x1 * (x2 * x2) := by grobner
  rw [this, h1, h2]; grobner
theorem far_m {u : F} (h : u * (1 - 1) = 1 + 1) : (2 : F) = 0 := by grobner
theorem near_m {u : F} (h : u * (1 - -1) = 1 + -1) : u * 2 = 0 := by grobner
theorem wit_nz {D x1 y1 x2 y2 m u w1 w2 : F} (h0 : D ≠ 0) (e1 : x1*x1*(y1*y1) = D*(x1*x1+y1*y1-1)) (e2 : x2*x2*(y2*y2) = D*(x2*x2+y2*y2-1)) (hmm : m * (D + x1*x2*y1*y2) = D*(y1*y2+x1*x2))
    (hu : u * (1 - m) = 1 + m) (hu0 : u ≠ 0) (hw1 : w1 ≠ 0) (hw2 : w2 ≠ 0) (hX : (w1 * y1 * w2 + w1 * (w2 * y2)) * (w1 * y1 * w2 + w1 * (w2 * y2)) = 0) :
    u * ((w1 * y1 * w2 - w1 * (w2 * y2)) * (w1 * y1 * w2 - w1 * (w2 * y2))) ≠ 0 := fun hZ => by
  have hW := F_mul_ne hw1 hw2
  have a1 : y1 + y2 = 0 := F_can hW (sum_z (sq_zero hX))
  have a2 : y1 - y2 = 0 := F_can hW (by
    rcases F_noz hZ with h | h
    · exact absurd h hu0
    · exact dif_z (sq_zero h))
  obtain ⟨rfl, rfl⟩ := both_z a1 a2
  have b4 := sq_m (on_y0 h0 e1) (on_y0 h0 e2) (F_can h0 (mul_m hmm))
  rcases sq_one b4 with h | h
  · rw [h] at hu; exact two_ne (far_m hu)
  · rw [h] at hu
    rcases F_noz (near_m hu) with h | h
    · exact hu0 h
    · exact two_ne h
theorem one_sub_ne {u m : F} (hu : u * (1 - m) = 1 + m) : 1 - m ≠ 0 := fun h => by
  have : m = 1 := by grobner
  subst this
  exact two_ne (by grobner)
theorem with_rep {D u : F} {p q Q P : Pt} (hD : NoSq D) (hP : EdOn D P) (hu : u * (1 - P.2) = 1 + P.2) (hu0 : u ≠ 0) (hQ : EdOn D Q) (h : FRep p Q) (h' : FRep q (edAdd D Q P)) : FRep (mWith u p q) (edAdd D Q (edAdd D Q P)) := by
  have hR := edAdd_on hD hQ hP
  have hS := edSub hD hP hQ
  generalize edAdd D Q P = R at *
  have dp := den_p hD hQ hR
  have dm := den_m hD hQ hR
  have im := iv_mul dm
  have dn := den_m hD hR (edNeg_on hQ)
  have inn := iv_mul dn
  have hS2 := congrArg Prod.snd hS
  obtain ⟨X1, Z1⟩ := p
  obtain ⟨X2, Z2⟩ := q
  obtain ⟨x1, y1⟩ := Q
  obtain ⟨x2, y2⟩ := R
  obtain ⟨xp, m⟩ := P
  obtain ⟨hw1, he1⟩ := h
  obtain ⟨hw2, he2⟩ := h'
  simp only [EdOn] at hQ hR
  simp only [edAdd, edNeg] at *
  generalize fiv (D - x1 * x2 * y1 * y2) = ib at *
  generalize fiv (D - x2 * -x1 * y2 * y1) = ic at *
  have hv : D * (y1 * y2 - x1 * x2) * ib * (D - x1 * x2 * y1 * y2) = D * (y1 * y2 - x1 * x2) := by
    have : D * (y1 * y2 - x1 * x2) * ib * (D - x1 * x2 * y1 * y2) = D * (y1 * y2 - x1 * x2) * ((D - x1 * x2 * y1 * y2) * ib) := by grobner
    rw [this, im]; grobner
  have hmm : m * (D + x1 * x2 * y1 * y2) = D * (y1 * y2 + x1 * x2) := by
    have e : D - x2 * -x1 * y2 * y1 = D + x1 * x2 * y1 * y2 := by grobner
    rw [e] at inn
    rw [← hS2]
    have : D * (y2 * y1 - x2 * -x1) * ic * (D + x1 * x2 * y1 * y2) = D * (y2 * y1 - x2 * -x1) * ((D + x1 * x2 * y1 * y2) * ic) := by grobner
    rw [this, inn]; grobner
  unfold FRep mWith
  simp only
  rw [he1, he2]
  exact rep_of (wit_fin hu (dif_y hQ hR dp dm hv hmm) (one_sub_ne hu)) (wit_nz hD.ne hQ hR hmm hu hu0 hw1 hw2)
end Go.Proofs.YthljakcegoohlabGreatDoor
namespace Go.Proofs.YthljakcegoohlabGreatDoor
set_option maxHeartbeats 1000000
def ladS (g u : F) (n : Nat) : Nat → Pt × Pt
  | 0 => ((1, 0), (u, 1))
  | j + 1 => if n / 2 ^ (254 - j) % 2 = 1 then (mWith u (ladS g u n j).1 (ladS g u n j).2, mDbl g (ladS g u n j).2) else (mDbl g (ladS g u n j).1, mWith u (ladS g u n j).1 (ladS g u n j).2)
def ladO (g u : F) (n : Nat) : F := (ladS g u n 255).1.1 * fiv (ladS g u n 255).1.2
theorem lad_gen (Rq : Pt → Pt → Prop) {D g u : F} {P : Pt} {n : Nat} (hD : NoSq D) (hP : EdOn D P) (hn : n < 2 ^ 255) (h0 : Rq (1, 0) edO) (h1 : Rq (u, 1) P)
    (hdbl : ∀ p Q, EdOn D Q → Rq p Q → Rq (mDbl g p) (edAdd D Q Q)) (hwith : ∀ p q Q, EdOn D Q → Rq p Q → Rq q (edAdd D Q P) → Rq (mWith u p q) (edAdd D Q (edAdd D Q P))) :
    ∀ j, j ≤ 255 → Rq (ladS g u n j).1 (edMul D (n / 2 ^ (255 - j)) P) ∧ Rq (ladS g u n j).2 (edMul D (n / 2 ^ (255 - j) + 1) P)
  | 0, _ => by
    have e : n / 2 ^ (255 - 0) = 0 := Nat.div_eq_of_lt hn
    rw [e]
    exact ⟨h0, by rw [edMul_one hD.ne]; exact h1⟩
  | j + 1, hj => by
    obtain ⟨i1, i2⟩ := lad_gen Rq hD hP hn h0 h1 hdbl hwith j (by omega)
    have e1 : 255 - (j + 1) = 254 - j := by omega
    have e2 : n / 2 ^ (255 - j) = n / 2 ^ (254 - j) / 2 := by
      rw [show 255 - j = 254 - j + 1 by omega, Nat.pow_succ, Nat.div_div_eq_div_mul]
    rw [e1]
    rw [e2] at i1 i2
    unfold ladS
    generalize n / 2 ^ (254 - j) = k at *
    have o1 := edMul_on hD hP (k / 2)
    have o2 := edMul_on hD hP (k / 2 + 1)
    have w := hwith _ _ _ o1 i1 i2
    have a1 := edMul_add hD hP (k / 2) (k / 2 + 1)
    have a0 := edMul_add hD hP (k / 2) (k / 2)
    have a2 := edMul_add hD hP (k / 2 + 1) (k / 2 + 1)
    have w' : Rq (mWith u (ladS g u n j).1 (ladS g u n j).2) (edMul D (k / 2 + (k / 2 + 1)) P) := by rw [a1]; exact w
    split
    · rename_i hb
      refine ⟨?_, ?_⟩
      · rw [show k / 2 + (k / 2 + 1) = k by omega] at w'; exact w'
      · have := hdbl _ _ o2 i2
        rw [← a2, show k / 2 + 1 + (k / 2 + 1) = k + 1 by omega] at this; exact this
    · rename_i hb
      refine ⟨?_, ?_⟩
      · have := hdbl _ _ o1 i1
        rw [← a0, show k / 2 + k / 2 = k by omega] at this; exact this
      · rw [show k / 2 + (k / 2 + 1) = k + 1 by omega] at w'; exact w'
def kap (P : Pt) : F := (1 + P.2) * fiv (1 - P.2)
theorem out_alg {X Z y i k : F} (h : X - Z = (X + Z) * y) (hi : Z * i = 1) (hk : (1 - y) * k = 1) : Z * (1 - y) * (X * i) = Z * (1 - y) * ((1 + y) * k) := by
  have h1 : Z * (1 - y) * (X * i) = X * (1 - y) * (Z * i) := by clear h hi hk; grobner
  have h2 : Z * (1 - y) * ((1 + y) * k) = Z * (1 + y) * ((1 - y) * k) := by clear h hi hk h1; grobner
  rw [h1, h2, hi, hk]
  clear hi hk h1 h2
  grobner
theorem out_far {X Z y : F} (h : X - Z = (X + Z) * y) (hy : 1 - y = 0) : 2 * Z = 0 := by grobner
theorem out_near {X Z y : F} (h : X - Z = (X + Z) * y) : 2 * Z = (X + Z) * (1 - y) := by grobner
theorem mul_0 (a : F) : a * 0 = 0 := by grobner
theorem rep_out {p P : Pt} (h : FRep p P) : p.1 * fiv p.2 = kap P := by
  obtain ⟨hw, he⟩ := h
  unfold kap
  by_cases hy : 1 - P.2 = 0
  · have hz : p.2 = 0 := by
      rcases F_noz (out_far he hy) with h | h
      · exact absurd h two_ne
      · exact h
    rw [hz, hy, iv_zero, mul_0, mul_0]
  · have hz : p.2 ≠ 0 := fun h0 => by
      have := out_near he
      rw [h0, mul_0] at this
      rw [h0] at hw
      exact F_mul_ne hw hy this.symm
    exact F_can (F_mul_ne hz hy) (out_alg he (iv_mul hz) (iv_mul hy))
def tw (p : Pt) : Pt := (-p.1, p.2)
theorem rep_neg {p P : Pt} (h : FRep p P) : FRep (-p.1, -p.2) P := by
  obtain ⟨hw, he⟩ := h
  refine ⟨fun h0 => hw ?_, ?_⟩
  · have h0' : -p.1 + -p.2 = 0 := h0
    clear he h0; grobner
  · show -p.1 - -p.2 = (-p.1 + -p.2) * P.2
    grobner
theorem tw_dbl (g : F) (p : Pt) : tw (mDbl g p) = (-(mDbl (1 - g) (tw p)).1, -(mDbl (1 - g) (tw p)).2) := by
  obtain ⟨X, Z⟩ := p
  simp only [tw, mDbl]
  refine Prod.ext ?_ ?_
  · simp only; grobner
  · simp only; grobner
theorem tw_with (u : F) (p q : Pt) : tw (mWith u p q) = (-(mWith (-u) (tw p) (tw q)).1, -(mWith (-u) (tw p) (tw q)).2) := by
  obtain ⟨X, Z⟩ := p
  obtain ⟨X', Z'⟩ := q
  simp only [tw, mWith]
  refine Prod.ext ?_ ?_
  · simp only; grobner
  · simp only; grobner
theorem start_rep {u y x : F} (h : u * (1 - y) = 1 + y) : FRep (u, 1) (x, y) := by
  refine ⟨fun h0 => ?_, ?_⟩
  · have h0' : u + 1 = 0 := h0
    exact two_ne (by clear h0; grobner)
  · show u - 1 = (u + 1) * y
    grobner
theorem far_rep : FRep (1, 0) edO := ⟨by decide +kernel, by decide +kernel⟩
theorem far_tw : FRep (tw (1, 0)) edO := ⟨by decide +kernel, by decide +kernel⟩
abbrev gC : F := 121666
abbrev D1 : F := 28692721048178265397853269683490922171210976843790175684556505508326675974058
abbrev D2 : F := 20800338683988658368647408995589388737092878452977063003340006470870624536394
theorem D1_half : fpw D1 HP = -1 := pw_val D1 HP (by decide) (-1) (by decide +kernel)
theorem D2_half : fpw D2 HP = -1 := pw_val D2 HP (by decide) (-1) (by decide +kernel)
theorem D1_no : NoSq D1 := noSq_of D1_half
theorem D2_no : NoSq D2 := noSq_of D2_half
theorem D12 : D1 * D2 = 1 := by decide +kernel
theorem lad_cur {P : Pt} {w : F} {n : Nat} (hP : EdOn D1 P) (hw : w ≠ 0) (h : w * (1 - P.2) = 1 + P.2) (hn : n < 2 ^ 255) : ladO gC w n = kap (edMul D1 n P) := by
  have := (lad_gen (g := gC) FRep D1_no hP hn far_rep (start_rep (x := P.1) h) (fun p Q hQ hr => dbl_rep D1_no (by decide +kernel) (by decide +kernel) hQ hr) (fun p q Q hQ hr hr' => with_rep D1_no hP h hw hQ hr hr') 255 (Nat.le_refl _)).1
  rw [show n / 2 ^ (255 - 255) = n by simp] at this
  exact rep_out this
theorem neg_ne {a : F} (h : a ≠ 0) : -a ≠ 0 := fun h0 => h (by grobner)
theorem neg_out {X z k : F} (h : -X * z = k) : X * z = -k := by grobner
theorem lad_tw {P : Pt} {w : F} {n : Nat} (hP : EdOn D2 P) (hw : w ≠ 0) (h : -w * (1 - P.2) = 1 + P.2) (hn : n < 2 ^ 255) : ladO gC w n = -kap (edMul D2 n P) := by
  have := (lad_gen (g := gC) (fun p Q => FRep (tw p) Q) D2_no hP hn far_tw (start_rep (x := P.1) h)
    (fun p Q hQ hr => by rw [tw_dbl]; exact rep_neg (dbl_rep D2_no (by decide +kernel) (by decide +kernel) hQ hr))
    (fun p q Q hQ hr hr' => by rw [tw_with]; exact rep_neg (with_rep D2_no hP h (neg_ne hw) hQ hr hr')) 255 (Nat.le_refl _)).1
  rw [show n / 2 ^ (255 - 255) = n by simp] at this
  exact neg_out (rep_out this)
theorem z_dbl (g : F) {p : Pt} (h : p.1 * p.2 = 0) : (mDbl g p).1 * (mDbl g p).2 = 0 := by
  have e : (mDbl g p).2 = p.1 * p.2 * (4 * ((p.1 - p.2) * (p.1 - p.2) + g * ((p.1 + p.2) * (p.1 + p.2) - (p.1 - p.2) * (p.1 - p.2)))) := by
    show ((p.1 + p.2) * (p.1 + p.2) - (p.1 - p.2) * (p.1 - p.2)) * ((p.1 - p.2) * (p.1 - p.2) + g * ((p.1 + p.2) * (p.1 + p.2) - (p.1 - p.2) * (p.1 - p.2))) = _
    clear h; grobner
  rw [e, h]
  generalize (mDbl g p).1 = a
  clear e h; grobner
theorem z_with (p q : Pt) : (mWith 0 p q).1 * (mWith 0 p q).2 = 0 := by
  have e : (mWith 0 p q).2 = 0 := by
    show 0 * _ = (0 : F)
    grobner
  rw [e, mul_0]
theorem z_lad (g : F) (n : Nat) : ∀ j, (ladS g 0 n j).1.1 * (ladS g 0 n j).1.2 = 0 ∧ (ladS g 0 n j).2.1 * (ladS g 0 n j).2.2 = 0
  | 0 => ⟨by show (1 : F) * 0 = 0; grobner, by show (0 : F) * 1 = 0; grobner⟩
  | j + 1 => by
    obtain ⟨h1, h2⟩ := z_lad g n j
    unfold ladS
    split
    · exact ⟨z_with _ _, z_dbl g h2⟩
    · exact ⟨z_dbl g h1, z_with _ _⟩
theorem ladO_zero (g : F) (n : Nat) : ladO g 0 n = 0 := by
  unfold ladO
  rcases F_noz (z_lad g n 255).1 with h | h
  · rw [h]; generalize fiv _ = a; grobner
  · rw [h, iv_zero, mul_0]
end Go.Proofs.YthljakcegoohlabGreatDoor
namespace Go.Proofs.YthljakcegoohlabGreatDoor
set_option maxHeartbeats 1000000
theorem on_of {D x y q i : F} (hx : x * x = q) (hq : q = D * (1 - y * y) * i) (hi : (D - y * y) * i = 1) : x * x * (y * y) = D * (x * x + y * y - 1) := by
  have h1 : q * (D - y * y) = D * (1 - y * y) := by
    have : D * (1 - y * y) * i * (D - y * y) = D * (1 - y * y) * ((D - y * y) * i) := by clear hx hq hi; grobner
    rw [hq, this, hi]; clear this hx hq hi; grobner
  rw [hx]
  clear hx hq hi; grobner
theorem tw_on {D D' y r q k i : F} (hDD : D * D' = 1) (hr : r * r = q * D') (hq : q = D * (1 - y * y) * i) (hi : (D - y * y) * i = 1) (hk : y * k = 1) : r * r * (k * k) = D' * (r * r + k * k - 1) := by
  have h1 : q * (D - y * y) = D * (1 - y * y) := by
    have : D * (1 - y * y) * i * (D - y * y) = D * (1 - y * y) * ((D - y * y) * i) := by clear hr hq hi hk hDD; grobner
    rw [hq, this, hi]; clear this hr hq hi hk hDD; grobner
  have h2 : q * (1 - D' * (y * y)) = 1 - y * y := by
    have e1 : q * (1 - D' * (y * y)) = q * (D * D' - D' * (y * y)) := by rw [hDD]
    have e2 : q * (D * D' - D' * (y * y)) = D' * (q * (D - y * y)) := by clear h1 e1 hr hq hi hk hDD; grobner
    have e3 : D' * (D * (1 - y * y)) = D * D' * (1 - y * y) := by clear h1 e1 e2 hr hq hi hk hDD; grobner
    rw [e1, e2, h1, e3, hDD]; clear h1 e1 e2 e3 hr hq hi hk hDD; grobner
  have h3 : r * r = D' * (r * r * (y * y) + 1 - y * y) := by
    rw [hr]
    have e1 : D' * (q * D' * (y * y) + 1 - y * y) = q * D' - D' * (q * (1 - D' * (y * y)) - (1 - y * y)) := by clear h1 h2 hr hq hi hk hDD; grobner
    rw [e1, h2]; clear e1 h1 h2 hr hq hi hk hDD; grobner
  have e4 : D' * (r * r + k * k - 1) = D' * (r * r * ((y * k) * (y * k)) + k * k - (y * k) * (y * k)) := by rw [hk]; clear h1 h2 h3 hr hq hi hk hDD; grobner
  have e5 : D' * (r * r * ((y * k) * (y * k)) + k * k - (y * k) * (y * k)) = k * k * (D' * (r * r * (y * y) + 1 - y * y)) := by clear e4 h1 h2 h3 hr hq hi hk hDD; grobner
  rw [e4, e5, ← h3]; clear e4 e5 h1 h2 h3 hr hq hi hk hDD; grobner
theorem y_of {u i y : F} (hy : y = (u - 1) * i) (hi : (u + 1) * i = 1) : u * (1 - y) = 1 + y := by
  have h1 : (u + 1) * y = u - 1 := by
    have : (u + 1) * ((u - 1) * i) = (u - 1) * ((u + 1) * i) := by clear hy hi; grobner
    rw [hy, this, hi]; clear this hy hi; grobner
  clear hy hi; grobner
theorem tw_y {u y k : F} (hy : u * (1 - y) = 1 + y) (hk : y * k = 1) : -u * (1 - k) = 1 + k := by
  have h1 : -u * (1 - k) = k * (u * (1 - y)) := by
    have e1 : -u * (1 - k) = -u * (y * k - k) := by rw [hk]
    rw [e1]; clear e1 hy hk; grobner
  have h2 : k * (1 + y) = k + y * k := by clear hy hk h1; grobner
  rw [h1, hy, h2, hk]; clear h1 h2 hy hk; grobner
theorem pw_one' : fpw 1 HP = 1 := pw_val 1 HP (by decide) 1 (by decide +kernel)
theorem pt_exists (u : F) : (∃ P, EdOn D1 P ∧ u * (1 - P.2) = 1 + P.2) ∨ (∃ P, EdOn D2 P ∧ -u * (1 - P.2) = 1 + P.2) := by
  by_cases h1 : u + 1 = 0
  · have hu : u = -1 := by grobner
    subst hu
    exact .inr ⟨(1, 0), by show (1 : F) * 1 * (0 * 0) = D2 * (1 * 1 + 0 * 0 - 1); decide +kernel, by show - -(1 : F) * (1 - 0) = 1 + 0; decide +kernel⟩
  · obtain ⟨y, hy⟩ : ∃ y, y = (u - 1) * fiv (u + 1) := ⟨_, rfl⟩
    have hyu := y_of hy (iv_mul h1)
    have hd : D1 - y * y ≠ 0 := fun h => one_ne (D1_no y 1 (by have : D1 = y * y := by { generalize D1 = d at *; clear hy hyu; grobner }; rw [this]; clear this h hy hyu; grobner))
    have hi := iv_mul hd
    obtain ⟨q, hq⟩ : ∃ q, q = D1 * (1 - y * y) * fiv (D1 - y * y) := ⟨_, rfl⟩
    by_cases hq0 : q = 0
    · exact .inl ⟨(0, y), on_of (show (0 : F) * 0 = q by rw [hq0]; decide +kernel) hq hi, hyu⟩
    · rcases half hq0 with hh | hh
      · obtain ⟨r, hr⟩ := root hh
        exact .inl ⟨(r, y), on_of hr hq hi, hyu⟩
      · have hp : fpw (q * D2) HP = 1 := by rw [pw_mul, hh, D2_half]; decide +kernel
        obtain ⟨r, hr⟩ := root hp
        have hy0 : y ≠ 0 := fun h0 => by
          rw [h0] at hq hi
          have e1 : D1 - 0 * 0 = D1 := by decide +kernel
          have e2 : D1 * (1 - 0 * 0) = D1 := by decide +kernel
          rw [e1] at hq hi
          rw [e2, hi] at hq
          rw [hq, pw_one'] at hh
          exact absurd hh (by decide +kernel)
        exact .inr ⟨(r, fiv y), tw_on D12 hr hq hi (iv_mul hy0), tw_y hyu (iv_mul hy0)⟩
theorem NoSq.ne_one {D : F} (h : NoSq D) : D ≠ 1 := fun h1 => one_ne (h 1 1 (by rw [h1]; decide +kernel))
theorem x_zero {D x s : F} (hD : NoSq D) (hs : s * s = 1) (e : x * x * (s * s) = D * (x * x + s * s - 1)) : x = 0 := by
  rw [hs] at e
  have h1 : (x * x) * (1 - D) = 0 := by clear hs; grobner
  rcases F_noz h1 with h | h
  · exact sq_zero h
  · exact absurd (show D = 1 by clear hs e h1; grobner) hD.ne_one
theorem edMul_O {D : F} (h0 : D ≠ 0) : ∀ n, edMul D n edO = edO
  | 0 => rfl
  | n + 1 => by
    show edAdd D (edMul D n edO) edO = edO
    rw [edMul_O h0 n, edAdd_O h0]
theorem two_T {D : F} (h0 : D ≠ 0) : edMul D 2 (0, -1) = edO := by
  show edAdd D (edMul D 1 (0, -1)) (0, -1) = edO
  rw [edMul_one h0]
  have hi := iv_mul h0
  refine Prod.ext ?_ ?_
  · show D * (0 * -1 + -1 * 0) * fiv (D + 0 * 0 * -1 * -1) = 0
    generalize fiv _ = a; clear hi; grobner
  · show D * (-1 * -1 - 0 * 0) * fiv (D - 0 * 0 * -1 * -1) = 1
    have e : D - 0 * 0 * -1 * -1 = D := by clear hi; grobner
    have e2 : D * (-1 * -1 - 0 * 0) * fiv D = D * fiv D := by generalize fiv D = a; clear hi e; grobner
    rw [e, e2]; exact hi
theorem kap_O : kap edO = 0 := by
  show (1 + 1) * fiv (1 - 1) = (0 : F)
  have e : (1 : F) - 1 = 0 := by decide +kernel
  rw [e, iv_zero, mul_0]
theorem dh_one {D s g : F} (hD : NoSq D) (hs : s * s = 1) (H : ∀ (P : Pt) (w : F) (n : Nat), EdOn D P → w ≠ 0 → s * w * (1 - P.2) = 1 + P.2 → n < 2 ^ 255 → ladO g w n = s * kap (edMul D n P))
    {P : Pt} (hP : EdOn D P) {m : Nat} (hm : m < 2 ^ 255) (h2 : m % 2 = 0) : ladO g (s * kap P) m = s * kap (edMul D m P) := by
  by_cases hy : 1 - P.2 = 0
  · have hk : kap P = 0 := by unfold kap; rw [hy, iv_zero, mul_0]
    have e2 : P.2 = 1 := by clear hk hP; grobner
    have hx : P.1 = 0 := x_zero hD (s := P.2) (by rw [e2]; decide +kernel) hP
    have hO : P = edO := Prod.ext hx e2
    rw [hk, mul_0, ladO_zero, hO, edMul_O hD.ne, kap_O, mul_0]
  · by_cases hk : kap P = 0
    · have hi := iv_mul hy
      have e1 : 1 + P.2 = 0 := by
        unfold kap at hk
        rcases F_noz hk with h | h
        · exact h
        · rw [h, mul_0] at hi; exact absurd hi.symm one_ne
      have e2 : P.2 = -1 := by clear hk hi hP hy; grobner
      have hx : P.1 = 0 := x_zero hD (s := P.2) (by rw [e2]; decide +kernel) hP
      have hT : P = (0, -1) := Prod.ext hx e2
      have hm2 : m = m / 2 * 2 := by omega
      rw [hk, mul_0, ladO_zero, hm2, edMul_mul hD hP, hT, two_T hD.ne, edMul_O hD.ne, kap_O, mul_0]
    · have hi := iv_mul hy
      refine H P (s * kap P) m hP ?_ ?_ hm
      · refine F_mul_ne (fun h => ?_) hk
        rw [h, mul_0] at hs
        exact one_ne hs.symm
      · unfold kap
        have e : s * (s * ((1 + P.2) * fiv (1 - P.2))) * (1 - P.2) = s * s * ((1 + P.2) * ((1 - P.2) * fiv (1 - P.2))) := by generalize fiv (1 - P.2) = a; clear hi hk hs hP hy; grobner
        rw [e, hs, hi]; clear e hi hk hs hP hy; grobner
theorem dh_gen {D s g : F} (hD : NoSq D) (hs : s * s = 1) (H : ∀ (P : Pt) (w : F) (n : Nat), EdOn D P → w ≠ 0 → s * w * (1 - P.2) = 1 + P.2 → n < 2 ^ 255 → ladO g w n = s * kap (edMul D n P))
    {P : Pt} {u : F} (hP : EdOn D P) (hu0 : u ≠ 0) (hu : s * u * (1 - P.2) = 1 + P.2) {m n : Nat} (hm : m < 2 ^ 255) (hn : n < 2 ^ 255) (m2 : m % 2 = 0) (n2 : n % 2 = 0) :
    ladO g (ladO g u n) m = ladO g (ladO g u m) n := by
  rw [H P u n hP hu0 hu hn, H P u m hP hu0 hu hm, dh_one hD hs H (edMul_on hD hP n) hm m2, dh_one hD hs H (edMul_on hD hP m) hn n2, ← edMul_mul hD hP, ← edMul_mul hD hP, Nat.mul_comm]
theorem dh_turns (u : F) {m n : Nat} (hm : m < 2 ^ 255) (hn : n < 2 ^ 255) (m2 : m % 2 = 0) (n2 : n % 2 = 0) : ladO gC (ladO gC u n) m = ladO gC (ladO gC u m) n := by
  by_cases hu : u = 0
  · simp only [hu, ladO_zero]
  · have one_mul (a : F) : 1 * a = a := by grobner
    have neg_mul (a : F) : -1 * a = -a := by grobner
    rcases pt_exists u with ⟨P, hP, h⟩ | ⟨P, hP, h⟩
    · exact dh_gen (s := 1) D1_no (by decide +kernel) (fun P w n hP hw h hn => by rw [one_mul] at *; exact lad_cur hP hw h hn) hP hu (by rw [one_mul]; exact h) hm hn m2 n2
    · exact dh_gen (s := -1) D2_no (by decide +kernel) (fun P w n hP hw h hn => by rw [neg_mul] at *; exact lad_tw hP hw h hn) hP hu (by rw [neg_mul]; exact h) hm hn m2 n2
end Go.Proofs.YthljakcegoohlabGreatDoor
