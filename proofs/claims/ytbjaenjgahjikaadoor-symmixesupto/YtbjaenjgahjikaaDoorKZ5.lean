import Derived.Test.YtbjaenjgahjikaaDoorKZ4
import Derived.SizedLaws
import Derived.ProofKit
import Derived.OpenShut
import Derived.LaidMore
import Derived.Lay
import Derived.MakeChecks
import Derived.Test.YtbjaenjgahjikaaDoorRows
namespace Go.Proofs.YtbjaenjgahjikaaDoor
open Go Go.RowKit
def nbl (ln : Nat) : Nat := if ln % 64 = 0 ∧ 0 < ln then 64 else ln % 64
def okB (n ln : Nat) (d : Nat → Nat) : Bool := (List.range 64).all (fun j => decide (j < n) || decide (d j = 0)) && decide (n = nbl ln)
theorem okB_bad {n ln : Nat} {d : Nat → Nat} {i : Nat} (hi : i < 64) (hge : n ≤ i) (hne : d i ≠ 0) : (!okB n ln d) = true := by
  have : okB n ln d = false := by
    unfold okB
    rw [Bool.and_eq_false_iff]
    left
    rw [List.all_eq_false]
    exact ⟨i, List.mem_range.2 hi, by simp [hne]; omega⟩
  rw [this]; rfl
theorem okB_fin {n ln x : Nat} {d : Nat → Nat} (h : ∀ t, t < 64 → n ≤ t → d t = 0) (hx : nbl ln = x) : (!okB n ln d) = decide ((n : Int) ≠ (x : Int)) := by
  have e1 : ((List.range 64).all (fun j => decide (j < n) || decide (d j = 0))) = true := by
    rw [List.all_eq_true]
    intro j hj
    have hj := List.mem_range.1 hj
    by_cases hn : j < n
    · simp [hn]
    · simp [h j hj (by omega)]
  unfold okB
  rw [e1, hx, Bool.true_and]
  by_cases hnx : n = x
  · subst hnx; simp
  · have : ¬ (n : Int) = (x : Int) := by omega
    simp [hnx, this]
theorem okB_open {n ln : Nat} {d : Nat → Nat} (h : okB n ln d = true) : n = nbl ln ∧ n ≤ ln ∧ n ≤ 64 ∧ (ln - n) % 64 = 0 ∧ ∀ j, n ≤ j → j < 64 → d j = 0 := by
  unfold okB at h
  rw [Bool.and_eq_true, List.all_eq_true] at h
  obtain ⟨h1, h2⟩ := h
  have e : n = nbl ln := of_decide_eq_true h2
  have e2 := e
  unfold nbl at e2
  refine ⟨e, ?_, ?_, ?_, fun j hj hj2 => ?_⟩
  · split at e2 <;> omega
  · split at e2 <;> omega
  · split at e2 <;> omega
  · have := h1 j (List.mem_range.2 hj2)
    have hn : ¬ j < n := by omega
    simpa [hn] using this
def hacc (h : Nat → Nat) (base : Nat) (S : List Nat) : Nat → Nat → Nat
  | 0 => h
  | k + 1 => sqz (hacc h base S k) ((S.drop (64 * k)).take 64) (base + 64 * (k + 1)) false
def nblk (n : Nat) : Nat := (n - 1) / 64
theorem nblk_of {n k : Nat} (h1 : n - 64 * k ≤ 64) (h2 : k = 0 ∨ 64 * k < n) : k = nblk n := by unfold nblk; omega
theorem drop_next64 (S : List Nat) (k : Nat) : ((S.drop (64 * k)).drop 64).take ((S.drop (64 * k)).length - 64) = S.drop (64 * (k + 1)) := by
  rw [List.drop_drop, List.take_of_length_le (by simp; omega), show 64 * k + 64 = 64 * (k + 1) by omega]
theorem held_all64 (L : List Nat) (h : L.length ≤ 64) : (fun i => if i < min L.length 64 then L.getD i 0 else 0) = fun i => L.getD i 0 := by
  funext i
  by_cases hi : i < min L.length 64
  · rw [if_pos hi]
  · rw [if_neg hi, List.getD_eq_getElem?_getD, List.getElem?_eq_none (by omega)]; rfl
def hol (w : Nat → Nat) : Nat → List Nat
  | 0 => []
  | i + 1 => hol w i ++ lowl (w i) 4
theorem hol_len (w : Nat → Nat) : ∀ i, (hol w i).length = 4 * i
  | 0 => rfl
  | i + 1 => by rw [hol, List.length_append, hol_len w i, lowl_len]; omega
theorem hol_lt (w : Nat → Nat) : ∀ i, ∀ b ∈ hol w i, b < 256
  | 0, b, h => by simp [hol] at h
  | i + 1, b, h => by
    rcases List.mem_append.1 h with h | h
    · exact hol_lt w i b h
    · exact lowl_lt _ _ b h
def hsumf (w : Nat → Nat) (j : Nat) : Nat := (hol w 8).getD j 0
theorem hsumf_lt (w : Nat → Nat) (j : Nat) : hsumf w j < 256 := getD_lt (hol_lt w 8) j
def rem64 (m : List Nat) : List Nat := m.drop (64 * nblk m.length)
theorem rem64_len (m : List Nat) : (rem64 m).length = nbl m.length := by
  unfold rem64 nblk nbl
  rw [List.length_drop]
  split <;> omega
theorem rem64_lt {m : List Nat} (h : ∀ b ∈ m, b < 256) : ∀ b ∈ rem64 m, b < 256 := fun b hb => h b (List.mem_of_mem_drop hb)
def hmsg (m : List Nat) : Nat → Nat := hacc hbeg 0 m (nblk m.length)
def heldB (m : List Nat) (i : Nat) : Nat := (rem64 m).getD i 0
theorem heldB_lt {m : List Nat} (hm : ∀ b ∈ m, b < 256) (j : Nat) : heldB m j < 256 := getD_lt (rem64_lt hm) j
theorem ok_heldB (m : List Nat) : okB (rem64 m).length m.length (heldB m) = true := by
  unfold okB
  rw [Bool.and_eq_true, List.all_eq_true]
  refine ⟨fun j _ => ?_, decide_eq_true (rem64_len m)⟩
  by_cases h : j < (rem64 m).length
  · simp [h]
  · have : heldB m j = 0 := by
      unfold heldB
      rw [List.getD_eq_getElem?_getD, List.getElem?_eq_none (by omega)]; rfl
    simp [this]
theorem sS_heldB (m l : List Nat) : sS (heldB m) (rem64 m).length l = rem64 m ++ l := by
  unfold sS
  congr 1
  apply List.ext_getElem
  · simp
  · intro j h1 h2
    simp only [List.getElem_map, List.getElem_range]
    unfold heldB
    rw [List.getD_eq_getElem?_getD, List.getElem?_eq_getElem h2]; rfl
theorem hacc_pre (h : Nat → Nat) (base : Nat) (m l : List Nat) : ∀ k, 64 * k ≤ m.length → hacc h base (m ++ l) k = hacc h base m k
  | 0, _ => rfl
  | k + 1, hk => by
    rw [hacc, hacc, hacc_pre h base m l k (by omega), List.drop_append_of_le_length (by omega), List.take_append_of_le_length (by simp; omega)]
theorem nblk_le (n : Nat) : 64 * nblk n ≤ n := by unfold nblk; omega
theorem drop_rem64 (m l : List Nat) (k : Nat) : (m ++ l).drop (64 * (nblk m.length + k)) = (rem64 m ++ l).drop (64 * k) := by
  have e : (m ++ l).drop (64 * nblk m.length) = rem64 m ++ l := List.drop_append_of_le_length (nblk_le _)
  rw [← e, List.drop_drop, Nat.mul_add]
theorem hacc_app (m l : List Nat) : ∀ k, hacc hbeg 0 (m ++ l) (nblk m.length + k) = hacc (hmsg m) (64 * nblk m.length) (rem64 m ++ l) k
  | 0 => hacc_pre hbeg 0 m l _ (nblk_le _)
  | k + 1 => by
    show hacc hbeg 0 (m ++ l) (nblk m.length + k + 1) = _
    rw [hacc, hacc, hacc_app m l k, drop_rem64, show 0 + 64 * (nblk m.length + k + 1) = 64 * nblk m.length + 64 * (k + 1) by omega]
theorem base_of (m : List Nat) : m.length - (rem64 m).length = 64 * nblk m.length := by
  have := nblk_le m.length
  rw [show (rem64 m).length = m.length - 64 * nblk m.length by simp [rem64]]
  omega
theorem part64 (m l : List Nat) : nblk m.length + nblk (rem64 m ++ l).length = nblk (m ++ l).length := by
  have e : (rem64 m).length = m.length - 64 * nblk m.length := by simp [rem64]
  rw [List.length_append, List.length_append, e]
  unfold nblk
  omega
theorem hmsg_app (m l : List Nat) : hacc (hmsg m) (64 * nblk m.length) (rem64 m ++ l) (nblk (rem64 m ++ l).length) = hmsg (m ++ l) := by
  rw [← hacc_app, part64 m l]; rfl
theorem rem64_app (m l : List Nat) : (rem64 m ++ l).drop (64 * nblk (rem64 m ++ l).length) = rem64 (m ++ l) := by
  rw [← drop_rem64, part64 m l]; rfl
def bsum (m : List Nat) (j : Nat) : Nat := if m.length ≤ 1073741824 then hsumf (sqz (hmsg m) ((List.range 64).map (heldB m)) m.length true) j else hsumf (sqz (fun _ => 0) ((List.range 64).map fun _ => 0) 0 true) j
theorem bsum_lt (m : List Nat) (j : Nat) : bsum m j < 256 := by unfold bsum; split <;> exact hsumf_lt _ _
abbrev cB (m : List Nat) : Array Value := cells 74 [pI .u32 8 (hmsg m), pI .u8 64 (heldB m), pV (.int .i64 ((rem64 m).length : Nat)), pV (.int .i64 (m.length : Nat))]
abbrev stB (m : List Nat) : Value := .agg (cB m)
theorem heldB_nil : heldB [] = fun _ => 0 := by funext i; simp [heldB, rem64]
theorem hmsg_nil : hmsg [] = hbeg := rfl
theorem okB_zero : okB 0 0 (fun _ => 0) = true := by decide
theorem bsum_small {m : List Nat} (h : m.length ≤ 1073741824) : bsum m = hsumf (sqz (hmsg m) ((List.range 64).map (heldB m)) m.length true) := by funext j; unfold bsum; rw [if_pos h]
theorem bsum_great {m : List Nat} (h : ¬ m.length ≤ 1073741824) : bsum m = hsumf (sqz (fun _ => 0) ((List.range 64).map fun _ => 0) 0 true) := by funext j; unfold bsum; rw [if_neg h]
end Go.Proofs.YtbjaenjgahjikaaDoor
namespace Go.Proofs.YtbjaenjgahjikaaDoor
open Go Go.RowKit
theorem words_step {f s : Nat → Nat} {i : Nat} (hf : ∀ j, j < 64 → f j < 256) (hi : i < 64) (hs : ∀ t, t < 16 → s t = pw f i t) :
    ∀ t, t < 16 → upd s (i / 4) ((s (i / 4) ||| (f i * 2 ^ (i % 4 * 8)) % 4294967296) % 4294967296) t = pw f (i + 1) t := fun t ht => by
  rw [hs _ (by omega), pw_step (hf i hi) (fun j hj => hf j (by omega))]
  unfold upd
  by_cases h : t = i / 4
  · rw [if_pos h, h]
  · rw [if_neg h, hs t ht, pw_other h]
theorem cut4 (f : Nat → Nat) {t : Nat} (ht : t < 16) : (((List.range 64).map f).drop (4 * t)).take 4 = [f (4 * t), f (4 * t + 1), f (4 * t + 2), f (4 * t + 3)] := by
  apply List.ext_getElem
  · simp; omega
  · intro j h1 h2
    simp only [List.getElem_take, List.getElem_drop, List.getElem_map, List.getElem_range]
    simp only [List.length_cons, List.length_nil] at h2
    rcases (by omega : j = 0 ∨ j = 1 ∨ j = 2 ∨ j = 3) with rfl | rfl | rfl | rfl <;> rfl
theorem words_all (f : Nat → Nat) : ∀ t, t < 16 → pw f 64 t = wrd ((List.range 64).map f) t := fun t ht => by
  unfold wrd
  rw [cut4 f ht, le4, pw_full (by omega)]
def mst (f : Nat → Nat) (a b c d x y : Nat) : Nat → Nat :=
  let f1 := upd f a ((f a + (f b + x) % 4294967296) % 4294967296)
  let f2 := upd f1 d (rotl ((f1 d ^^^ f1 a) % 4294967296) 16)
  let f3 := upd f2 c ((f2 c + f2 d) % 4294967296)
  let f4 := upd f3 b (rotl ((f3 b ^^^ f3 c) % 4294967296) 20)
  let f5 := upd f4 a ((f4 a + (f4 b + y) % 4294967296) % 4294967296)
  let f6 := upd f5 d (rotl ((f5 d ^^^ f5 a) % 4294967296) 24)
  let f7 := upd f6 c ((f6 c + f6 d) % 4294967296)
  upd f7 b (rotl ((f7 b ^^^ f7 c) % 4294967296) 25)
def mat (f : Nat → Nat) (a b c d x y t : Nat) : Nat :=
  let q := bq (f a) (f b) (f c) (f d) x y
  if t = a then q.1 else if t = b then q.2.1 else if t = c then q.2.2.1 else if t = d then q.2.2.2 else f t
theorem mst_eqs {s : Nat → Nat} {a b c d x y q1 q2 q3 q4 q5 q6 q7 q8 : Nat} (ab : a ≠ b) (ac : a ≠ c) (ad : a ≠ d) (bc : b ≠ c) (bd : b ≠ d) (cd : c ≠ d) (h1 : q1 = (s a + (s b + x) % 4294967296) % 4294967296)
    (h2 : q2 = rotl ((upd s a q1 d ^^^ upd s a q1 a) % 4294967296) 16)
    (h3 : q3 = (upd (upd s a q1) d q2 c + upd (upd s a q1) d q2 d) % 4294967296)
    (h4 : q4 = rotl ((upd (upd (upd s a q1) d q2) c q3 b ^^^ upd (upd (upd s a q1) d q2) c q3 c) % 4294967296) 20)
    (h5 : q5 = (upd (upd (upd (upd s a q1) d q2) c q3) b q4 a + (upd (upd (upd (upd s a q1) d q2) c q3) b q4 b + y) % 4294967296) % 4294967296)
    (h6 : q6 = rotl ((upd (upd (upd (upd (upd s a q1) d q2) c q3) b q4) a q5 d ^^^ upd (upd (upd (upd (upd s a q1) d q2) c q3) b q4) a q5 a) % 4294967296) 24)
    (h7 : q7 = (upd (upd (upd (upd (upd (upd s a q1) d q2) c q3) b q4) a q5) d q6 c + upd (upd (upd (upd (upd (upd s a q1) d q2) c q3) b q4) a q5) d q6 d) % 4294967296)
    (h8 : q8 = rotl ((upd (upd (upd (upd (upd (upd (upd s a q1) d q2) c q3) b q4) a q5) d q6) c q7 b ^^^ upd (upd (upd (upd (upd (upd (upd s a q1) d q2) c q3) b q4) a q5) d q6) c q7 c) % 4294967296) 25) :
    upd (upd (upd (upd (upd (upd (upd (upd s a q1) d q2) c q3) b q4) a q5) d q6) c q7) b q8 = mat s a b c d x y := by
  have ba := ab.symm
  have ca := ac.symm
  have da := ad.symm
  have cb := bc.symm
  have db := bd.symm
  have dc := cd.symm
  simp only [updS, updN _ _ ab, updN _ _ ac, updN _ _ ad, updN _ _ bc, updN _ _ bd, updN _ _ cd, updN _ _ ba, updN _ _ ca, updN _ _ da, updN _ _ cb, updN _ _ db, updN _ _ dc] at h1 h2 h3 h4 h5 h6 h7 h8
  have eA : (bq (s a) (s b) (s c) (s d) x y) = (q5, q8, q7, q6) := by
    unfold bq
    simp only
    rw [← h1, ← h2, ← h3, ← h4, ← h5, ← h6, ← h7, ← h8]
  funext t
  unfold mat
  rw [eA]
  by_cases ha : t = a
  · subst ha
    simp only [updS, updN _ _ ab, updN _ _ ac, updN _ _ ad, if_pos]
  · by_cases hb : t = b
    · subst hb
      simp only [updS, if_neg ha, if_pos]
    · by_cases hc : t = c
      · subst hc
        simp only [updS, updN _ _ cb, if_neg ha, if_neg hb, if_pos]
      · by_cases hd : t = d
        · subst hd
          simp only [updS, updN _ _ db, updN _ _ dc, if_neg ha, if_neg hb, if_neg hc, if_pos]
        · simp only [if_neg ha, if_neg hb, if_neg hc, if_neg hd, updN _ _ ha, updN _ _ hb, updN _ _ hc, updN _ _ hd]
theorem mst_mat (f : Nat → Nat) {a b c d : Nat} (x y : Nat) (ab : a ≠ b) (ac : a ≠ c) (ad : a ≠ d) (bc : b ≠ c) (bd : b ≠ d) (cd : c ≠ d) : mst f a b c d x y = mat f a b c d x y := mst_eqs ab ac ad bc bd cd rfl rfl rfl rfl rfl rfl rfl rfl
def sgf (j : Nat) : Nat := sigL.getD j 0
def colM (m : Nat → Nat) (r : Nat) (f : Nat → Nat) : Nat → Nat → Nat
  | 0 => f
  | i + 1 => mat (colM m r f i) i (4 + i) (8 + i) (12 + i) (m (sig r (2 * i))) (m (sig r (2 * i + 1)))
def diaM (m : Nat → Nat) (r : Nat) (f : Nat → Nat) : Nat → Nat → Nat
  | 0 => f
  | i + 1 => mat (diaM m r f i) i (4 + (i + 1) % 4) (8 + (i + 2) % 4) (12 + (i + 3) % 4) (m (sig r (8 + 2 * i))) (m (sig r (9 + 2 * i)))
def rndM (m : Nat → Nat) (f : Nat → Nat) : Nat → Nat → Nat
  | 0 => f
  | r + 1 => diaM m r (colM m r (rndM m f r) 4) 4
theorem colM_zero (m : Nat → Nat) (r : Nat) (f : Nat → Nat) : f = colM m r f 0 := by rw [colM]
theorem diaM_zero (m : Nat → Nat) (r : Nat) (f : Nat → Nat) : f = diaM m r f 0 := by rw [diaM]
theorem rndM_zero (m : Nat → Nat) (f : Nat → Nat) : f = rndM m f 0 := by rw [rndM]
theorem colM_succ (m : Nat → Nat) (r : Nat) (f : Nat → Nat) (i : Nat) : mat (colM m r f i) i (4 + i) (8 + i) (12 + i) (m (sig r (2 * i))) (m (sig r (2 * i + 1))) = colM m r f (i + 1) := by rw [colM]
theorem diaM_succ (m : Nat → Nat) (r : Nat) (f : Nat → Nat) (i : Nat) : mat (diaM m r f i) i (4 + (i + 1) % 4) (8 + (i + 2) % 4) (12 + (i + 3) % 4) (m (sig r (8 + 2 * i))) (m (sig r (9 + 2 * i))) = diaM m r f (i + 1) := by rw [diaM]
theorem rndM_succ (m : Nat → Nat) (f : Nat → Nat) (r : Nat) : diaM m r (colM m r (rndM m f r) 4) 4 = rndM m f (r + 1) := by rw [rndM]
theorem col_brn (m : Nat → Nat) (r : Nat) (f : Nat → Nat) : ∀ i, i ≤ 4 → ∀ t, t < 16 → colM m r f i t = if t % 4 < i then brn (fun c => m (sig r (2 * c))) (fun c => m (sig r (2 * c + 1))) f t else f t
  | 0, _, t, _ => by rw [if_neg (by omega), colM]
  | i + 1, hi, t, ht => by
    have ih := col_brn m r f i (by omega)
    rw [colM]
    exact brn_step (by omega) ih _ rfl rfl t ht
theorem shp_at (f : Nat → Nat) {t : Nat} (ht : t < 16) : shn 1 (shp 1 f) t = f t := by
  unfold shn shp
  congr 1
  omega
theorem dia_brn (m : Nat → Nat) (r : Nat) (f : Nat → Nat) : ∀ i, i ≤ 4 → ∀ t, t < 16 → diaM m r f i t = shn 1 (fun u => if u % 4 < i then brn (fun c => m (sig r (8 + 2 * c))) (fun c => m (sig r (9 + 2 * c))) (shp 1 f) u else shp 1 f u) t
  | 0, _, t, ht => by
    rw [diaM]
    exact ((congrArg (fun g => shn 1 g t) (funext fun u => if_neg (by omega))).trans (shp_at f ht)).symm
  | i + 1, hi, t, ht => by
    have ih := dia_brn m r f i (by omega)
    have hs : ∀ u, u < 16 → shp 1 (diaM m r f i) u = if u % 4 < i then brn (fun c => m (sig r (8 + 2 * c))) (fun c => m (sig r (9 + 2 * c))) (shp 1 f) u else shp 1 f u := fun u hu => by
      unfold shp
      rw [ih _ (by omega)]
      unfold shn
      rw [show 4 * ((4 * (u / 4) + (u % 4 + 4 + 1 * (u / 4)) % 4) / 4) + ((4 * (u / 4) + (u % 4 + 4 + 1 * (u / 4)) % 4) % 4 + 4 - 1 * ((4 * (u / 4) + (u % 4 + 4 + 1 * (u / 4)) % 4) / 4)) % 4 = u by omega]
      rfl
    have st := brn_step (by omega : i < 4) hs _ rfl rfl (4 * (t / 4) + (t % 4 + 4 - 1 * (t / 4)) % 4) (by omega)
    rw [diaM]
    refine Eq.trans ?_ st
    unfold mat
    have e0 : shp 1 (diaM m r f i) i = diaM m r f i i := by unfold shp; congr 1; omega
    have e1 : shp 1 (diaM m r f i) (4 + i) = diaM m r f i (4 + (i + 1) % 4) := by unfold shp; congr 1; omega
    have e2 : shp 1 (diaM m r f i) (8 + i) = diaM m r f i (8 + (i + 2) % 4) := by unfold shp; congr 1; omega
    have e3 : shp 1 (diaM m r f i) (12 + i) = diaM m r f i (12 + (i + 3) % 4) := by unfold shp; congr 1; omega
    rw [e0, e1, e2, e3]
    obtain ⟨q, hq⟩ : ∃ q, q = bq (diaM m r f i i) (diaM m r f i (4 + (i + 1) % 4)) (diaM m r f i (8 + (i + 2) % 4)) (diaM m r f i (12 + (i + 3) % 4)) (m (sig r (8 + 2 * i))) (m (sig r (9 + 2 * i))) := ⟨_, rfl⟩
    simp only
    rw [← hq]
    obtain ⟨u, hu⟩ : ∃ u, u = 4 * (t / 4) + (t % 4 + 4 - 1 * (t / 4)) % 4 := ⟨_, rfl⟩
    rw [← hu]
    have k0 : (u = i) = (t = i) := propext ⟨fun h => by omega, fun h => by omega⟩
    have k1 : (u = 4 + i) = (t = 4 + (i + 1) % 4) := propext ⟨fun h => by omega, fun h => by omega⟩
    have k2 : (u = 8 + i) = (t = 8 + (i + 2) % 4) := propext ⟨fun h => by omega, fun h => by omega⟩
    have k3 : (u = 12 + i) = (t = 12 + (i + 3) % 4) := propext ⟨fun h => by omega, fun h => by omega⟩
    have k4 : shp 1 (diaM m r f i) u = diaM m r f i t := by
      unfold shp
      rw [show 4 * (u / 4) + (u % 4 + 4 + 1 * (u / 4)) % 4 = t by omega]
    simp only [k0, k1, k2, k3, k4]
theorem brn_congr {x y f x2 y2 g : Nat → Nat} (hx : ∀ c, c < 4 → x c = x2 c) (hy : ∀ c, c < 4 → y c = y2 c) (h : ∀ t, t < 16 → f t = g t) : ∀ t, t < 16 → brn x y f t = brn x2 y2 g t := fun t ht => by
  unfold brn
  rw [h _ (by omega), h _ (by omega), h _ (by omega), h _ (by omega), hx _ (by omega), hy _ (by omega)]
theorem shp_zero (f : Nat → Nat) (t : Nat) : shp 0 f t = f t := by unfold shp; congr 1; omega
theorem shn_zero (f : Nat → Nat) (t : Nat) : shn 0 f t = f t := by unfold shn; congr 1; omega
theorem rnd_brs {m w : Nat → Nat} {l : List Nat} (hm : ∀ t, t < 16 → m t = wrd l t) : ∀ r t, t < 16 → rndM m w r t = brs l w r t
  | 0, t, _ => by rw [rndM, brs]
  | r + 1, t, ht => by
    have ih := rnd_brs (w := w) hm r
    have c4 : ∀ t, t < 16 → colM m r (rndM m w r) 4 t = bpart l r (brs l w r) 1 t := fun t ht => by
      rw [col_brn m r _ 4 (by omega) t ht, if_pos (by omega), bpart, bpart, bstep, shn_zero]
      exact brn_congr (fun c hc => (hm _ (sig_lt _ _)).trans (congrArg (fun z => wrd l (sig r z)) (by omega))) (fun c hc => (hm _ (sig_lt _ _)).trans (congrArg (fun z => wrd l (sig r z)) (by omega))) (fun u hu => (ih u hu).trans (shp_zero _ u).symm) t ht
    rw [rndM, brs, dia_brn m r _ 4 (by omega) t ht, bpart, bstep]
    unfold shn
    refine Eq.trans (if_pos (by omega)) ?_
    refine brn_congr (fun c hc => (hm _ (sig_lt _ _)).trans (congrArg (fun z => wrd l (sig r z)) (by omega))) (fun c hc => (hm _ (sig_lt _ _)).trans (congrArg (fun z => wrd l (sig r z)) (by omega))) (fun u hu => ?_) _ (by omega)
    unfold shp
    exact c4 _ (by omega)
theorem sqd_step {h s v z : Nat → Nat} {l : List Nat} {many : Nat} {last : Bool} {q : Nat} (hq : q < 8) (hb : ∀ t, t < 16 → v t = brs l (w0 h many last) 10 t) (hz : z = sqz h l many last) (hs : ∀ t, t < 8 → s t = if t < q then z t else h t) :
    ∀ t, t < 8 → upd s q ((s q ^^^ (v q ^^^ v (8 + q)) % 4294967296) % 4294967296) t = if t < q + 1 then z t else h t := by
  rw [hb q (by omega), hb (8 + q) (by omega)]
  subst hz
  exact sqz_step hq rfl hs
end Go.Proofs.YtbjaenjgahjikaaDoor
namespace Go.Proofs.YtbjaenjgahjikaaDoor
open Go Go.RowKit
theorem spr_zero {x : Nat} (h : x < 4294967296) : (x ^^^ 0 % 4294967296) % 4294967296 = x := by simp; omega
theorem spr_false {h s : Nat → Nat} {many : Nat} (hs : ∀ t, t < 16 → s t = if t % 8 < 8 then w00 h t else 0) : ∀ t, t < 16 → upd (upd s 12 ((s 12 ^^^ many % 4294967296) % 4294967296)) 13 ((upd s 12 ((s 12 ^^^ many % 4294967296) % 4294967296) 13 ^^^ 0 % 4294967296) % 4294967296) t = w0 h many false t := fun t ht => by
  have e : upd s 12 ((s 12 ^^^ many % 4294967296) % 4294967296) 13 = ivf 5 := by
    rw [updN _ _ (by decide), hs 13 (by decide), if_pos (by decide)]; rfl
  rw [e, spr_zero (ivf_lt 5)]
  by_cases h1 : t = 13
  · rw [h1, updS]; rfl
  · rw [updN _ _ h1]; exact w0_false hs t ht
theorem spr_true {h s : Nat → Nat} {many : Nat} (hs : ∀ t, t < 16 → s t = if t % 8 < 8 then w00 h t else 0) : ∀ t, t < 16 → upd (upd (upd s 12 ((s 12 ^^^ many % 4294967296) % 4294967296)) 13 ((upd s 12 ((s 12 ^^^ many % 4294967296) % 4294967296) 13 ^^^ 0 % 4294967296) % 4294967296)) 14 ((4294967295 ^^^ upd (upd s 12 ((s 12 ^^^ many % 4294967296) % 4294967296)) 13 ((upd s 12 ((s 12 ^^^ many % 4294967296) % 4294967296) 13 ^^^ 0 % 4294967296) % 4294967296) 14) % 4294967296) t = w0 h many true t := fun t ht => by
  have e := spr_false (many := many) hs
  by_cases h1 : t = 14
  · rw [h1, updS, e 14 (by decide)]; rfl
  · rw [updN _ _ h1, e t ht]
    unfold w0
    by_cases h2 : t = 12
    · rw [if_pos h2, if_pos h2]
    · rw [if_neg h2, if_neg h2, if_neg (by simp), if_neg (by simp [h1])]
theorem okB_of {n ln : Nat} {d : Nat → Nat} : okB n ln d = true ↔ (∀ j, n ≤ j → j < 64 → d j = 0) ∧ n = nbl ln := by
  unfold okB
  rw [Bool.and_eq_true, List.all_eq_true, decide_eq_true_iff]
  constructor
  · rintro ⟨h1, h2⟩
    refine ⟨fun j hj hj2 => ?_, h2⟩
    have := h1 j (List.mem_range.2 hj2)
    have hn : ¬ j < n := by omega
    simpa [hn] using this
  · rintro ⟨h1, h2⟩
    refine ⟨fun j hj => ?_, h2⟩
    by_cases hn : j < n
    · simp [hn]
    · simp [h1 j (by omega) (List.mem_range.1 hj)]
theorem hol_at (w : Nat → Nat) : ∀ n i, i < 4 * n → (hol w n).getD i 0 = w (i / 4) / 256 ^ (i % 4) % 256
  | 0, i, h => by omega
  | n + 1, i, h => by
    rw [hol, List.getD_eq_getElem?_getD]
    by_cases hi : i < 4 * n
    · rw [List.getElem?_append_left (by rw [hol_len]; exact hi), ← List.getD_eq_getElem?_getD, hol_at w n i hi]
    · rw [List.getElem?_append_right (by rw [hol_len]; omega), hol_len, List.getElem?_eq_getElem (by rw [lowl_len]; omega)]
      rw [show i / 4 = n by omega, show i % 4 = i - 4 * n by omega]
      simp [lowl]
theorem hsum_at (w : Nat → Nat) {i : Nat} (hi : i < 32) : w (i / 4) / 2 ^ (i % 4 * 8) % 256 = hsumf w i := by
  unfold hsumf
  rw [hol_at w 8 i (by omega), Nat.mul_comm (i % 4) 8, Nat.pow_mul]
def heldP (S : List Nat) (p j : Nat) : Nat := if j < p - 64 * nblk p then S.getD (64 * nblk p + j) 0 else 0
def AddInv (h d : Nat → Nat) (n ln : Nat) (l : List Nat) (hh g : Nat → Nat) (nn q : Nat) : Prop :=
  ln ≤ q ∧ q ≤ ln + l.length ∧ hh = hacc h (ln - n) (sS d n l) (nblk (n + (q - ln))) ∧ (∀ j, j < 64 → g j = heldP (sS d n l) (n + (q - ln)) j) ∧ nn = n + (q - ln) - 64 * nblk (n + (q - ln))
theorem sS_low (d : Nat → Nat) {n j : Nat} (l : List Nat) (h : j < n) : (sS d n l).getD j 0 = d j := by
  unfold sS
  rw [List.getD_eq_getElem?_getD, List.getElem?_append_left (by simpa using h), List.getElem?_map, List.getElem?_range h]
  rfl
theorem sS_high (d : Nat → Nat) (n j : Nat) (l : List Nat) : (sS d n l).getD (n + j) 0 = l.getD j 0 := by
  unfold sS
  rw [List.getD_eq_getElem?_getD, List.getElem?_append_right (by simp), List.length_map, List.length_range, Nat.add_sub_cancel_left, ← List.getD_eq_getElem?_getD]
theorem drop_at (l : List Nat) (c j : Nat) : (l.drop c).getD j 0 = l.getD (c + j) 0 := by
  rw [List.getD_eq_getElem?_getD, List.getElem?_drop, ← List.getD_eq_getElem?_getD]
theorem add_first {h d : Nat → Nat} {n ln : Nat} (l : List Nat) (hok : okB n ln d = true) : AddInv h d n ln l h d n ln := by
  obtain ⟨_, hnl, hn, _, hz⟩ := okB_open hok
  have hb : nblk (n + (ln - ln)) = 0 := by unfold nblk; omega
  refine ⟨Nat.le_refl _, by omega, by rw [hb]; rfl, fun j hj => ?_, by rw [hb]; omega⟩
  unfold heldP
  rw [hb]
  by_cases h1 : j < n
  · rw [if_pos (by omega), show 64 * 0 + j = j by omega, sS_low d l h1]
  · rw [if_neg (by omega), hz j (by omega) hj]
theorem add_lt {h d hh g : Nat → Nat} {n ln nn q : Nat} {l : List Nat} (hd : ∀ j, j < 64 → d j < 256) (hn : n ≤ 64) (hl : ∀ b ∈ l, b < 256) (hi : AddInv h d n ln l hh g nn q) : ∀ j, j < 64 → g j < 256 := fun j hj => by
  rw [hi.2.2.2.1 j hj]
  unfold heldP
  split
  · exact getD_lt (sS_lt (n := n) (fun j hj => hd j (by omega)) hl) _
  · decide
theorem add_nn {h d hh g : Nat → Nat} {n ln nn q : Nat} {l : List Nat} (hi : AddInv h d n ln l hh g nn q) : nn ≤ 64 := by
  rw [hi.2.2.2.2]; unfold nblk; omega
theorem add_full {h d hh g : Nat → Nat} {n ln nn q : Nat} {l : List Nat} (hnl : n ≤ ln) (hi : AddInv h d n ln l hh g nn q) (hN : nn = 64) (hm : (ln - n) % 64 = 0) {k : Nat} (hk : k = min (l.drop (q - ln)).length 64) (h0 : 0 < (l.drop (q - ln)).length) {hh' g' : Nat → Nat} {nn' q' : Nat} (e1 : hh' = sqz hh ((List.range 64).map g) q false) (e2 : ∀ j, j < 64 → g' j = if 0 ≤ j ∧ j < 0 + k then (l.drop (q - ln)).getD (j - 0) 0 else 0) (e3 : nn' = 0 + k) (e4 : q' = q + k) : AddInv h d n ln l hh' g' nn' q' := by
  obtain ⟨i1, i2, i3, i4, i5⟩ := hi
  rw [List.length_drop] at hk h0
  obtain ⟨B, hB⟩ : ∃ B, B = nblk (n + (q - ln)) := ⟨_, rfl⟩
  have hp : n + (q - ln) = 64 * (B + 1) := by have := hB; unfold nblk at this; omega
  have hp' : n + (q' - ln) = 64 * (B + 1) + k := by omega
  have hB' : nblk (n + (q' - ln)) = B + 1 := by unfold nblk; omega
  have hfull : (List.range 64).map g = ((sS d n l).drop (64 * B)).take 64 := by
    apply List.ext_getElem
    · simp [sS_len]; omega
    · intro j h1 h2
      simp only [List.getElem_map, List.getElem_range, List.getElem_take, List.getElem_drop]
      have hj : j < 64 := by simpa using h1
      rw [i4 j hj]
      unfold heldP
      rw [← hB, if_pos (by omega), List.getD_eq_getElem?_getD, List.getElem?_eq_getElem (by rw [sS_len]; omega)]
      rfl
  refine ⟨by omega, by omega, ?_, fun j hj => ?_, by rw [hB']; omega⟩
  · rw [e1, hB', hacc, hfull, i3, ← hB, show ln - n + 64 * (B + 1) = q by omega]
  · rw [e2 j hj]
    unfold heldP
    rw [hB']
    by_cases h1 : j < k
    · rw [if_pos (by omega), if_pos (by omega), drop_at, Nat.sub_zero, show 64 * (B + 1) + j = n + (q - ln + j) by omega, sS_high]
    · rw [if_neg (by omega), if_neg (by omega)]
theorem add_more {h d hh g : Nat → Nat} {n ln nn q : Nat} {l : List Nat} (hi : AddInv h d n ln l hh g nn q) (hN : nn < 64) {k : Nat} (hk : k = min (l.drop (q - ln)).length (64 - nn)) (h0 : 0 < (l.drop (q - ln)).length) {g' : Nat → Nat} {nn' q' : Nat} (e2 : ∀ j, j < 64 → g' j = if nn ≤ j ∧ j < nn + k then (l.drop (q - ln)).getD (j - nn) 0 else g j) (e3 : nn' = nn + k) (e4 : q' = q + k) : AddInv h d n ln l hh g' nn' q' := by
  obtain ⟨i1, i2, i3, i4, i5⟩ := hi
  rw [List.length_drop] at hk h0
  obtain ⟨B, hB⟩ : ∃ B, B = nblk (n + (q - ln)) := ⟨_, rfl⟩
  rw [← hB] at i3 i5
  have hpB : 64 * B ≤ n + (q - ln) := by rw [hB]; exact nblk_le _
  have hB' : nblk (n + (q' - ln)) = B := by have := hB; unfold nblk at this ⊢; omega
  refine ⟨by omega, by omega, by rw [hB']; exact i3, fun j hj => ?_, by rw [hB']; omega⟩
  rw [e2 j hj]
  unfold heldP
  rw [hB']
  by_cases h1 : nn ≤ j ∧ j < nn + k
  · rw [if_pos h1, if_pos (by omega), drop_at, show 64 * B + j = n + (q - ln + (j - nn)) by omega, sS_high]
  · rw [if_neg h1, i4 j hj]
    unfold heldP
    rw [← hB]
    by_cases h2 : j < nn
    · rw [if_pos (by omega), if_pos (by omega)]
    · rw [if_neg (by omega), if_neg (by omega)]
theorem add_shows {B : Mem} {bv : Value} {l : List Nat} {q ln k : Nat} (h : Shows B 1 bv (l.drop (q - ln)).length ((l.drop (q - ln)).map by8)) (hk : k ≤ (l.drop (q - ln)).length) (hq : ln ≤ q) : Shows B 1 (slPart 1 bv k (l.drop (q - ln)).length) (l.drop (q + k - ln)).length ((l.drop (q + k - ln)).map by8) :=
  h.cut hk (Nat.le_refl _) (by rw [List.drop_drop, List.take_of_length_le (by simp; omega), show q - ln + k = q + k - ln by omega])
theorem cH_congr {h h' d d' : Nat → Nat} {n n' ln ln' : Nat} (hh : h = h') (hd : ∀ j, j < 64 → d j = d' j) (hn : n = n') (hl : ln = ln') : Value.agg (cells 74 [pI .u32 8 h, pI .u8 64 d, pV (.int .i64 (n : Int)), pV (.int .i64 (ln : Int))]) = Value.agg (cells 74 [pI .u32 8 h', pI .u8 64 d', pV (.int .i64 (n' : Int)), pV (.int .i64 (ln' : Int))]) := by
  subst hh hn hl
  congr 1
  exact cells_congr ⟨rfl, fun _ _ => rfl, rfl, fun i hi => congrArg (fun z : Nat => Value.int .u8 (z : Int)) (hd i hi), rfl, fun _ _ => rfl, rfl, fun _ _ => rfl, trivial⟩
theorem add_last {h d hh g : Nat → Nat} {n ln nn q : Nat} {l : List Nat} (hi : AddInv h d n ln l hh g nn q) (h0 : (l.drop (q - ln)).length = 0) : hh = hacc h (ln - n) (sS d n l) (nblk (sS d n l).length) ∧ (∀ j, j < 64 → g j = ((sS d n l).drop (64 * nblk (sS d n l).length)).getD j 0) ∧ nn = ((sS d n l).drop (64 * nblk (sS d n l).length)).length ∧ q = ln + l.length := by
  obtain ⟨i1, i2, i3, i4, i5⟩ := hi
  rw [List.length_drop] at h0
  have hp : n + (q - ln) = (sS d n l).length := by rw [sS_len]; omega
  rw [hp] at i3 i4 i5
  refine ⟨i3, fun j hj => ?_, by rw [i5, List.length_drop], by omega⟩
  rw [i4 j hj, drop_at]
  unfold heldP
  by_cases h1 : j < (sS d n l).length - 64 * nblk (sS d n l).length
  · rw [if_pos h1]
  · rw [if_neg h1, List.getD_eq_getElem?_getD, List.getElem?_eq_none (by omega)]; rfl
end Go.Proofs.YtbjaenjgahjikaaDoor
namespace Go.Proofs.YtbjaenjgahjikaaDoor
open Go Go.RowKit
def bsl (l : List Nat) : List Nat := (List.range 32).map (bsum l)
theorem bsl_len (l : List Nat) : (bsl l).length = 32 := by simp [bsl]
theorem bsl_lt (l : List Nat) : ∀ b ∈ bsl l, b < 256 := range_lt fun _ _ => bsum_lt _ _
def xorl (l : List Nat) (c : Nat) : List Nat := l.map fun b => (b ^^^ c) % 256
theorem xorl_len (l : List Nat) (c : Nat) : (xorl l c).length = l.length := by simp [xorl]
theorem xorl_lt (l : List Nat) (c : Nat) : ∀ b ∈ xorl l c, b < 256 := fun b hb => by
  obtain ⟨x, _, rfl⟩ := List.mem_map.1 hb
  exact Nat.mod_lt _ (by decide)
def xst (l : List Nat) (c i : Nat) : List Nat := xorl (l.take i) c ++ l.drop i
theorem xst_zero (l : List Nat) (c : Nat) : l = xst l c 0 := by simp [xst, xorl]
theorem xst_len (l : List Nat) (c : Nat) {i : Nat} (h : i ≤ l.length) : (xst l c i).length = l.length := by simp [xst, xorl_len]; omega
theorem xst_next (l : List Nat) (c : Nat) {i : Nat} (h : i < l.length) : (xst l c i).set i (((xst l c i).getD i 0 ^^^ c) % 256) = xst l c (i + 1) := by
  have hl : (xorl (l.take i) c).length = i := by rw [xorl_len, List.length_take]; omega
  unfold xst
  rw [List.set_append_right _ _ (by omega), hl, Nat.sub_self, List.getD_eq_getElem?_getD, List.getElem?_append_right (by omega), hl, Nat.sub_self, List.drop_eq_getElem_cons h]
  simp only [List.set_cons_zero, List.getElem?_cons_zero, Option.getD_some]
  rw [List.take_succ_eq_append_getElem h, xorl, xorl, List.map_append]
  simp only [List.map_cons, List.map_nil, List.append_assoc, List.cons_append, List.nil_append]
theorem xst_all (l : List Nat) (c : Nat) : xst l c l.length = xorl l c := by simp [xst]
def mkey (k : List Nat) : List Nat := if 64 < k.length then bsl k else k
theorem mkey_le (k : List Nat) : (mkey k).length ≤ 64 := by unfold mkey; split <;> simp_all [bsl_len]
theorem mkey_lt {k : List Nat} (h : ∀ b ∈ k, b < 256) : ∀ b ∈ mkey k, b < 256 := by
  unfold mkey; split
  · exact bsl_lt k
  · exact h
def mpad (k : List Nat) : List Nat := mkey k ++ zrs (64 - (mkey k).length)
theorem mpad_len (k : List Nat) : (mpad k).length = 64 := by have := mkey_le k; simp [mpad, zrs_len]; omega
theorem mpad_lt {k : List Nat} (h : ∀ b ∈ k, b < 256) : ∀ b ∈ mpad k, b < 256 := fun b hb => by
  rcases List.mem_append.1 hb with hb | hb
  · exact mkey_lt h b hb
  · exact zrs_lt _ b hb
def mac (k s : List Nat) (j : Nat) : Nat := bsum (xorl (mpad k) 92 ++ bsl (xorl (mpad k) 54 ++ s)) j
theorem mac_lt (k s : List Nat) (j : Nat) : mac k s j < 256 := bsum_lt _ _
def macl (k s : List Nat) : List Nat := (List.range 32).map (mac k s)
theorem macl_len (k s : List Nat) : (macl k s).length = 32 := by simp [macl]
theorem macl_lt (k s : List Nat) : ∀ b ∈ macl k s, b < 256 := range_lt fun _ _ => mac_lt _ _ _
theorem nth_at {l : List Nat} {i : Nat} (h : i < l.length) : (l.map by8)[i]? = some (by8 (l.getD i 0)) := by
  rw [List.getElem?_map, List.getElem?_eq_getElem h, List.getD_eq_getElem?_getD, List.getElem?_eq_getElem h]; rfl
def thr3 (a b c : Nat → Nat) (t : Nat) : Nat := if t < 32 then a t else if t < 64 then b (t - 32) else c (t - 64)
def two2 (a b : Nat → Nat) (t : Nat) : Nat := if t < 32 then a t else b (t - 32)
def kT (c : Nat → Nat) (s : List Nat) : List Nat := macl ((List.range 32).map c) s
def kA (c : Nat → Nat) (s : List Nat) : Nat → Nat := mac (kT c s) [1]
def kB (c : Nat → Nat) (s : List Nat) : Nat → Nat := mac (kT c s) ((List.range 32).map (kA c s) ++ [2])
def kC (c : Nat → Nat) (s : List Nat) : Nat → Nat := mac (kT c s) ((List.range 32).map (kB c s) ++ [3])
theorem kT_lt (c : Nat → Nat) (s : List Nat) : ∀ b ∈ kT c s, b < 256 := macl_lt _ _
theorem kT_len (c : Nat → Nat) (s : List Nat) : (kT c s).length = 32 := macl_len _ _
theorem app_lt {l : List Nat} {x : Nat} (h : ∀ b ∈ l, b < 256) (hx : x < 256) : ∀ b ∈ l ++ [x], b < 256 := fun b hb => by
  rcases List.mem_append.1 hb with hb | hb
  · exact h b hb
  · simp at hb; omega
end Go.Proofs.YtbjaenjgahjikaaDoor
namespace Go.Proofs.YtbjaenjgahjikaaDoor
open Go Go.RowKit
theorem tur_first {k : Nat → Nat} {x n : Nat} : ∀ t, t < n → k t = if t < 0 then (k t ^^^ x) % 256 else k t := fun t _ => by rw [if_neg (Nat.not_lt_zero t)]
theorem tur_next {k s : Nat → Nat} {x i n v : Nat} (h : ∀ t, t < n → s t = if t < i then (k t ^^^ x) % 256 else k t) (hi : i < n) (hv : v = (s i ^^^ x) % 256) : ∀ t, t < n → upd s i v t = if t < i + 1 then (k t ^^^ x) % 256 else k t := fun t ht => by
  unfold upd
  by_cases e : t = i
  · subst e
    have hs := h t ht
    rw [if_neg (Nat.lt_irrefl t)] at hs
    rw [if_pos rfl, if_pos (by omega), hv, hs]
  · rw [if_neg e, h t ht]
    by_cases h1 : t < i
    · rw [if_pos h1, if_pos (by omega)]
    · rw [if_neg h1, if_neg (by omega)]
theorem tur_last {p : List Nat} {s : Nat → Nat} {x : Nat} (hp : p.length = 64) (h : ∀ t, t < 64 → s t = if t < 64 then (p.getD t 0 ^^^ x) % 256 else p.getD t 0) : ∀ t, t < 64 → s t = (xorl p x).getD t 0 := fun t ht => by
  rw [h t ht, if_pos ht]
  simp [xorl, List.getD_eq_getElem?_getD, List.getElem?_eq_getElem (show t < p.length by omega)]
theorem fit_at {k l : List Nat} (h : mkey k = l) (hl : l.length ≤ 64) {n : Nat} (hn : n = min l.length 64) : ∀ j, j < 64 → (if 0 ≤ j ∧ j < 0 + n then l.getD (j - 0) 0 else 0) = (mpad k).getD j 0 := fun j hj => by
  unfold mpad
  rw [h, Nat.sub_zero, List.getD_eq_getElem?_getD, List.getD_eq_getElem?_getD]
  by_cases hk : j < l.length
  · rw [if_pos (by omega), List.getElem?_append_left hk]
  · rw [if_neg (by omega), List.getElem?_append_right (by omega)]
    rw [← List.getD_eq_getElem?_getD]
    exact zrs_at (by omega)
theorem shows32 (r : Nat) (f : Nat → Nat) (t : TypeId) : Shows [⟨r, arr .u8 32 f, t⟩] 1 (.slice (some ⟨r, 0, none⟩) 32 32) ((List.range 32).map f).length (((List.range 32).map f).map by8) := by
  have h := arr_shows r 32 f t 0 32 32 (by decide) (by decide)
  simp only [Nat.zero_add] at h
  exact h
end Go.Proofs.YtbjaenjgahjikaaDoor
namespace Go.Proofs.YtbjaenjgahjikaaDoor
open Go Go.RowKit
abbrev cS (has : Bool) (k : Nat → Nat) (n : Nat) (ch h : Nat → Nat) : Array Value := cells 98 [pV (.bool has), pI .u8 32 k, pV (u n), pI .u8 32 ch, pI .u8 32 h]
abbrev SV (has : Bool) (k : Nat → Nat) (n : Nat) (ch h : Nat → Nat) : Value := .agg (cS has k n ch h)
theorem cells_shows {N o l cap : Nat} {ps : List Part} (r k : Nat) (t : TypeId) (g : Nat → Nat) (hk : catAt ps k = some (o, pI .u8 l g)) (hN : o + l ≤ N) (hc : l ≤ cap) : Shows [⟨r, cells N ps, t⟩] 1 (.slice (some ⟨r, o, none⟩) l cap) ((List.range l).map g).length (((List.range l).map g).map by8) := by
  have e : ((List.range l).map g).length = l := by simp
  refine .inr ⟨r, o, cap, cells N ps, t, by rw [e], by rw [e]; exact hc, by simp, by simp, by rw [e, cells, arrv_size]; omega, fun j u hj => ?_⟩
  rw [List.getElem?_map, List.getElem?_map] at hj
  by_cases hl : j < l
  · rw [List.getElem?_range hl] at hj
    simp at hj
    rw [cells, arrv_get (by omega), cat_part hk j hl, ← hj]
  · rw [List.getElem?_eq_none (by simpa using hl)] at hj
    cases hj
theorem key_pad (l : List Nat) : ∀ j, j < 32 → (if 0 ≤ j ∧ j < 0 + min l.length 32 then l.getD (j - 0) 0 else 0) = l.getD j 0 := fun j hj => by
  split
  · rfl
  · rw [List.getD_eq_getElem?_getD, List.getElem?_eq_none (by omega)]; rfl
def sbeg (l : List Nat) (j : Nat) : Nat := if 32 < l.length then bsum l j else l.getD j 0
theorem sbeg_short {l : List Nat} (h : ¬ 32 < l.length) : sbeg l = fun j => l.getD j 0 := by funext j; exact if_neg h
theorem sbeg_long {l : List Nat} (h : 32 < l.length) : sbeg l = bsum l := by funext j; exact if_pos h
theorem sbeg_lt {l : List Nat} (h : ∀ b ∈ l, b < 256) (j : Nat) : sbeg l j < 256 := by
  unfold sbeg
  split
  · exact bsum_lt _ _
  · exact getD_lt h j
def hx (h : Nat → Nat) (l : List Nat) : Nat → Nat := bsum ((List.range 32).map h ++ l)
theorem hx_lt (h : Nat → Nat) (l : List Nat) (j : Nat) : hx h l j < 256 := bsum_lt _ _
theorem apps_lt {l k : List Nat} (h : ∀ b ∈ l, b < 256) (h2 : ∀ b ∈ k, b < 256) : ∀ b ∈ l ++ k, b < 256 := fun b hb => (List.mem_append.1 hb).elim (h b) (h2 b)
theorem thr3_0 (a b c : Nat → Nat) : ∀ j, j < 32 → thr3 a b c (0 + j) = a j := fun j hj => by unfold thr3; rw [if_pos (by omega), Nat.zero_add]
theorem thr3_1 (a b c : Nat → Nat) : ∀ j, j < 32 → thr3 a b c (32 + j) = b j := fun j hj => by unfold thr3; rw [if_neg (by omega), if_pos (by omega), Nat.add_sub_cancel_left]
theorem thr3_2 (a b c : Nat → Nat) : ∀ j, j < 32 → thr3 a b c (64 + j) = c j := fun j hj => by unfold thr3; rw [if_neg (by omega), if_neg (by omega), Nat.add_sub_cancel_left]
end Go.Proofs.YtbjaenjgahjikaaDoor
namespace Go.Proofs.YtbjaenjgahjikaaDoor
open Go Go.ChangeShapes Go.WideShapes Go.ChangeAt Go.RowKit
abbrev RB : Nat := 140737488351232
section
variable {H : Type} {enc : TypeId × Value → H} {P : Program} {t e : TypeId}
theorem shows_num {B : Mem} {z n len cap : Nat} {a : Option Addr} {xs : List Value} (h : Shows B z (.slice a len cap) n xs) : len = n := by
  rcases h with ⟨h0, _, oa, c, h1, _⟩ | ⟨b, o, c, cs, t, h1, _⟩
  · injection h1 with _ h2; rw [h2, h0]
  · injection h1
theorem open_sized {W : World} {base : Nat} {s : Nat → Bool} {held : Bool} {v : Value} {d : DataW H} {ps : List MemPlace} {B : Mem} {n : Nat} {xs : List Value} (ht : P.underlying t = some (.slice e)) (he : P.underlying e = some (.int .u8)) (hc : P.cellsOf e = 1) (hby : P.bytesOf e = 1)
    (hd : DataW.Trod enc P W base s held t v d ps) (hw : ∀ k ∈ d.weights P t, k ≤ RB) (hv : Shows B 1 v n xs) : n ≤ RB := by
  have hcell : ∃ a len cap, v = .slice a len cap := by
    rcases hv with ⟨_, _, oa, c, h1, _⟩ | ⟨b, o, c, cs, t, h1, _⟩
    · exact ⟨_, _, _, h1⟩
    · exact ⟨_, _, _, h1⟩
  obtain ⟨a0, len0, cap0, rfl⟩ := hcell
  have hn := shows_num hv
  subst hn
  obtain ⟨fuel, hf⟩ := hd
  rcases open_ints ht he hc hf with ⟨h1, _⟩ | ⟨a, len, cap, zs, h1, _, hlc, hcm, hzl, hx, hz, _⟩
  · have h1 : [Value.slice a0 len0 cap0] = [.slice none 0 0] := h1
    injection h1 with h1 _
    injection h1 with _ h2
    omega
  · have h1 : [Value.slice a0 len0 cap0] = [.slice (some a) len cap] := h1
    injection h1 with h1 _
    injection h1 with _ h2
    have hlz : len ≤ zs.length := by rw [hzl]; split <;> omega
    injection hx with hx _
    subst hx
    have := hw ((lits .u8 (zs.take len)).length * 1 + (lits .u8 (zs.drop len)).length * 1) (by
      simp only [DataW.weights, ht, hby]
      rw [← Nat.add_mul]
      exact List.mem_cons_self)
    have hl : (lits (H := H) .u8 (zs.take len)).length = len := by simp [lits]; omega
    rw [hl] at this
    omega
theorem each_sized {ts : List TypeId} {ds : List (DataW H)} (h : (DataW.weightsEach P ts ds).all (· ≤ reachBytes) = true) {j : Nat} {t : TypeId} {d : DataW H} (ht : ts[j]? = some t) (hd : ds[j]? = some d) : ∀ n ∈ d.weights P t, n ≤ RB := fun n hn => by
  have := List.all_eq_true.1 h _ (DataW.weights_mem_each ht hd n hn)
  exact of_decide_eq_true this
end
end Go.Proofs.YtbjaenjgahjikaaDoor
namespace Go.Proofs.YtbjaenjgahjikaaDoor
open Go Go.ChangeShapes Go.WideShapes Go.ChangeAt Go.RowKit
abbrev Dat := Nat
def repN (P : Program) (G : Mem) : Nat → TypeId → List Value → Prop
  | 0, _, _ => False
  | d + 1, t, cs => match P.underlying t with
    | some (.int k) => ∃ z, cs = [.int k z] ∧ (Lit.int k z).wf = true
    | some .bool => ∃ b, cs = [.bool b]
    | some .string => ∃ l : List Nat, cs = [sv l] ∧ (∀ b ∈ l, b < 256) ∧ l.length ≤ maxLen
    | some (.struct fs) => cs.length = P.cellsOf t ∧ ∀ (i : Nat) f, fs[i]? = some f → repN P G d f.type ((cs.drop f.offset).take (P.cellsOf f.type))
    | some (.array n e) => cs.length = P.cellsOf t ∧ ∀ i, i < n → repN P G d e ((cs.drop (i * P.cellsOf e)).take (P.cellsOf e))
    | some (.slice e) => ∃ v xs n, cs = [v] ∧ n ≤ maxLen ∧ Shows G (P.cellsOf e) v n xs ∧ ∀ i, i < n → repN P G d e ((xs.drop (i * P.cellsOf e)).take (P.cellsOf e))
    | _ => False
abbrev Rep (P : Program) (G : Mem) (t : TypeId) (cs : List Value) (d : Dat) : Prop := repN P G d t cs
section
variable {P : Program} {G : Mem}
theorem repN_mono {G' : Mem} (hs : ∀ x ∈ G, x ∈ G') : ∀ (d : Nat) {t : TypeId} {cs : List Value}, repN P G d t cs → repN P G' d t cs
  | 0, _, _, h => h
  | d + 1, t, cs, h => by
    unfold repN at h ⊢
    cases hu : P.underlying t with
    | none => rw [hu] at h; exact h
    | some td =>
      rw [hu] at h
      cases td with
      | struct fs => exact ⟨h.1, fun i f hf => repN_mono hs d (h.2 i f hf)⟩
      | array n e => exact ⟨h.1, fun i hi => repN_mono hs d (h.2 i hi)⟩
      | slice e =>
        obtain ⟨v, xs, n, h1, h2, h3, h4⟩ := h
        exact ⟨v, xs, n, h1, h2, h3.mono hs, fun i hi => repN_mono hs d (h4 i hi)⟩
      | _ => exact h
def closedT (P : Program) (L : List TypeId) : Bool := L.all fun t => match P.underlying t with
  | some (.int _) | some .bool | some .string => true
  | some (.struct fs) => fs.all fun f => L.contains f.type
  | some (.array _ e) => L.contains e
  | some (.slice e) => L.contains e && decide (0 < P.cellsOf e)
  | _ => false
theorem closed_at {L : List TypeId} (h : closedT P L = true) {t : TypeId} (ht : t ∈ L) : (match P.underlying t with
  | some (.int _) | some .bool | some .string => true
  | some (.struct fs) => fs.all fun f => L.contains f.type
  | some (.array _ e) => L.contains e
  | some (.slice e) => L.contains e && decide (0 < P.cellsOf e)
  | _ => false) = true := (List.all_eq_true.1 h) t ht
theorem rep_all {W : World} {n d : Nat} (T : Nat → TypeId) (C : Nat → List Value) (h : ∀ i, i < n → ∃ G, repN P G d (T i) (C i) ∧ MemR G W) : ∃ G : Mem, MemR G W ∧ ∀ i, i < n → repN P G d (T i) (C i) := by
  induction n with
  | zero => exact ⟨[], by simp [MemR], fun i hi => absurd hi (Nat.not_lt_zero i)⟩
  | succ n ih =>
    obtain ⟨G, h2, h3⟩ := ih fun i hi => h i (by omega)
    obtain ⟨G', h4, h5⟩ := h n (by omega)
    refine ⟨G ++ G', fun x hx => (List.mem_append.1 hx).elim (h2 x) (h5 x), fun i hi => ?_⟩
    by_cases hin : i < n
    · exact repN_mono (fun x hx => List.mem_append_left _ hx) d (h3 i hin)
    · obtain rfl : i = n := by omega
      exact repN_mono (fun x hx => List.mem_append_right _ hx) d h4
variable {H : Type} {enc : TypeId × Value → H}
theorem rep_trod {W : World} {base : Nat} {s : Nat → Bool} {held : Bool} {L : List TypeId} (hL : closedT P L = true) : ∀ (fuel : Nat) (t : TypeId) (cs : List Value) (x : DataW H × List MemPlace), t ∈ L → DataW.trod enc P W base s held fuel t cs = some x → ∃ G, repN P G fuel t cs ∧ MemR G W := by
  intro fuel
  induction fuel with
  | zero => intro t cs x _ h; simp [DataW.trod] at h
  | succ m ih =>
    intro t cs x ht h
    have hc := closed_at hL ht
    cases hu : P.underlying t with
    | none => rw [hu] at hc; cases hc
    | some td =>
      rw [hu] at hc
      cases td with
      | int k =>
        obtain ⟨z, rfl, _, hw⟩ := DataW.trod_int hu h
        exact ⟨[], by unfold repN; rw [hu]; exact ⟨z, rfl, hw⟩, by simp [MemR]⟩
      | bool =>
        obtain ⟨b, rfl, _⟩ := DataW.trod_bool hu h
        exact ⟨[], by unfold repN; rw [hu]; exact ⟨b, rfl⟩, by simp [MemR]⟩
      | string =>
        obtain ⟨b, rfl, _, hm⟩ := DataW.trod_string hu h
        obtain ⟨l, hl, rfl⟩ := str_list b
        exact ⟨[], by unfold repN; rw [hu]; exact ⟨l, rfl, hl, by rw [← bstr_size]; exact hm⟩, by simp [MemR]⟩
      | struct fs =>
        obtain ⟨xs, m', e1, _, hlen, hn, hel⟩ := DataW.trod_struct hu h
        have e1 : m = m' := by omega
        subst e1
        obtain ⟨G, h2, h3⟩ := rep_all (P := P) (W := W) (n := fs.size) (d := m) (fun i => (fs[i]?.map (·.type)).getD 0) (fun i => match fs[i]? with
          | some f => (cs.drop f.offset).take (P.cellsOf f.type)
          | none => []) fun i hi => by
            have hf : fs[i]? = some fs[i] := Array.getElem?_eq_getElem hi
            have := hel i fs[i] hf
            rw [List.getElem?_eq_getElem (by omega)] at this
            have hmem : fs[i].type ∈ L := by
              have := (Array.all_eq_true.1 hc) i hi
              simpa using this
            simp only [hf, Option.map_some, Option.getD_some]
            exact ih _ _ _ hmem this
        refine ⟨G, ?_, h2⟩
        unfold repN
        rw [hu]
        refine ⟨hlen, fun i f hf => ?_⟩
        have := h3 i (Array.getElem?_eq_some_iff.1 hf).1
        simp only [hf, Option.map_some, Option.getD_some] at this
        exact this
      | array n e =>
        obtain ⟨xs, m', e1, _, hlen, hn, hel⟩ := DataW.trod_array hu h
        have e1 : m = m' := by omega
        subst e1
        have hmem : e ∈ L := by simpa using hc
        obtain ⟨G, h2, h3⟩ := rep_all (P := P) (W := W) (n := n) (d := m) (fun _ => e) (fun i => (cs.drop (i * P.cellsOf e)).take (P.cellsOf e)) fun i hi => by
          have := hel i hi
          rw [List.getElem?_eq_getElem (by omega)] at this
          exact ih _ _ _ hmem this
        refine ⟨G, ?_, h2⟩
        unfold repN
        rw [hu]
        exact ⟨hlen, h3⟩
      | slice e =>
        have hc : (L.contains e && decide (0 < P.cellsOf e)) = true := hc
        rw [Bool.and_eq_true, decide_eq_true_eq] at hc
        have hmem : e ∈ L := by simpa using hc.1
        have hz := hc.2
        rcases DataW.trod_slice hu h with ⟨rfl, _⟩ | ⟨a, len, cap, elems, rest, m', e1, rfl, _, hb, hl, hm, hlen, hel, _, _⟩
        · exact ⟨[], by unfold repN; rw [hu]; exact ⟨_, [], 0, rfl, by simp [maxLen], .inl ⟨rfl, rfl, none, 0, rfl, fun _ => rfl⟩, fun i hi => absurd hi (Nat.not_lt_zero i)⟩, by simp [MemR]⟩
        have e1 : m = m' := by omega
        subst e1
        obtain ⟨z, hze⟩ : ∃ z, z = P.cellsOf e := ⟨_, rfl⟩
        rw [← hze] at hz hel
        have hE : ∀ i, i < len → ∃ ci y, W.cells? base (a.add (i * z)) z = some ci ∧ DataW.trod enc P W base s held m e ci = some y := fun i hi => by
          have := hel i hi
          rw [List.getElem?_eq_getElem (by omega)] at this
          cases hcc : W.cells? base (a.add (i * z)) z with
          | none => rw [hcc] at this; cases this
          | some ci => rw [hcc] at this; exact ⟨ci, _, rfl, this⟩
        by_cases h0 : len = 0
        · subst h0
          exact ⟨[], by unfold repN; rw [hu]; exact ⟨_, [], 0, rfl, by simp [maxLen], .inl ⟨rfl, rfl, some a, cap, rfl, fun h => by cases h⟩, fun i hi => absurd hi (Nat.not_lt_zero i)⟩, by simp [MemR]⟩
        obtain ⟨c0, y0, hc0, _⟩ := hE 0 (by omega)
        obtain ⟨b, off, spot⟩ := a
        have hg0 := (World.cells?_some hc0).2.2 0 hz
        have hl0 := (World.cells?_some hc0).2.1
        rw [List.getElem?_eq_getElem (by omega)] at hg0
        have hspot : spot = none := by simpa [Addr.add] using World.cell?_spot hg0
        subst hspot
        obtain ⟨cs0, et, fr, hbk⟩ := row_of_cell (b := b) (o := off) (by simpa [Addr.add] using hg0)
        have hcl : ∀ o, W.cell? ⟨b, o, none⟩ = cs0[o]? := fun o => by simp [World.cell?, hbk]
        have hadd : ∀ i r, (Addr.add (Addr.add ⟨b, off, none⟩ (i * z)) r) = ⟨b, off + (i * z + r), none⟩ := fun i r => by
          rw [Go.WideShapes.add_plain, Go.WideShapes.add_plain, Nat.add_assoc]
        have hcell : ∀ i, i < len → ∀ ci, W.cells? base (Addr.add ⟨b, off, none⟩ (i * z)) z = some ci → ∀ r, r < z → cs0[off + (i * z + r)]? = ci[r]? := fun i _ ci hci r hr => by
          rw [← hcl, ← hadd i r]
          exact (World.cells?_some hci).2.2 r hr
        have hbound : off + len * z ≤ cs0.size := by
          obtain ⟨ci, y, hci, _⟩ := hE (len - 1) (by omega)
          have h1 := hcell (len - 1) (by omega) ci hci (z - 1) (by omega)
          rw [List.getElem?_eq_getElem (by have := (World.cells?_some hci).2.1; omega)] at h1
          have h2 := (Array.getElem?_eq_some_iff.1 h1).1
          have h3 : (len - 1) * z + z = len * z := by rw [← Nat.succ_mul]; congr 1; omega
          omega
        obtain ⟨xs, hxs⟩ : ∃ xs, xs = (cs0.toList.drop off).take (len * z) := ⟨_, rfl⟩
        have hxl : xs.length = len * z := by rw [hxs]; simp; omega
        have hxj : ∀ j, j < len * z → xs[j]? = cs0[off + j]? := fun j hj => by rw [hxs, List.getElem?_take_of_lt hj, List.getElem?_drop]; simp
        obtain ⟨G, h2, h3⟩ := rep_all (P := P) (W := W) (n := len) (d := m) (fun _ => e) (fun i => (xs.drop (i * z)).take z) fun i hi => by
          obtain ⟨ci, y, hci, hy⟩ := hE i hi
          have hcl2 := (World.cells?_some hci).2.1
          have hle : i * z + z ≤ len * z := by rw [← Nat.succ_mul]; exact Nat.mul_le_mul_right _ hi
          have : (xs.drop (i * z)).take z = ci := by
            apply List.ext_getElem?
            intro r
            by_cases hr : r < z
            · rw [List.getElem?_take_of_lt hr, List.getElem?_drop, hxj _ (by omega)]
              exact hcell i hi ci hci r hr
            · rw [List.getElem?_eq_none (by rw [List.length_take]; omega), List.getElem?_eq_none (by omega)]
          rw [this]
          exact ih _ _ _ hmem hy
        refine ⟨⟨b, cs0, et⟩ :: G, ?_, fun x hx => ?_⟩
        · unfold repN
          rw [hu]
          refine ⟨_, xs, len, rfl, by omega, .inr ⟨b, off, cap, cs0, et, rfl, by omega, List.mem_cons_self, by rw [← hze]; exact hxl, by rw [← hze]; exact hbound, fun j u hj => ?_⟩, fun i hi => ?_⟩
          · rw [← hxj j (by rw [← hxl]; exact (List.getElem?_eq_some_iff.1 hj).1)]; exact hj
          · rw [← hze]
            exact repN_mono (fun x hx => List.mem_cons_of_mem _ hx) m (h3 i hi)
        · rcases List.mem_cons.1 hx with rfl | hx
          · exact ⟨(Array.getElem?_eq_some_iff.1 hbk).1, fun o _ => hcl o⟩
          · exact h2 x hx
      | _ => cases hc
theorem rep_open {W : World} {base : Nat} {s : Nat → Bool} {held : Bool} {t : TypeId} {v : Value} {d : DataW H} {ps : List MemPlace} (L : List TypeId) (hL : closedT P L = true) (ht : t ∈ L) (hd : DataW.Trod enc P W base s held t v d ps) : ∃ x G, Rep P G t v.cells.toList x ∧ MemR G W := by
  obtain ⟨fuel, hf⟩ := hd
  exact ⟨fuel, rep_trod hL fuel t _ _ ht hf⟩
end
end Go.Proofs.YtbjaenjgahjikaaDoor
namespace Go.Proofs.YtbjaenjgahjikaaDoor
open Go Go.ChangeShapes Go.WideShapes Go.ChangeAt Go.RowKit
structure RawT where
  a : Int
  b : Int
  c : Int
  t : List Nat
abbrev rawC (r : RawT) : List Value := [.int .i64 r.a, .int .i64 r.b, .int .i64 r.c, sv r.t]
def rawOk (r : RawT) : Prop := (∀ x ∈ r.t, x < 256) ∧ r.t.length ≤ maxLen
section
variable {P : Program} {G : Mem}
theorem rep_int {t : TypeId} {cs : List Value} {d : Dat} {k : IntKind} (hu : P.underlying t = some (.int k)) (h : Rep P G t cs d) : ∃ z, cs = [.int k z] ∧ (Lit.int k z).wf = true := by
  cases d with
  | zero => exact h.elim
  | succ d => unfold Rep repN at h; rw [hu] at h; exact h
theorem rep_str {t : TypeId} {cs : List Value} {d : Dat} (hu : P.underlying t = some .string) (h : Rep P G t cs d) : ∃ l : List Nat, cs = [sv l] ∧ (∀ b ∈ l, b < 256) ∧ l.length ≤ maxLen := by
  cases d with
  | zero => exact h.elim
  | succ d => unfold Rep repN at h; rw [hu] at h; exact h
theorem rep_struct {t : TypeId} {cs : List Value} {d : Dat} {fs : Array Field} (hu : P.underlying t = some (.struct fs)) (h : Rep P G t cs d) : ∃ d', cs.length = P.cellsOf t ∧ ∀ (i : Nat) f, fs[i]? = some f → Rep P G f.type ((cs.drop f.offset).take (P.cellsOf f.type)) d' := by
  cases d with
  | zero => exact h.elim
  | succ d => unfold Rep repN at h; rw [hu] at h; exact ⟨d, h⟩
theorem rep_slice {t e : TypeId} {cs : List Value} {d : Dat} (hu : P.underlying t = some (.slice e)) (h : Rep P G t cs d) : ∃ d' v xs n, cs = [v] ∧ n ≤ maxLen ∧ Shows G (P.cellsOf e) v n xs ∧ ∀ i, i < n → Rep P G e ((xs.drop (i * P.cellsOf e)).take (P.cellsOf e)) d' := by
  cases d with
  | zero => exact h.elim
  | succ d => unfold Rep repN at h; rw [hu] at h; exact ⟨d, h⟩
theorem rep_raw {t : TypeId} {cs : List Value} {d : Dat} {f0 f1 f2 f3 : Field} (ht : P.underlying t = some (.struct #[f0, f1, f2, f3])) (hc : P.cellsOf t = 4)
    (o0 : f0.offset = 0) (o1 : f1.offset = 1) (o2 : f2.offset = 2) (o3 : f3.offset = 3) (u0 : P.underlying f0.type = some (.int .i64)) (u1 : P.underlying f1.type = some (.int .i64)) (u2 : P.underlying f2.type = some (.int .i64)) (u3 : P.underlying f3.type = some .string)
    (c0 : P.cellsOf f0.type = 1) (c1 : P.cellsOf f1.type = 1) (c2 : P.cellsOf f2.type = 1) (c3 : P.cellsOf f3.type = 1) (h : Rep P G t cs d) : ∃ r : RawT, cs = rawC r ∧ rawOk r := by
  obtain ⟨d', hl, he⟩ := rep_struct ht h
  rw [hc] at hl
  match cs, hl with
  | [w0, w1, w2, w3], _ =>
    have e0 := he 0 f0 rfl
    have e1 := he 1 f1 rfl
    have e2 := he 2 f2 rfl
    have e3 := he 3 f3 rfl
    rw [o0, c0] at e0
    rw [o1, c1] at e1
    rw [o2, c2] at e2
    rw [o3, c3] at e3
    obtain ⟨za, h0, _⟩ := rep_int u0 e0
    obtain ⟨zb, h1, _⟩ := rep_int u1 e1
    obtain ⟨zc, h2, _⟩ := rep_int u2 e2
    obtain ⟨tx, h3, hb, hm⟩ := rep_str u3 e3
    simp at h0 h1 h2 h3
    exact ⟨⟨za, zb, zc, tx⟩, by rw [h0, h1, h2, h3], hb, hm⟩
theorem rep_elems {α : Type} {e : TypeId} {z n : Nat} {d : Dat} (C : α → List Value) (Q : α → Prop) {xs : List Value} (hx : xs.length = n * z) (hE : ∀ cs d, Rep P G e cs d → ∃ x, cs = C x ∧ Q x)
    (he : ∀ i, i < n → Rep P G e ((xs.drop (i * z)).take z) d) : ∃ rs : List α, rs.length = n ∧ xs = rs.flatMap C ∧ ∀ r ∈ rs, Q r := by
  induction n generalizing xs with
  | zero => exact ⟨[], rfl, by simpa using hx, by simp⟩
  | succ m ih =>
    have h0 := he 0 (by omega)
    rw [Nat.zero_mul, List.drop_zero] at h0
    obtain ⟨r, hr, hq⟩ := hE _ _ h0
    obtain ⟨rs, h1, h2, h3⟩ := ih (xs := xs.drop z) (by rw [List.length_drop, hx, Nat.succ_mul]; omega) fun i hi => by
      have := he (i + 1) (by omega)
      rw [List.drop_drop, show z + i * z = (i + 1) * z by rw [Nat.succ_mul]; omega]
      exact this
    refine ⟨r :: rs, by simp [h1], ?_, fun x hx' => ?_⟩
    · rw [List.flatMap_cons, ← h2, ← hr, List.take_append_drop]
    · rcases List.mem_cons.1 hx' with rfl | hx'
      · exact hq
      · exact h3 x hx'
end
abbrev rawK (r : RawT) : Array Value := cells 4 [pV (.int .i64 r.a), pV (.int .i64 r.b), pV (.int .i64 r.c), pV (sv r.t)]
theorem rawC_len (r : RawT) : (rawC r).length = 4 := rfl
theorem raw_cells (r : RawT) : Value.agg (rawC r).toArray = Value.agg (rawK r) := rfl
theorem shows_some {G : Mem} {v : Value} {rs : List RawT} (m : Nat) (h : Shows G 4 v rs.length (rs.flatMap rawC)) : Shows G 4 (slPart 4 v 0 (min rs.length m)) (rs.take m).length ((rs.take m).flatMap rawC) := by
  have := h.part (i := 0) (j := min rs.length m) (by omega) (by omega)
  rw [Nat.zero_mul, List.drop_zero, Nat.sub_zero] at this
  have e1 : (rs.take m).length = min rs.length m := by rw [List.length_take, Nat.min_comm]
  have e2 : (rs.flatMap rawC).take (min rs.length m * 4) = (rs.take m).flatMap rawC := by
    rw [flatMap_take rawC_len]
    congr 1
    rcases Nat.le_total rs.length m with hm | hm
    · rw [Nat.min_eq_left hm, List.take_length, List.take_of_length_le hm]
    · rw [Nat.min_eq_right hm]
  rw [e1, ← e2]
  exact this
theorem open_raws {P : Program} {G : Mem} {t e : TypeId} {v : Value} {d : Dat} {f0 f1 f2 f3 : Field} (hu : P.underlying t = some (.slice e)) (ht : P.underlying e = some (.struct #[f0, f1, f2, f3])) (hc : P.cellsOf e = 4)
    (o0 : f0.offset = 0) (o1 : f1.offset = 1) (o2 : f2.offset = 2) (o3 : f3.offset = 3) (u0 : P.underlying f0.type = some (.int .i64)) (u1 : P.underlying f1.type = some (.int .i64)) (u2 : P.underlying f2.type = some (.int .i64)) (u3 : P.underlying f3.type = some .string)
    (c0 : P.cellsOf f0.type = 1) (c1 : P.cellsOf f1.type = 1) (c2 : P.cellsOf f2.type = 1) (c3 : P.cellsOf f3.type = 1) (h : Rep P G t [v] d) : ∃ rs : List RawT, Shows G 4 v rs.length (rs.flatMap rawC) ∧ (∀ r ∈ rs, rawOk r) ∧ rs.length ≤ maxLen := by
  obtain ⟨d', v', xs, n, h1, hm, hv, he⟩ := rep_slice hu h
  obtain rfl : v = v' := by simpa using h1
  rw [hc] at hv he
  obtain ⟨rs, h2, h3, h4⟩ := rep_elems (n := n) rawC rawOk hv.len (fun cs d hd => rep_raw ht hc o0 o1 o2 o3 u0 u1 u2 u3 c0 c1 c2 c3 hd) he
  exact ⟨rs, by rw [h2, ← h3]; exact hv, h4, by omega⟩
section
variable {P : Program} {H : Type} {enc : TypeId × Value → H}
theorem val_cell {W : World} {b0 : Nat} {t : TypeId} {v : Value} {td : TypeDesc} (ht : P.underlying t = some td) (hn : rowLike td = false) (hval : Value.okWide P W .any b0 t v) : Cell.okWide P W .any b0 t v := by
  unfold Value.okWide at hval
  rw [ht] at hval
  cases td <;> simp_all [rowLike]
theorem rep_open1 {W : World} {b0 base : Nat} {s : Nat → Bool} {held : Bool} {t e : TypeId} {v : Value} {d : DataW H} {ps : List MemPlace} (L : List TypeId) (hL : closedT P L = true) (htL : t ∈ L) (ht : P.underlying t = some (.slice e)) (hval : Value.okWide P W .any b0 t v) (hd : DataW.Trod enc P W base s held t v d ps) : ∃ x G, Rep P G t [v] x ∧ MemR G W := by
  obtain ⟨x, G, h1, h2⟩ := rep_open L hL htL hd
  have hc : v.cells.toList = [v] := by
    have := val_cell ht rfl hval
    unfold Cell.okWide at this
    rw [ht] at this
    unfold Cell.ok at this
    rw [ht] at this
    cases v <;> simp_all [Value.cells]
  rw [hc] at h1
  exact ⟨x, G, h1, h2⟩
theorem open_str {W : World} {b0 base : Nat} {s : Nat → Bool} {held : Bool} {t : TypeId} {v : Value} {d : DataW H} {ps : List MemPlace} (ht : P.underlying t = some .string) (hval : Value.okWide P W .any b0 t v) (hd : DataW.Trod enc P W base s held t v d ps) : ∃ l : List Nat, v = sv l ∧ (∀ b ∈ l, b < 256) ∧ l.length ≤ maxLen := by
  obtain ⟨l, hl, rfl⟩ := cell_str ht (val_cell ht rfl hval)
  obtain ⟨fuel, hf⟩ := hd
  obtain ⟨b, h1, _, hm⟩ := DataW.trod_string ht hf
  have h1 : [sv l] = [Value.string b] := h1
  injection h1 with h1 _
  injection h1 with h1
  exact ⟨l, rfl, hl, by rw [← bstr_size, h1]; exact hm⟩
end
end Go.Proofs.YtbjaenjgahjikaaDoor
namespace Go.Proofs.YtbjaenjgahjikaaDoor
open Go.ChangeShapes Go.WideShapes Go.ChangeAt Go.RowKit
section
variable {P : Program} {W : World}
def RdT (P : Program) (W : World) (t : TypeId) (cs : List Value) (d : DataW Unit) : Prop := ∃ fuel p, DataW.trod (fun _ => ()) P W 0 (fun _ => true) false fuel t cs = some (d, p)
def VarT (P : Program) (W : World) (n : String) (d : DataW Unit) : Prop := ∃ g t cs, P.globalNamed n = some g ∧ (P.globals[g]?).map (·.type) = some t ∧ W.var? P n = some cs ∧ RdT P W t cs.toList d
theorem laid_vars : ∀ {l : List (String × DataW Unit)} {ps : List MemPlace}, DataW.LaidVars P W l ps → ∀ x ∈ l, VarT P W x.1 x.2
  | [], _, _, x, hx => absurd hx List.not_mem_nil
  | (n, d) :: r, ps, h, x, hx => by
    obtain ⟨g, t, cs, fuel, p, q, h1, h2, h3, h4, h5, _⟩ := h
    rcases List.mem_cons.1 hx with rfl | hx
    · exact ⟨g, t, cs, h1, h2, h3, fuel, p, h4⟩
    · exact laid_vars h5 x hx
theorem laid_metH {l : List (String × DataW Unit)} (hp : (l.all fun x => x.2.handleName?.isNone) = true) (h : laidMetH P l W) : ∀ x ∈ l, VarT P W x.1 x.2 := by
  rw [MakeChecks.laidMetH_plain _ _ _ hp] at h
  obtain ⟨ps, h1, _⟩ := h
  exact laid_vars h1
theorem cut_one {cs : List Value} {r : Nat} {v : Value} (h : (cs.drop r).take 1 = [v]) : cs[r]? = some v := by
  have h0 : ((cs.drop r).take 1)[0]? = some v := by rw [h]; rfl
  simpa using h0
theorem rd_ints {k : IntKind} {N : Nat} {e T : TypeId} {zs : List Int} {cs : List Value} (hT : P.underlying T = some (.array N e)) (he : P.underlying e = some (.int k)) (hc : P.cellsOf e = 1) (h : RdT P W T cs (.agg (zs.map fun n => .lit (.int k n)))) : ∀ r, r < N → cs[r]? = some (.int k (zs.getD r 0)) := by
  obtain ⟨fuel, p, hd⟩ := h
  obtain ⟨xs, m, _, ex, _, hl, hel⟩ := DataW.trod_array hT hd
  have e3 : (xs.map (·.1)) = zs.map fun n => .lit (.int k n) := (DataW.agg.inj (Prod.mk.inj ex).1).symm
  have hlen : zs.length = N := by
    have := congrArg List.length e3
    simpa [hl] using this.symm
  intro r hr
  have hE := hel r hr
  rw [hc, Nat.mul_one, List.getElem?_eq_getElem (by omega)] at hE
  obtain ⟨z, e1, e2, _⟩ := DataW.trod_int he hE
  have e4 : (xs.map (·.1))[r]? = (zs.map fun n => (DataW.lit (.int k n) : DataW Unit))[r]? := by rw [e3]
  rw [List.getElem?_map, List.getElem?_map, List.getElem?_eq_getElem (by omega : r < xs.length), List.getElem?_eq_getElem (by omega : r < zs.length), e2] at e4
  have hz : z = zs.getD r 0 := by
    simp only [Option.map_some, Option.some.injEq, DataW.lit.injEq, Lit.int.injEq, true_and] at e4
    rw [e4, List.getD, List.getElem?_eq_getElem (by omega : r < zs.length)]; rfl
  rw [← hz]
  exact cut_one e1
theorem rd_rows {k : IntKind} {M N : Nat} {e E T : TypeId} {rs : List (List Int)} {cs : List Value} (hT : P.underlying T = some (.array M E)) (hE : P.underlying E = some (.array N e)) (he : P.underlying e = some (.int k)) (hc : P.cellsOf e = 1) (hcE : P.cellsOf E = N)
    (h : RdT P W T cs (.agg (rs.map fun row => .agg (row.map fun n => .lit (.int k n))))) : ∀ r, r < M * N → cs[r]? = some (.int k ((rs.getD (r / N) []).getD (r % N) 0)) := by
  obtain ⟨fuel, p, hd⟩ := h
  obtain ⟨xs, m, _, ex, _, hl, hel⟩ := DataW.trod_array hT hd
  have e3 : (xs.map (·.1)) = rs.map fun row => .agg (row.map fun n => .lit (.int k n)) := (DataW.agg.inj (Prod.mk.inj ex).1).symm
  have hlen : rs.length = M := by
    have := congrArg List.length e3
    simpa [hl] using this.symm
  intro r hr
  have hN : 0 < N := Nat.pos_of_ne_zero fun h0 => by subst h0; simp at hr
  have hi : r / N < M := Nat.div_lt_of_lt_mul (by rw [Nat.mul_comm]; exact hr)
  have hj : r % N < N := Nat.mod_lt _ hN
  have hR := hel (r / N) hi
  rw [hcE, List.getElem?_eq_getElem (by omega)] at hR
  have e4 : (xs.map (·.1))[r / N]? = (rs.map fun row => (DataW.agg (row.map fun n => .lit (.int k n)) : DataW Unit))[r / N]? := by rw [e3]
  rw [List.getElem?_map, List.getElem?_map, List.getElem?_eq_getElem (by omega : r / N < xs.length), List.getElem?_eq_getElem (by omega : r / N < rs.length)] at e4
  simp only [Option.map_some, Option.some.injEq] at e4
  have hg : rs.getD (r / N) [] = rs[r / N] := by rw [List.getD, List.getElem?_eq_getElem (by omega : r / N < rs.length)]; rfl
  rw [hg]
  have hrow := rd_ints (P := P) (W := W) (zs := rs[r / N]) hE he hc ⟨m, (xs[r / N]).2, by rw [hR, ← e4]⟩ (r % N) hj
  rw [← hrow, List.getElem?_take_of_lt hj, List.getElem?_drop]
  congr 1
  have := Nat.div_add_mod r N
  rw [Nat.mul_comm]; omega
theorem rin_tab {n : String} {g N : Nat} {T : TypeId} {k : IntKind} {f : Nat → Nat} {d : DataW Unit} (hg : P.globalNamed n = some g) (ht : (P.globals[g]?).map (·.type) = some T) (hN : 0 < N) (h : VarT P W n d) (hr : ∀ cs, RdT P W T cs d → ∀ r, r < N → cs[r]? = some (.int k (f r : Int))) : RIn W ⟨g, arr k N f, T⟩ := by
  obtain ⟨g', t, cs, h1, h2, h3, h4⟩ := h
  obtain rfl := Option.some.inj (hg.symm.trans h1)
  obtain rfl := Option.some.inj (ht.symm.trans h2)
  have key : ∀ r, r < N → W.cell? ⟨g, r, none⟩ = some (.int k (f r : Int)) := fun r hrr => by
    rw [World.var?_cell hg h3 r]
    have := hr cs.toList h4 r hrr
    simpa using this
  refine ⟨?_, fun o ho => ?_⟩
  · have h0 := key 0 hN
    unfold World.cell? at h0
    cases hh : W.heap[g]? with
    | none => rw [hh] at h0; cases h0
    | some b => exact (Array.getElem?_eq_some_iff.1 hh).1
  · have ho : o < N := by simpa [arr_size] using ho
    show W.cell? ⟨g, o, none⟩ = (arr k N f)[o]?
    rw [arr_get ho]; exact key o ho
theorem memR_nil : MemR [] W := fun _ h => absurd h List.not_mem_nil
theorem memR_cons {x : Blk} {m : Mem} (h : RIn W x) (hm : MemR m W) : MemR (x :: m) W := fun y hy => by
  rcases List.mem_cons.1 hy with rfl | hy
  · exact h
  · exact hm y hy
theorem memR_app {m m' : Mem} (h : MemR m W) (hm : MemR m' W) : MemR (m ++ m') W := fun y hy => by
  rcases List.mem_append.1 hy with hy | hy
  · exact h y hy
  · exact hm y hy
end
end Go.Proofs.YtbjaenjgahjikaaDoor
namespace Go.Proofs.YtbjaenjgahjikaaDoor
open Go Go.ChangeShapes Go.WideShapes Go.ChangeAt Go.RowKit
section
variable {H : Type} {enc : TypeId × Value → H} {P : Program} {t e : TypeId}
theorem bulk_pos (d : DataW H) : 1 ≤ Rows.uptoBulk d := by
  cases d with
  | lit l => cases l <;> simp [Rows.uptoBulk]
  | _ => simp [Rows.uptoBulk]
theorem bulk_len : ∀ l : List (DataW H), l.length ≤ Rows.uptoBulkAll l
  | [] => by simp
  | d :: l => by
    have h1 := bulk_pos d
    have h2 := bulk_len l
    simp only [Rows.uptoBulkAll, List.length_cons]
    omega
theorem bulk_in : ∀ {l : List (DataW H)} {j : Nat} {d : DataW H}, l[j]? = some d → Rows.uptoBulk d ≤ Rows.uptoBulkAll l
  | x :: l, 0, d, h => by
    have : x = d := by simpa using h
    subst this
    simp only [Rows.uptoBulkAll]; omega
  | x :: l, j + 1, d, h => by
    have := bulk_in (l := l) (j := j) (d := d) (by simpa using h)
    simp only [Rows.uptoBulkAll]; omega
theorem bulk_of {ds : List (DataW H)} (h : Rows.uptoSmall H ds = true) {j : Nat} {d : DataW H} (hd : ds[j]? = some d) : Rows.uptoBulk d ≤ 1048576 := Nat.le_trans (bulk_in hd) (of_decide_eq_true h)
theorem open_bulk {W : World} {base : Nat} {s : Nat → Bool} {held : Bool} {v : Value} {d : DataW H} {ps : List MemPlace} {B : Mem} {n : Nat} {xs : List Value} (ht : P.underlying t = some (.slice e)) (he : P.underlying e = some (.int .u8)) (hc : P.cellsOf e = 1)
    (hd : DataW.Trod enc P W base s held t v d ps) (hw : Rows.uptoBulk d ≤ 1048576) (hv : Shows B 1 v n xs) : n ≤ 1048576 := by
  have hcell : ∃ a len cap, v = .slice a len cap := by
    rcases hv with ⟨_, _, oa, c, h1, _⟩ | ⟨b, o, c, cs, t, h1, _⟩
    · exact ⟨_, _, _, h1⟩
    · exact ⟨_, _, _, h1⟩
  obtain ⟨a0, len0, cap0, rfl⟩ := hcell
  have hn := shows_num hv
  subst hn
  obtain ⟨fuel, hf⟩ := hd
  rcases open_ints ht he hc hf with ⟨h1, _⟩ | ⟨a, len, cap, zs, h1, _, hlc, hcm, hzl, hx, hz, _⟩
  · have h1 : [Value.slice a0 len0 cap0] = [.slice none 0 0] := h1
    injection h1 with h1 _
    injection h1 with _ h2
    omega
  · have h1 : [Value.slice a0 len0 cap0] = [.slice (some a) len cap] := h1
    injection h1 with h1 _
    injection h1 with _ h2
    have hlz : len ≤ zs.length := by rw [hzl]; split <;> omega
    injection hx with hx _
    subst hx
    have h3 := bulk_len (lits (H := H) .u8 (zs.take len))
    have hl : (lits (H := H) .u8 (zs.take len)).length = len := by simp [lits]; omega
    simp only [Rows.uptoBulk] at hw
    omega
end
end Go.Proofs.YtbjaenjgahjikaaDoor
namespace Go.Proofs.YtbjaenjgahjikaaDoor
open Go Go.ChangeShapes Go.WideShapes Go.ChangeAt Go.RowKit
section
variable {P : Program} {W : World}
end
section
variable {H : Type} {enc : TypeId × Value → H} {P : Program} {t : TypeId}
theorem bulk_str {W : World} {base : Nat} {s : Nat → Bool} {held : Bool} {l : List Nat} {d : DataW H} {ps : List MemPlace} (ht : P.underlying t = some .string) (hd : DataW.Trod enc P W base s held t (sv l) d ps) (hw : Rows.uptoBulk d ≤ 1048576) : l.length ≤ 1048576 := by
  obtain ⟨fuel, hf⟩ := hd
  obtain ⟨b, h1, h2, _⟩ := DataW.trod_string ht hf
  have h1 : [sv l] = [Value.string b] := h1
  injection h1 with h1 _
  injection h1 with h1
  have h3 : d = .lit (.string b.data.toList) := (Prod.mk.inj h2).1
  rw [h3] at hw
  simp only [Rows.uptoBulk] at hw
  have h4 : b.size = l.length := by rw [← h1]; exact bstr_size l
  have h5 : b.data.toList.length = b.size := Array.length_toList
  omega
end
end Go.Proofs.YtbjaenjgahjikaaDoor
/-
  Facts on this program's types, in tables.
-/
namespace Go.Proofs.YtbjaenjgahjikaaDoor
open Go Go.RowKit
def lkT {α : Type} : List (Nat × α) → Nat → Option α
  | [], _ => none
  | (k, a) :: l, t => bif Nat.beq k t then some a else lkT l t
theorem lkT_map {α : Type} {f : Nat → Option α} : ∀ {L : List (Nat × α)} {t : Nat} {d : α}, L.map (fun p => f p.1) = L.map (fun p => some p.2) → lkT L t = some d → f t = some d
  | [], _, _, _, h => by cases h
  | (k, a) :: L, t, d, h, hk => by
    rw [List.map_cons, List.map_cons, List.cons.injEq] at h
    unfold lkT at hk
    cases hb : Nat.beq k t with
    | true => rw [hb] at hk; rw [← Nat.eq_of_beq_eq_true hb, h.1]; exact hk
    | false => rw [hb] at hk; exact lkT_map h.2 hk
theorem mixed : Tryd.prog.follows .mixedOrders = true := by kernel_rfl
def tbu : List (Nat × TypeDesc) := [(3, (.int .i64)), (4, (.bool)), (5, (.int .u8)), (9, (.string)), (23, (.array 32 5)), (24, (.int .u64)), (26, (.struct #[.mk "Has" 4 0 false "" "" 0, .mk "Key" 23 1 false "" "" 1, .mk "N" 24 33 false "" "" 40])), (28, (.struct #[.mk "Cipher" 26 0 false "" "" 0, .mk "Chain" 23 34 false "" "" 48, .mk "Hash" 23 66 false "" "" 80])), (30, (.array 2 26)), (33, (.slice 5)), (42, (.slice 46)), (46, (.struct #[.mk "Kind" 3 0 false "" "" 0, .mk "A" 3 1 false "" "" 8, .mk "B" 3 2 false "" "" 16, .mk "Text" 9 3 false "" "" 24])), (50, (.array 2 23)), (53, (.array 3 23)), (63, (.int .u32)), (64, (.array 8 63)), (65, (.array 64 5)), (67, (.struct #[.mk "H" 64 0 false "" "" 0, .mk "Held" 65 8 false "" "" 32, .mk "N" 3 72 false "" "" 96, .mk "Len" 3 73 false "" "" 104])), (80, (.array 12 5)), (88, (.slice 33)), (90, (.array 64 5)), (96, (.array 16 5)), (103, (.array 4 63)), (104, (.array 4 103)), (115, (.array 16 63)), (120, (.array 16 63)), (123, (.array 2 24)), (124, (.array 3 24)), (126, (.struct #[.mk "R" 123 0 false "" "" 0, .mk "Pad" 123 2 false "" "" 16, .mk "Acc" 124 4 false "" "" 32, .mk "Held" 96 7 false "" "" 56, .mk "N" 3 23 false "" "" 72])), (135, (.array 16 3)), (136, (.array 10 135)), (137, (.int .u64)), (146, (.array 3 24)), (149, (.array 5 24)), (150, (.array 5 24))]
theorem tbu_ok : tbu.map (fun p => (fun t => Tryd.prog.underlying t) p.1) = tbu.map (fun p => some p.2) := by kernel_rfl
set_option maxRecDepth 100000 in
theorem Tu {T : TypeId} {d : TypeDesc} (h : lkT tbu T = some d) : Tryd.prog.underlying T = some d := lkT_map (L := tbu) (f := fun t => Tryd.prog.underlying t) tbu_ok h
theorem Uu (T : TypeId) {d : TypeDesc} (h : lkT tbu T = some d := by rfl) : Tryd.prog.underlying T = some d := Tu h
def tbz : List (Nat × Nat) := [(3, 1), (4, 1), (5, 1), (9, 1), (23, 32), (24, 1), (26, 34), (28, 98), (30, 68), (33, 1), (46, 4), (50, 64), (53, 96), (63, 1), (64, 8), (65, 64), (67, 74), (80, 12), (90, 64), (96, 16), (103, 4), (104, 16), (115, 16), (120, 16), (123, 2), (124, 3), (126, 24), (135, 16), (146, 3), (149, 5), (150, 5)]
theorem tbz_ok : tbz.map (fun p => (fun t => (Tryd.prog.info? t).map (·.size)) p.1) = tbz.map (fun p => some p.2) := by kernel_rfl
set_option maxRecDepth 100000 in
theorem Tz {T : TypeId} {d : Nat} (h : lkT tbz T = some d) : (Tryd.prog.info? T).map (·.size) = some d := lkT_map (L := tbz) (f := fun t => (Tryd.prog.info? t).map (·.size)) tbz_ok h
theorem Uz (T : TypeId) {d : Nat} (h : lkT tbz T = some d := by rfl) : (Tryd.prog.info? T).map (·.size) = some d := Tz h
def tby : List (Nat × Nat) := [(5, 1)]
theorem tby_ok : tby.map (fun p => (fun t => (Tryd.prog.info? t).map (·.bytes)) p.1) = tby.map (fun p => some p.2) := by kernel_rfl
set_option maxRecDepth 100000 in
theorem Ty {T : TypeId} {d : Nat} (h : lkT tby T = some d) : (Tryd.prog.info? T).map (·.bytes) = some d := lkT_map (L := tby) (f := fun t => (Tryd.prog.info? t).map (·.bytes)) tby_ok h
theorem Uy (T : TypeId) {d : Nat} (h : lkT tby T = some d := by rfl) : (Tryd.prog.info? T).map (·.bytes) = some d := Ty h
def tbb : List (Nat × Value) := [(5, (.int .u8 0)), (23, (.agg (arr .u8 32 fun _ => 0))), (26, (.agg (cells 34 [pV (.bool false), pI .u8 32 fun _ => 0, pV (.int .u64 0)]))), (28, (.agg (cells 98 [pV (.bool false), pI .u8 32 fun _ => 0, pV (.int .u64 0), pI .u8 32 fun _ => 0, pI .u8 32 fun _ => 0]))), (30, (.agg (cells 68 [pV (.bool false), pI .u8 32 fun _ => 0, pV (.int .u64 0), pV (.bool false), pI .u8 32 fun _ => 0, pV (.int .u64 0)]))), (33, (.slice none 0 0)), (46, (.agg (cells 4 [pV (.int .i64 0), pV (.int .i64 0), pV (.int .i64 0), pV (.string ByteArray.empty)]))), (50, (.agg (arr .u8 64 fun _ => 0))), (53, (.agg (arr .u8 96 fun _ => 0))), (64, (.agg (arr .u32 8 fun _ => 0))), (65, (.agg (arr .u8 64 fun _ => 0))), (67, (.agg (cells 74 [pI .u32 8 fun _ => 0, pI .u8 64 fun _ => 0, pV (.int .i64 0), pV (.int .i64 0)]))), (80, (.agg (arr .u8 12 fun _ => 0))), (90, (.agg (arr .u8 64 fun _ => 0))), (96, (.agg (arr .u8 16 fun _ => 0))), (104, (.agg (arr .u32 16 fun _ => 0))), (115, (.agg (arr .u32 16 fun _ => 0))), (120, (.agg (arr .u32 16 fun _ => 0))), (123, (.agg (arr .u64 2 fun _ => 0))), (124, (.agg (arr .u64 3 fun _ => 0))), (126, (.agg (cells 24 [pI .u64 2 fun _ => 0, pI .u64 2 fun _ => 0, pI .u64 3 fun _ => 0, pI .u8 16 fun _ => 0, pV (.int .i64 0)]))), (146, (.agg (arr .u64 3 fun _ => 0))), (149, (.agg (arr .u64 5 fun _ => 0))), (150, (.agg (arr .u64 5 fun _ => 0)))]
theorem tbb_ok : tbb.map (fun p => (fun t => (Tryd.prog.info? t).bind (·.zero)) p.1) = tbb.map (fun p => some p.2) := by kernel_rfl
set_option maxRecDepth 100000 in
theorem Tb {T : TypeId} {d : Value} (h : lkT tbb T = some d) : (Tryd.prog.info? T).bind (·.zero) = some d := lkT_map (L := tbb) (f := fun t => (Tryd.prog.info? t).bind (·.zero)) tbb_ok h
theorem Ub (T : TypeId) {d : Value} (h : lkT tbb T = some d := by rfl) : (Tryd.prog.info? T).bind (·.zero) = some d := Tb h
def tbn : List Nat := [7, 8, 9, 10, 11, 12, 13, 14, 15, 16, 17, 18, 19, 20, 21, 22, 23, 24, 25, 26, 27, 28, 29, 30, 31, 32, 33, 34, 35, 36, 37, 38, 39, 40, 41, 42, 43, 44, 45, 46, 47, 48, 49, 50, 51, 52, 53, 54, 55, 56, 57, 58, 59, 60, 61, 62, 63, 64, 65, 66, 67, 68, 69, 70, 71, 72, 73, 74, 75, 76, 77, 78, 79, 80, 81, 82, 83, 84, 85, 86, 87, 88, 89, 90, 91, 92, 93, 94, 95, 96, 97, 98, 99, 100, 101, 102, 103, 104, 105, 106, 107, 108, 109, 110, 111, 112, 113, 114, 115, 116, 117, 118, 119, 120, 121, 124]
theorem tbn_ok : tbn.all (fun f => enters Tryd.prog f) = true := by kernel_rfl
theorem Un (f : FuncId) (h : tbn.contains f = true := by rfl) : enters Tryd.prog f = true := List.all_eq_true.1 tbn_ok f (List.contains_iff_mem.1 h)
end Go.Proofs.YtbjaenjgahjikaaDoor
/-
  Rules with short names.
-/
namespace Go.Proofs.YtbjaenjgahjikaaDoor
open Go Go.RowKit
variable {G : Mem} {R : Reg} {ops : Array Oper} {n : Nat} {K : Env → Mm → Prop} {Q : Exit → Env → Mm → Prop} {rest : List Oper} {E : Env} {M : Mm} {d : Nat} {ty : TypeId} {pos : String} {aft : Array Edge} {T : TypeId} {T' : TypeId} {x : Operand} {y : Operand}
theorem Qs {c : Code} {c' : Code} : (SatE Tryd.prog G c n (thenE (SatE Tryd.prog G c' n Q) Q) E M) → SatE Tryd.prog G (.seq c c') n Q E M := fun h => e_seq h
theorem Qp {id : Nat} : (OpsE Tryd.prog G noReg ops n (Q .normal) ops.toList E M) → SatE Tryd.prog G (.region id ops false) n Q E M := fun h => e_plain h
theorem Qn : (K E M) → OpsE Tryd.prog G R ops n K [] E M := fun h => e_nil h
theorem Qk : (Q .normal E M) → SatE Tryd.prog G .skip n Q E M := fun h => e_skip h
theorem Qb {id : Nat} {c : Code} : (SatE Tryd.prog G c n (inBlockE id Q) E M) → SatE Tryd.prog G (.block id c) n Q E M := fun h => e_block h
theorem Qe {id : Nat} : (Q (.exit id) E M) → SatE Tryd.prog G (.exit id) n Q E M := fun h => e_exit h
theorem Qr : (Q .ret E M) → SatE Tryd.prog G .ret n Q E M := fun h => e_ret h
theorem Qm {v : Value} (hx : rd E x = some v := by rfl) (hd : Nat.blt d n = true := by rfl) : (OpsE Tryd.prog G R ops n K rest ((d, v) :: E) M) → OpsE Tryd.prog G R ops n K (⟨some d, .move x, ty, pos, aft, none⟩ :: rest) E M := fun h => e_move hx hd h
theorem Qa {v : Value} (hx : rd E x = some v := by rfl) (hd : Nat.blt d n = true := by rfl) : (OpsE Tryd.prog G R ops n K rest ((d, v) :: E) M) → OpsE Tryd.prog G R ops n K (⟨some d, .assign x, ty, pos, aft, none⟩ :: rest) E M := fun h => e_assign hx hd h
theorem Qx {i : Nat} {vs : Array Value} {v : Value} (hx : rd E x = some (.tuple vs) := by rfl) (hv : vs[i]? = some v := by rfl) (hd : Nat.blt d n = true := by rfl) : (OpsE Tryd.prog G R ops n K rest ((d, v) :: E) M) → OpsE Tryd.prog G R ops n K (⟨some d, .extract x i, ty, pos, aft, none⟩ :: rest) E M := fun h => e_extract hx hv hd h
theorem Qy {dd : Option Tmp} {op : Op} {g : Nat} {s : Nat} {want : Bool} {b : Bool} (hg : (ops[g]?).bind (·.dst) = some s := by rfl) (hb : lk E s = some (.bool b) := by rfl) (hw : b = want := by rfl) : (OpsE Tryd.prog G R ops n K (⟨dd, op, ty, pos, aft, none⟩ :: rest) E M) → OpsE Tryd.prog G R ops n K (⟨dd, op, ty, pos, aft, some (g, want)⟩ :: rest) E M := fun h => e_yes hg hb hw h
theorem Qo {op : Op} {g : Nat} {s : Nat} {want : Bool} {b : Bool} (hg : (ops[g]?).bind (·.dst) = some s := by rfl) (hb : lk E s = some (.bool b) := by rfl) (hw : b ≠ want := by decide) (hd : Nat.blt d n = true := by rfl) : (OpsE Tryd.prog G R ops n K rest ((d, undef) :: E) M) → OpsE Tryd.prog G R ops n K (⟨some d, op, ty, pos, aft, some (g, want)⟩ :: rest) E M := fun h => e_no hg hb hw hd h
theorem Qw {op : Op} {g : Nat} {s : Nat} {want : Bool} (hg : (ops[g]?).bind (·.dst) = some s := by rfl) (hb : lk E s = some undef := by rfl) (hd : Nat.blt d n = true := by rfl) : (OpsE Tryd.prog G R ops n K rest ((d, undef) :: E) M) → OpsE Tryd.prog G R ops n K (⟨some d, op, ty, pos, aft, some (g, want)⟩ :: rest) E M := fun h => e_no2 hg hb hd h
theorem QT {p : Operand} {q : Operand} {r : Operand} {t : Bool} {v : Value} (hc : rd E p = some (.bool t) := by rfl) (ht : t = true := by rfl) (hv : rd E q = some v := by rfl) (hd : Nat.blt d n = true := by rfl) : (OpsE Tryd.prog G R ops n K rest ((d, v) :: E) M) → OpsE Tryd.prog G R ops n K (⟨some d, .pick p q r, ty, pos, aft, none⟩ :: rest) E M := fun h => e_pickT hc ht hv hd h
theorem QF {p : Operand} {q : Operand} {r : Operand} {t : Bool} {v : Value} (hc : rd E p = some (.bool t) := by rfl) (ht : t = false := by rfl) (hv : rd E r = some v := by rfl) (hd : Nat.blt d n = true := by rfl) : (OpsE Tryd.prog G R ops n K rest ((d, v) :: E) M) → OpsE Tryd.prog G R ops n K (⟨some d, .pick p q r, ty, pos, aft, none⟩ :: rest) E M := fun h => e_pickF hc ht hv hd h
theorem Qg {id : Nat} (hm : Tryd.prog.follows .mixedOrders = true := by exact mixed) (hok : orderOk noReg ops (List.range ops.size) = true := by kernel_rfl) : (OpsE Tryd.prog G noReg ops n (Q .normal) ops.toList E M) → SatE Tryd.prog G (.region id ops true) n Q E M := fun h => e_draw hm hok h
theorem QR {id : Nat} (R : Reg) : (OpsE Tryd.prog G R ops n (Q .normal) ops.toList E M) → SatE Tryd.prog G (.region id ops false) n Q E M := fun h => e_plainR R h
theorem Qq {id : Nat} (R : Reg) (hm : Tryd.prog.follows .mixedOrders = true := by exact mixed) (hok : orderOk R ops (List.range ops.size) = true := by kernel_rfl) : (OpsE Tryd.prog G R ops n (Q .normal) ops.toList E M) → SatE Tryd.prog G (.region id ops true) n Q E M := fun h => e_drawR R hm hok h
theorem Ql {k : IntKind} {p : Int} {q : Int} (hx : rd E x = some (.int k p) := by rfl) (hy : rd E y = some (.int k q) := by rfl) (hd : Nat.blt d n = true := by rfl) : (OpsE Tryd.prog G R ops n K rest ((d, .bool (decide (p < q))) :: E) M) → OpsE Tryd.prog G R ops n K (⟨some d, .binOp .lss T x y T', ty, pos, aft, none⟩ :: rest) E M := fun h => e_lt hx hy hd h
theorem QG {k : IntKind} {p : Int} {q : Int} (hx : rd E x = some (.int k p) := by rfl) (hy : rd E y = some (.int k q) := by rfl) (hd : Nat.blt d n = true := by rfl) : (OpsE Tryd.prog G R ops n K rest ((d, .bool (decide (q < p))) :: E) M) → OpsE Tryd.prog G R ops n K (⟨some d, .binOp .gtr T x y T', ty, pos, aft, none⟩ :: rest) E M := fun h => e_gt hx hy hd h
theorem QE {k : IntKind} {p : Int} {q : Int} (hx : rd E x = some (.int k p) := by rfl) (hy : rd E y = some (.int k q) := by rfl) (hd : Nat.blt d n = true := by rfl) : (OpsE Tryd.prog G R ops n K rest ((d, .bool (decide (q ≤ p))) :: E) M) → OpsE Tryd.prog G R ops n K (⟨some d, .binOp .geq T x y T', ty, pos, aft, none⟩ :: rest) E M := fun h => e_ge hx hy hd h
theorem Qc {k : IntKind} {p : Int} {q : Int} (hx : rd E x = some (.int k p) := by rfl) (hy : rd E y = some (.int k q) := by rfl) (hd : Nat.blt d n = true := by rfl) : (OpsE Tryd.prog G R ops n K rest ((d, .bool (decide (p = q))) :: E) M) → OpsE Tryd.prog G R ops n K (⟨some d, .binOp .eql T x y T', ty, pos, aft, none⟩ :: rest) E M := fun h => e_eq hx hy hd h
theorem QN {k : IntKind} {p : Int} {q : Int} (hx : rd E x = some (.int k p) := by rfl) (hy : rd E y = some (.int k q) := by rfl) (hd : Nat.blt d n = true := by rfl) : (OpsE Tryd.prog G R ops n K rest ((d, .bool (decide (p ≠ q))) :: E) M) → OpsE Tryd.prog G R ops n K (⟨some d, .binOp .neq T x y T', ty, pos, aft, none⟩ :: rest) E M := fun h => e_ne hx hy hd h
theorem Q0 {b : Bool} (hx : rd E x = some (.bool b) := by rfl) (hd : Nat.blt d n = true := by rfl) : (OpsE Tryd.prog G R ops n K rest ((d, .bool (!b)) :: E) M) → OpsE Tryd.prog G R ops n K (⟨some d, .unOp .not T x, ty, pos, aft, none⟩ :: rest) E M := fun h => e_not hx hd h
theorem Qd {b : Nat} {l : Nat} {c : Array Value} {t : TypeId} {td : TypeDesc} (i : Nat) (hT : Tryd.prog.underlying T = some td := by exact Tu rfl) (hn : rowLike td = true := by rfl) (hs : (Tryd.prog.info? T).map (·.size) = some l := by exact Tz rfl) (hx : rd E x = some (.pointer (some ⟨b, 0, none⟩)) := by rfl) (hm : lkM M i = some ⟨b, c, t⟩ := by rfl) (hl : c.size = l := by exact (arr_size _ _ _)) (hd : Nat.blt d n = true := by rfl) (hX : ∃ js, okXL M i js R := by exact ⟨[], trivial⟩) : (OpsE Tryd.prog G R ops n K rest ((d, .agg c) :: E) M) → OpsE Tryd.prog G R ops n K (⟨some d, .load T x, ty, pos, aft, none⟩ :: rest) E M := fun h => e_loadA (i := i) hT hn hs hx hm hl hd hX h
theorem QD {b : Nat} {l : Nat} {c : Array Value} {t : TypeId} {td : TypeDesc} (i : Nat) (hT : Tryd.prog.underlying T = some td := by exact Tu rfl) (hn : rowLike td = true := by rfl) (hs : (Tryd.prog.info? T).map (·.size) = some l := by exact Tz rfl) (hx : rd E x = some (.pointer (some ⟨b, 0, none⟩)) := by rfl) (hm : lkM M i = some ⟨b, c, t⟩ := by rfl) (hl : c.size = l := by exact (arrv_size _ _)) (hd : Nat.blt d n = true := by rfl) (hX : ∃ js, okXL M i js R := by exact ⟨[], trivial⟩) : (OpsE Tryd.prog G R ops n K rest ((d, .agg c) :: E) M) → OpsE Tryd.prog G R ops n K (⟨some d, .load T x, ty, pos, aft, none⟩ :: rest) E M := fun h => e_loadA (i := i) hT hn hs hx hm hl hd hX h
theorem Q1 {b : Nat} {o : Nat} {c : Array Value} {t : TypeId} {v : Value} {td : TypeDesc} (i : Nat) (hT : Tryd.prog.underlying T = some td := by exact Tu rfl) (hn : rowLike td = false := by rfl) (hx : rd E x = some (.pointer (some ⟨b, o, none⟩)) := by rfl) (hm : lkM M i = some ⟨b, c, t⟩ := by rfl) (hc : c[o]? = some v := by exact (arr_get (by omega))) (hd : Nat.blt d n = true := by rfl) (hX : ∃ js, okXL M i js R := by exact ⟨[], trivial⟩) : (OpsE Tryd.prog G R ops n K rest ((d, v) :: E) M) → OpsE Tryd.prog G R ops n K (⟨some d, .load T x, ty, pos, aft, none⟩ :: rest) E M := fun h => e_load1 (i := i) hT hn hx hm hc hd hX h
theorem Qt {b : Nat} {l : Nat} {c : Array Value} {c' : Array Value} {t : TypeId} (i : Nat) (hs : (Tryd.prog.info? T).map (·.size) = some l := by exact Tz rfl) (hx : rd E x = some (.pointer (some ⟨b, 0, none⟩)) := by rfl) (hy : rd E y = some (.agg c') := by rfl) (hl : c'.size = l := by exact (arr_size _ _ _)) (hv : ∀ v ∈ c', v.oneCell' = true := by exact arr_one) (hm : lkM M i = some ⟨b, c, t⟩ := by rfl) (ho : c'.size = c.size := by exact (arr_sz _ _ _ _ _)) (hX : R.X = [] ∨ b ∈ R.X := by exact (.inl rfl)) : (OpsE Tryd.prog G R ops n K rest E ((i, some ⟨b, c', t⟩) :: M)) → OpsE Tryd.prog G R ops n K (⟨none, .store T x y, ty, pos, aft, none⟩ :: rest) E M := fun h => e_storeA (i := i) hs hx hy hl hv hm ho hX h
theorem Qu {b : Nat} {o : Nat} {l : Nat} {v : Nat} {k : IntKind} {f : Nat → Nat} {t : TypeId} (i : Nat) (hs : (Tryd.prog.info? T).map (·.size) = some 1 := by exact Tz rfl) (hx : rd E x = some (.pointer (some ⟨b, o, none⟩)) := by rfl) (hy : rd E y = some (.int k (v : Int)) := by rfl) (hm : lkM M i = some ⟨b, arr k l f, t⟩ := by rfl) (ho : o < l := by omega) (hX : R.X = [] ∨ b ∈ R.X := by exact (.inl rfl)) : (OpsE Tryd.prog G R ops n K rest E ((i, some ⟨b, arr k l (upd f o v), t⟩) :: M)) → OpsE Tryd.prog G R ops n K (⟨none, .store T x y, ty, pos, aft, none⟩ :: rest) E M := fun h => e_storeN (i := i) hs hx hy hm ho hX h
theorem Qf {b : Nat} {o : Nat} {f : Nat} {sz : Nat} {fs : Array Field} {fd : Field} (o' : Nat) (hT : Tryd.prog.underlying T = some (.struct fs) := by exact Tu rfl) (hf : fs[f]? = some fd := by rfl) (hs : (Tryd.prog.info? fd.type).map (·.size) = some (sz + 1) := by exact Tz rfl) (hx : rd E x = some (.pointer (some ⟨b, o, none⟩)) := by rfl) (ho : o + fd.offset = o' := by rfl) (hd : Nat.blt d n = true := by rfl) : (OpsE Tryd.prog G R ops n K rest ((d, .pointer (some ⟨b, o', none⟩)) :: E) M) → OpsE Tryd.prog G R ops n K (⟨some d, .fieldAddr T x f, ty, pos, aft, none⟩ :: rest) E M := fun h => e_fld o' hT hf hs hx ho hd h
theorem Qi {b : Nat} {j : Nat} {l : Nat} {k : IntKind} {e : TypeId} (hT : Tryd.prog.underlying T = some (.array l e) := by exact Tu rfl) (hs : (Tryd.prog.info? e).map (·.size) = some 1 := by exact Tz rfl) (hx : rd E x = some (.pointer (some ⟨b, 0, none⟩)) := by rfl) (hy : rd E y = some (.int k (j : Int)) := by rfl) (hj : j < l := by omega) (hd : Nat.blt d n = true := by rfl) : (OpsE Tryd.prog G R ops n K rest ((d, .pointer (some ⟨b, j, none⟩)) :: E) M) → OpsE Tryd.prog G R ops n K (⟨some d, .indexAddr T x y, ty, pos, aft, none⟩ :: rest) E M := fun h => e_index0 hT hs hx hy hj hd h
theorem Qj {b : Nat} {l : Nat} {k : IntKind} {e : TypeId} (j : Nat) (hT : Tryd.prog.underlying T = some (.array l e) := by exact Tu rfl) (hs : (Tryd.prog.info? e).map (·.size) = some 1 := by exact Tz rfl) (hx : rd E x = some (.pointer (some ⟨b, 0, none⟩)) := by rfl) (hy : rd E y = some (.int k (j : Int)) := by rfl) (hj : j < l := by omega) (hd : Nat.blt d n = true := by rfl) : (OpsE Tryd.prog G R ops n K rest ((d, .pointer (some ⟨b, j, none⟩)) :: E) M) → OpsE Tryd.prog G R ops n K (⟨some d, .indexAddr T x y, ty, pos, aft, none⟩ :: rest) E M := fun h => e_index0 (j := j) hT hs hx hy hj hd h
theorem QA {b : Nat} {o : Nat} {l : Nat} {z : Nat} {k : IntKind} {e : TypeId} (o' : Nat) (j : Nat) (hT : Tryd.prog.underlying T = some (.array l e) := by exact Tu rfl) (hs : (Tryd.prog.info? e).map (·.size) = some (z + 1) := by exact Tz rfl) (hx : rd E x = some (.pointer (some ⟨b, o, none⟩)) := by rfl) (hy : rd E y = some (.int k (j : Int)) := by rfl) (hj : j < l := by omega) (ho : o + j * (z + 1) = o' := by omega) (hd : Nat.blt d n = true := by rfl) : (OpsE Tryd.prog G R ops n K rest ((d, .pointer (some ⟨b, o', none⟩)) :: E) M) → OpsE Tryd.prog G R ops n K (⟨some d, .indexAddr T x y, ty, pos, aft, none⟩ :: rest) E M := fun h => e_at (j := j) o' hT hs hx hy hj ho hd h
theorem QB {b : Nat} {o : Nat} {j : Nat} {l : Nat} {z : Nat} {k : IntKind} {e : TypeId} (o' : Nat) (hT : Tryd.prog.underlying T = some (.array l e) := by exact Tu rfl) (hs : (Tryd.prog.info? e).map (·.size) = some (z + 1) := by exact Tz rfl) (hx : rd E x = some (.pointer (some ⟨b, o, none⟩)) := by rfl) (hy : rd E y = some (.int k (j : Int)) := by rfl) (hj : j < l := by omega) (ho : o + j * (z + 1) = o' := by omega) (hd : Nat.blt d n = true := by rfl) : (OpsE Tryd.prog G R ops n K rest ((d, .pointer (some ⟨b, o', none⟩)) :: E) M) → OpsE Tryd.prog G R ops n K (⟨some d, .indexAddr T x y, ty, pos, aft, none⟩ :: rest) E M := fun h => e_at o' hT hs hx hy hj ho hd h
theorem Qh {v : Value} (i : Nat) (hx : rd E x = some v := by rfl) (hd : Nat.blt d n = true := by rfl) : (∀ r, OpsE Tryd.prog G R ops n K rest ((d, ptr r) :: E) ((i, some ⟨r, v.cells, T⟩) :: M)) → OpsE Tryd.prog G R ops n K (⟨some d, .box T x, ty, pos, aft, none⟩ :: rest) E M := fun h => e_box i hx hd h
theorem QH {z : Value} (i : Nat) (hz : (Tryd.prog.info? T).bind (·.zero) = some z := by exact Tb rfl) (hd : Nat.blt d n = true := by rfl) : (∀ r, OpsE Tryd.prog G R ops n K rest ((d, ptr r) :: E) ((i, some ⟨r, z.cells, T⟩) :: M)) → OpsE Tryd.prog G R ops n K (⟨some d, .alloc T, ty, pos, aft, none⟩ :: rest) E M := fun h => e_alloc i hz hd h
theorem Qv {b : Nat} {o : Nat} {l : Nat} {N : Nat} {kd : IntKind} {f : Nat → Nat} {ps : List Part} {t : TypeId} {td : TypeDesc} (k : Nat) (i : Nat) (hT : Tryd.prog.underlying T = some td := by exact Tu rfl) (hn : rowLike td = true := by rfl) (hs : (Tryd.prog.info? T).map (·.size) = some l := by exact Tz rfl) (hx : rd E x = some (.pointer (some ⟨b, o, none⟩)) := by rfl) (hm : lkM M i = some ⟨b, cells N ps, t⟩ := by rfl) (hk : catAt ps k = some (o, pI kd l f) := by rfl) (ho : o + l ≤ N := by decide) (hd : Nat.blt d n = true := by rfl) (hX : ∃ js, okXL M i js R := by exact ⟨[], trivial⟩) : (OpsE Tryd.prog G R ops n K rest ((d, .agg (arr kd l f)) :: E) M) → OpsE Tryd.prog G R ops n K (⟨some d, .load T x, ty, pos, aft, none⟩ :: rest) E M := fun h => e_ldC (i := i) k hT hn hs hx hm hk ho hd hX h
theorem QV {b : Nat} {o : Nat} {N : Nat} {v : Value} {ps : List Part} {t : TypeId} {td : TypeDesc} (k : Nat) (i : Nat) (hT : Tryd.prog.underlying T = some td := by exact Tu rfl) (hn : rowLike td = false := by rfl) (hx : rd E x = some (.pointer (some ⟨b, o, none⟩)) := by rfl) (hm : lkM M i = some ⟨b, cells N ps, t⟩ := by rfl) (hk : catAt ps k = some (o, pV v) := by rfl) (hN : o < N := by decide) (hd : Nat.blt d n = true := by rfl) (hX : ∃ js, okXL M i js R := by exact ⟨[], trivial⟩) : (OpsE Tryd.prog G R ops n K rest ((d, v) :: E) M) → OpsE Tryd.prog G R ops n K (⟨some d, .load T x, ty, pos, aft, none⟩ :: rest) E M := fun h => e_ldV1 (i := i) k hT hn hx hm hk hN hd hX h
theorem QI {b : Nat} {o : Nat} {o' : Nat} {l : Nat} {N : Nat} {kd : IntKind} {f : Nat → Nat} {ps : List Part} {t : TypeId} {td : TypeDesc} (k : Nat) (j : Nat) (i : Nat) (hT : Tryd.prog.underlying T = some td := by exact Tu rfl) (hn : rowLike td = false := by rfl) (hx : rd E x = some (.pointer (some ⟨b, o', none⟩)) := by rfl) (hm : lkM M i = some ⟨b, cells N ps, t⟩ := by rfl) (hk : catAt ps k = some (o, pI kd l f) := by rfl) (ho : o' = o + j := by rfl) (hj : j < l := by decide) (hN : o' < N := by decide) (hd : Nat.blt d n = true := by rfl) (hX : ∃ js, okXL M i js R := by exact ⟨[], trivial⟩) : (OpsE Tryd.prog G R ops n K rest ((d, .int kd (f j : Int)) :: E) M) → OpsE Tryd.prog G R ops n K (⟨some d, .load T x, ty, pos, aft, none⟩ :: rest) E M := fun h => e_ldI (i := i) k j hT hn hx hm hk ho hj hN hd hX h
theorem Q2 {p : Nat} (q : Nat) (hx : rd E x = some (ii p) := by rfl) (hy : rd E y = some (ii q) := by rfl) (hd : Nat.blt d n = true := by rfl) (hb : p + q < 9223372036854775808 := by omega) : (OpsE Tryd.prog G R ops n K rest ((d, ii (p + q)) :: E) M) → OpsE Tryd.prog G R ops n K (⟨some d, .binOp .add T x y T', ty, pos, aft, none⟩ :: rest) E M := fun h => e_add_i (q := q) hx hy hd hb h
theorem Q3 {p : Nat} {q : Nat} (hx : rd E x = some (ii p) := by rfl) (hy : rd E y = some (ii q) := by rfl) (hd : Nat.blt d n = true := by rfl) (hb : p + q < 9223372036854775808 := by omega) : (OpsE Tryd.prog G R ops n K rest ((d, ii (p + q)) :: E) M) → OpsE Tryd.prog G R ops n K (⟨some d, .binOp .add T x y T', ty, pos, aft, none⟩ :: rest) E M := fun h => e_add_i hx hy hd hb h
theorem Q4 {p : Nat} (q : Nat) (hx : rd E x = some (ii p) := by rfl) (hy : rd E y = some (ii q) := by rfl) (hd : Nat.blt d n = true := by rfl) (hq : 0 < q := by omega) : (OpsE Tryd.prog G R ops n K rest ((d, ii (p % q)) :: E) M) → OpsE Tryd.prog G R ops n K (⟨some d, .binOp .rem T x y T', ty, pos, aft, none⟩ :: rest) E M := fun h => e_rem_i (q := q) hx hy hd hq h
theorem Q5 {p : Nat} (q : Nat) (hx : rd E x = some (ii p) := by rfl) (hy : rd E y = some (ii q) := by rfl) (hd : Nat.blt d n = true := by rfl) (hp : p < 9223372036854775808 := by omega) (hq : 0 < q := by omega) : (OpsE Tryd.prog G R ops n K rest ((d, ii (p / q)) :: E) M) → OpsE Tryd.prog G R ops n K (⟨some d, .binOp .quo T x y T', ty, pos, aft, none⟩ :: rest) E M := fun h => e_quo_i (q := q) hx hy hd hp hq h
theorem Q6 {p : Nat} (q : Nat) (hx : rd E x = some (ii p) := by rfl) (hy : rd E y = some (ii q) := by rfl) (hd : Nat.blt d n = true := by rfl) (hb : p * q < 9223372036854775808 := by omega) : (OpsE Tryd.prog G R ops n K rest ((d, ii (p * q)) :: E) M) → OpsE Tryd.prog G R ops n K (⟨some d, .binOp .mul T x y T', ty, pos, aft, none⟩ :: rest) E M := fun h => e_mul_i (q := q) hx hy hd hb h
theorem Q7 {q : Nat} (p : Nat) (hx : rd E x = some (ii p) := by rfl) (hy : rd E y = some (ii q) := by rfl) (hd : Nat.blt d n = true := by rfl) (hb : p * q < 9223372036854775808 := by omega) : (OpsE Tryd.prog G R ops n K rest ((d, ii (p * q)) :: E) M) → OpsE Tryd.prog G R ops n K (⟨some d, .binOp .mul T x y T', ty, pos, aft, none⟩ :: rest) E M := fun h => e_mul_i (p := p) hx hy hd hb h
theorem Q8 {k : IntKind} {p : Nat} (s : Nat) (hx : rd E x = some (u p) := by rfl) (hy : rd E y = some (.int k (s : Int)) := by rfl) (hd : Nat.blt d n = true := by rfl) (hs : s ≤ 64 := by omega) : (OpsE Tryd.prog G R ops n K rest ((d, u (p / 2 ^ s)) :: E) M) → OpsE Tryd.prog G R ops n K (⟨some d, .binOp .shr T x y T', ty, pos, aft, none⟩ :: rest) E M := fun h => e_shr_u (s := s) hx hy hd hs h
theorem Q9 {p : Nat} (q : Nat) (hx : rd E x = some (u p) := by rfl) (hy : rd E y = some (u q) := by rfl) (hd : Nat.blt d n = true := by rfl) : (OpsE Tryd.prog G R ops n K rest ((d, u ((p &&& q) % 18446744073709551616)) :: E) M) → OpsE Tryd.prog G R ops n K (⟨some d, .binOp .and T x y T', ty, pos, aft, none⟩ :: rest) E M := fun h => e_and_u (q := q) hx hy hd h
theorem QU {l : List Nat} (hT : Tryd.prog.underlying T = some .string := by exact Tu rfl) (hx : rd E x = some (sv l) := by rfl) (hd : Nat.blt d n = true := by rfl) (hR : callOk R = true := by rfl) : (OpsE Tryd.prog G R ops n K rest ((d, ii l.length) :: E) M) → OpsE Tryd.prog G R ops n K (⟨some d, .call ⟨.builtin .len, #[x], #[T]⟩, ty, pos, aft, none⟩ :: rest) E M := fun h => e_lenStr hT hx hd hR h
theorem QX {j : Nat} {l : Nat} {k : IntKind} {k' : IntKind} {k2 : IntKind} {e : TypeId} {f : Nat → Nat} (hT : Tryd.prog.underlying T = some (.array l e) := by exact Tu rfl) (he : Tryd.prog.underlying e = some (.int k') := by exact Tu rfl) (hs : (Tryd.prog.info? e).map (·.size) = some 1 := by exact Tz rfl) (hx : rd E x = some (.agg (arr k l f)) := by rfl) (hy : rd E y = some (.int k2 (j : Int)) := by rfl) (hj : j < l := by omega) (hd : Nat.blt d n = true := by rfl) : (OpsE Tryd.prog G R ops n K rest ((d, .int k (f j : Int)) :: E) M) → OpsE Tryd.prog G R ops n K (⟨some d, .index T x y, ty, pos, aft, none⟩ :: rest) E M := fun h => e_idx hT he hs hx hy hj hd h
theorem QY {fn : Go.Fn} {fs : Array Operand} {cs : Array Operand} {vf : List Value} {vc : List Value} (h1 : rdl E fs.toList = some vf := by rfl) (h2 : rdl E cs.toList = some vc := by rfl) (hd : Nat.blt d n = true := by rfl) : (OpsE Tryd.prog G R ops n K rest ((d, .func fn vf.toArray vc.toArray) :: E) M) → OpsE Tryd.prog G R ops n K (⟨some d, .makeFunc fn fs cs, ty, pos, aft, none⟩ :: rest) E M := fun h => e_func h1 h2 hd h
theorem QC {e : TypeId} {v : Value} {B : Mem} {z : Nat} {k : Nat} {xs : List Value} (hv : Shows B z v k xs) (hT : Tryd.prog.underlying T = some (.slice e) := by exact Tu rfl) (hx : rd E x = some v := by rfl) (hd : Nat.blt d n = true := by rfl) (hR : callOk R = true := by rfl) : (OpsE Tryd.prog G R ops n K rest ((d, ii k) :: E) M) → OpsE Tryd.prog G R ops n K (⟨some d, .call ⟨.builtin .len, #[x], #[T]⟩, ty, pos, aft, none⟩ :: rest) E M := fun h => e_lenV hv hT hx hd hR h
theorem QS {l : List Oper} {s : Nat} {v : Value} {v' : Value} (hv : v = v' := by exact (congrArg (slAddr _) (Nat.mul_one _))) : (OpsE Tryd.prog G R ops n K l ((s, v') :: E) M) → OpsE Tryd.prog G R ops n K l ((s, v) :: E) M := fun h => e_as hv h
theorem Qat {l : List Oper} {s : Nat} {v : Value} {v' : Value} (hv : v = v' := by exact (congrArg Value.bool (decide_eq_true (by omega)))) : (OpsE Tryd.prog G R ops n K l ((s, v') :: E) M) → OpsE Tryd.prog G R ops n K l ((s, v) :: E) M := fun h => e_as hv h
theorem Qaf {l : List Oper} {s : Nat} {v : Value} {v' : Value} (hv : v = v' := by exact (congrArg Value.bool (decide_eq_false (by omega)))) : (OpsE Tryd.prog G R ops n K l ((s, v') :: E) M) → OpsE Tryd.prog G R ops n K l ((s, v) :: E) M := fun h => e_as hv h
theorem Qar {l : List Oper} {s : Nat} {v : Value} {v' : Value} (hv : v = v' := by exact (congrArg Value.bool (decide_eq_true rfl))) : (OpsE Tryd.prog G R ops n K l ((s, v') :: E) M) → OpsE Tryd.prog G R ops n K l ((s, v) :: E) M := fun h => e_as hv h
theorem QJ {f : Nat} {o : Nat} {l : Nat} {N : Nat} {kd : IntKind} {g : Nat → Nat} {ps : List Part} {fs : Array Field} {fd : Field} {td : TypeDesc} (k : Nat) (hT : Tryd.prog.underlying T = some (.struct fs) := by exact Tu rfl) (hf : fs[f]? = some fd := by rfl) (he : Tryd.prog.underlying fd.type = some td := by exact Tu rfl) (hn : rowLike td = true := by rfl) (hs : (Tryd.prog.info? fd.type).map (·.size) = some l := by exact Tz rfl) (hx : rd E x = some (.agg (cells N ps)) := by rfl) (hk : catAt ps k = some (o, pI kd l g) := by rfl) (ho : fd.offset = o := by rfl) (hN : o + l ≤ N := by exact (Nat.le_of_ble_eq_true rfl)) (hd : Nat.blt d n = true := by rfl) : (OpsE Tryd.prog G R ops n K rest ((d, .agg (arr kd l g)) :: E) M) → OpsE Tryd.prog G R ops n K (⟨some d, .field T x f, ty, pos, aft, none⟩ :: rest) E M := fun h => e_fieldC k hT hf he hn hs hx hk ho hN hd h
theorem Qct {c : Operand} {p : Code} {q : Code} (hc : rd E c = some (.bool true) := by rfl) : (SatE Tryd.prog G p n Q E M) → SatE Tryd.prog G (.cond c p q) n Q E M := fun h => e_condT hc h
theorem Qcf {c : Operand} {p : Code} {q : Code} (hc : rd E c = some (.bool false) := by rfl) : (SatE Tryd.prog G q n Q E M) → SatE Tryd.prog G (.cond c p q) n Q E M := fun h => e_condF hc h
theorem Qz {c : Code} (I : Nat → Env → Mm → Prop) {E0 : Env} {M0 : Mm} {k : Nat} (h0 : I k E0 M0) (hs : sub E0 E) (hl : subL M0 M) (round : ∀ k E M, I k E M → SatE Tryd.prog G c n (thenE (fun E' M' => ∃ k' E'' M'', k' < k ∧ sub E'' E' ∧ subL M'' M' ∧ I k' E'' M'') Q) E M) : SatE Tryd.prog G (.loop c) n Q E M := e_loop I E0 M0 k hs hl h0 round
theorem QzK {c : Code} (Ek : Env) (Mk : Mm) (I : Nat → Env → Mm → Prop) {E0 : Env} {M0 : Mm} {k : Nat} (h0 : I k E0 M0) (hs : sub (catE E0 Ek) E) (hl : subL (catL M0 Mk) M) (round : ∀ k E M, I k E M → SatE Tryd.prog G c n (thenE (fun E' M' => ∃ k' E'' M'', k' < k ∧ sub (catE E'' Ek) E' ∧ subL (catL M'' Mk) M' ∧ I k' E'' M'') Q) (catE E Ek) (catL M Mk)) : SatE Tryd.prog G (.loop c) n Q E M := e_loopK Ek Mk I E0 M0 k hs hl h0 round
theorem Qzr {I : Nat → Env → Mm → Prop} {k k' : Nat} {E' : Env} {M' : Mm} {E'' : Env} {M'' : Mm} (h : I k' E'' M'') (hs : sub E'' E') (hl : subL M'' M') (hk : k' < k) : ∃ k' E'' M'', k' < k ∧ sub E'' E' ∧ subL M'' M' ∧ I k' E'' M'' := ⟨_, _, _, hk, hs, hl, h⟩
theorem QzL {I : Nat → Env → Mm → Prop} {k k' : Nat} {Ek : Env} {Mk : Mm} {E' : Env} {M' : Mm} {E'' : Env} {M'' : Mm} (h : I k' E'' M'') (hs : sub (catE E'' Ek) E') (hl : subL (catL M'' Mk) M') (hk : k' < k) : ∃ k' E'' M'', k' < k ∧ sub (catE E'' Ek) E' ∧ subL (catL M'' Mk) M' ∧ I k' E'' M'' := ⟨_, _, _, hk, hs, hl, h⟩
theorem Qf1 {f : FuncId} {fn : Func} {c : Code} {vs : List Value} {v : Value} (hf : Tryd.prog.funcs[f]? = some fn) (h : SatE Tryd.prog G c n (End1 Tryd.prog fn v) (argE vs 0) []) (hb : fn.body = some c := by rfl) (hn : fn.ntmps = n := by rfl) (ha : vs.toArray.size ≤ n := by simp) : Fn Tryd.prog G f vs.toArray v := fn1 hf hb hn ha (argE vs 0) (argE_ok vs) h
theorem Qf2 {f : FuncId} {fn : Func} {c : Code} {vs : List Value} {v v' : Value} (hf : Tryd.prog.funcs[f]? = some fn) (h : SatE Tryd.prog G c n (End2 Tryd.prog fn v v') (argE vs 0) []) (hb : fn.body = some c := by rfl) (hn : fn.ntmps = n := by rfl) (ha : vs.toArray.size ≤ n := by simp) : Fn Tryd.prog G f vs.toArray (.tuple #[v, v']) := fn2 hf hb hn ha (argE vs 0) (argE_ok vs) h
theorem Qf3 {f : FuncId} {fn : Func} {c : Code} {vs : List Value} {v v' v'' : Value} (hf : Tryd.prog.funcs[f]? = some fn) (h : SatE Tryd.prog G c n (End3 Tryd.prog fn v v' v'') (argE vs 0) []) (hb : fn.body = some c := by rfl) (hn : fn.ntmps = n := by rfl) (ha : vs.toArray.size ≤ n := by simp) : Fn Tryd.prog G f vs.toArray (.tuple #[v, v', v'']) := fn3 hf hb hn ha (argE vs 0) (argE_ok vs) h
theorem QfN {f : FuncId} {fn : Func} {c : Code} {vs : List Value} {e : TypeId} {z k : Nat} {xs : List Value} (hf : Tryd.prog.funcs[f]? = some fn) (h : SatE Tryd.prog G c n (EndN Tryd.prog e z k xs fn) (argE vs 0) []) (hb : fn.body = some c := by rfl) (hn : fn.ntmps = n := by rfl) (ha : vs.toArray.size ≤ n := by simp) : Fx Tryd.prog G [] f vs.toArray (fun v l1 nw => l1 = [] ∧ ∃ v', v = v' ∧ OwnS e z v' k xs nw) := fxN hf hb hn ha (argE vs 0) (argE_ok vs) h
theorem QfM {f : FuncId} {fn : Func} {c : Code} {vs : List Value} {e : TypeId} {z k : Nat} {xs : List Value} {u : Value} (hf : Tryd.prog.funcs[f]? = some fn) (h : SatE Tryd.prog G c n (EndN2 Tryd.prog e z k xs u fn) (argE vs 0) []) (hb : fn.body = some c := by rfl) (hn : fn.ntmps = n := by rfl) (ha : vs.toArray.size ≤ n := by simp) : Fx Tryd.prog G [] f vs.toArray (fun v l1 nw => l1 = [] ∧ ∃ v', v = .tuple #[v', u] ∧ OwnS e z v' k xs nw) := fxN2 hf hb hn ha (argE vs 0) (argE_ok vs) h
theorem QfO {f : FuncId} {fn : Func} {c : Code} {vs : List Value} {e : TypeId} {z k : Nat} {xs : List Value} {q u : Value} (hf : Tryd.prog.funcs[f]? = some fn) (h : SatE Tryd.prog G c n (EndN3 Tryd.prog e z k xs q u fn) (argE vs 0) []) (hb : fn.body = some c := by rfl) (hn : fn.ntmps = n := by rfl) (ha : vs.toArray.size ≤ n := by simp) : Fx Tryd.prog G [] f vs.toArray (fun v l1 nw => l1 = [] ∧ ∃ v', v = .tuple #[q, v', u] ∧ OwnS e z v' k xs nw) := fxN3 hf hb hn ha (argE vs 0) (argE_ok vs) h
theorem QfW {f : FuncId} {fn : Func} {c : Code} {vs : List Value} {b : Nat} {c0 c' : Array Value} {t : TypeId} (hf : Tryd.prog.funcs[f]? = some fn) (h : SatE Tryd.prog G c n (EndW b c' t fn) (argE vs 0) [(0, some ⟨b, c0, t⟩)]) (hb : fn.body = some c := by rfl) (hn : fn.ntmps = n := by rfl) (ha : vs.toArray.size ≤ n := by simp) : Fx Tryd.prog G [⟨b, c0, t⟩] f vs.toArray (fun v' l1 nw => v' = .tuple #[] ∧ l1 = [⟨b, c', t⟩] ∧ nw = []) := fxW hf hb hn ha (argE vs 0) (argE_ok vs) h
abbrev Sh (G : Mem) (v : Value) (l : List Nat) : Prop := Shows G 1 v l.length (l.map by8)
abbrev By (l : List Nat) : Prop := ∀ b ∈ l, b < 256
abbrev L8 (n : Nat) (f : Nat → Nat) : Prop := ∀ j, j < n → f j < 256
end Go.Proofs.YtbjaenjgahjikaaDoor
