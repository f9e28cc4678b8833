import Derived.Test.YtlaebpebgjaehaaDoorK6
import Derived.Test.YtlaebpebgjaehaaDoorK5
import Derived.Test.YtlaebpebgjaehaaDoorK2
import Derived.ProofKit
import Derived.OpenShut
import Derived.LaidMore
import Derived.Lay
import Derived.MakeChecks

/-
  The words that the program mixes are the document's; and what it holds when so many bytes were taken in. Plain arithmetic.
-/
namespace Go.Proofs.YtlaebpebgjaehaaDoor
open Go Go.RowKit
theorem spr_zero {x : Nat} (h : x < 4294967296) : (x ^^^ 0 % 4294967296) % 4294967296 = x := by simp; omega
theorem spr_false {h s : Nat → Nat} {many : Nat} (hs : ∀ t, t < 16 → s t = if t % 8 < 8 then w00 h t else 0) : ∀ t, t < 16 → upd (upd s 12 ((s 12 ^^^ many % 4294967296) % 4294967296)) 13 ((upd s 12 ((s 12 ^^^ many % 4294967296) % 4294967296) 13 ^^^ 0 % 4294967296) % 4294967296) t = w0 h many false t := fun t ht => by
  have e : upd s 12 ((s 12 ^^^ many % 4294967296) % 4294967296) 13 = ivf 5 := by
    rw [updN _ _ (by decide), hs 13 (by decide), if_pos (by decide)]; rfl
  rw [e, spr_zero (ivf_lt 5)]
  by_cases h1 : t = 13
  · rw [h1, updS]; rfl
  · rw [updN _ _ h1]; exact w0_false hs t ht
theorem spr_true {h s : Nat → Nat} {many : Nat} (hs : ∀ t, t < 16 → s t = if t % 8 < 8 then w00 h t else 0) : ∀ t, t < 16 → upd (upd (upd s 12 ((s 12 ^^^ many % 4294967296) % 4294967296)) 13 ((upd s 12 ((s 12 ^^^ many % 4294967296) % 4294967296) 13 ^^^ 0 % 4294967296) % 4294967296)) 14 ((4294967295 ^^^ upd (upd s 12 ((s 12 ^^^ many % 4294967296) % 4294967296)) 13 ((upd s 12 ((s 12 ^^^ many % 4294967296) % 4294967296) 13 ^^^ 0 % 4294967296) % 4294967296) 14) % 4294967296) t = w0 h many true t := fun t ht => by
  have e := spr_false (many := many) hs
  by_cases h1 : t = 14
  · rw [h1, updS, e 14 (by decide)]; rfl
  · rw [updN _ _ h1, e t ht]
    unfold w0
    by_cases h2 : t = 12
    · rw [if_pos h2, if_pos h2]
    · rw [if_neg h2, if_neg h2, if_neg (by simp), if_neg (by simp [h1])]

/-! ### Sums that may be -/
theorem okB_of {n ln : Nat} {d : Nat → Nat} : okB n ln d = true ↔ (∀ j, n ≤ j → j < 64 → d j = 0) ∧ n = nbl ln := by
  unfold okB
  rw [Bool.and_eq_true, List.all_eq_true, decide_eq_true_iff]
  constructor
  · rintro ⟨h1, h2⟩
    refine ⟨fun j hj hj2 => ?_, h2⟩
    have := h1 j (List.mem_range.2 hj2)
    have hn : ¬ j < n := by omega
    simpa [hn] using this
  · rintro ⟨h1, h2⟩
    refine ⟨fun j hj => ?_, h2⟩
    by_cases hn : j < n
    · simp [hn]
    · simp [h1 j (by omega) (List.mem_range.1 hj)]
theorem okB_false {n ln : Nat} {d : Nat → Nat} (h : ¬ okB n ln d = true) : okB n ln d = false := by
  cases e : okB n ln d with
  | true => exact absurd e h
  | false => rfl
theorem okB_n1 {n ln : Nat} {d : Nat → Nat} (h : ¬ (ln - n) % 64 = 0) : okB n ln d = false := okB_false fun e => by
  have := (okB_open e).2.2.2.1
  omega
theorem okB_n2 {n ln : Nat} {d : Nat → Nat} (h0 : n = 0) (h1 : ln ≠ 0) : okB n ln d = false := okB_false fun e => by
  have := (okB_of.1 e).2
  unfold nbl at this
  split at this <;> omega
theorem okB_n3 {n ln i : Nat} {d : Nat → Nat} (hi : n + i < 64) (h : d (n + i) ≠ 0) : okB n ln d = false := okB_false fun e => h ((okB_of.1 e).1 _ (by omega) hi)
theorem okB_n4 {n ln : Nat} {d : Nat → Nat} (h : ln < n) : okB n ln d = false := okB_false fun e => by
  have := (okB_open e).2.1
  omega
theorem okB_y {n ln k : Nat} {d : Nat → Nat} (hn : n ≤ 64) (hnl : n ≤ ln) (hm : (ln - n) % 64 = 0) (h0 : ¬ (n = 0 ∧ ln ≠ 0)) (hk : k = 64 - n) (h : ∀ t, t < k → d (n + t) = 0) : okB n ln d = true := okB_of.2 ⟨fun j hj hj2 => by
  have := h (j - n) (by omega)
  rw [show n + (j - n) = j by omega] at this
  exact this, by unfold nbl; split <;> omega⟩
theorem bool_n2 {n ln : Nat} (h : (decide ((n : Int) = 0) && decide ((ln : Int) ≠ 0)) = true) : n = 0 ∧ ln ≠ 0 := by
  rw [Bool.and_eq_true, decide_eq_true_iff, decide_eq_true_iff] at h
  omega
theorem bool_y2 {n ln : Nat} (h : (decide ((n : Int) = 0) && decide ((ln : Int) ≠ 0)) = false) : ¬ (n = 0 ∧ ln ≠ 0) := fun ⟨h1, h2⟩ => by
  rw [decide_eq_true (by omega), decide_eq_true (by omega)] at h
  cases h

/-! ### The bytes of words -/
theorem hol_at (w : Nat → Nat) : ∀ n i, i < 4 * n → (hol w n).getD i 0 = w (i / 4) / 256 ^ (i % 4) % 256
  | 0, i, h => by omega
  | n + 1, i, h => by
    rw [hol, List.getD_eq_getElem?_getD]
    by_cases hi : i < 4 * n
    · rw [List.getElem?_append_left (by rw [hol_len]; exact hi), ← List.getD_eq_getElem?_getD, hol_at w n i hi]
    · rw [List.getElem?_append_right (by rw [hol_len]; omega), hol_len, List.getElem?_eq_getElem (by rw [lowl_len]; omega)]
      rw [show i / 4 = n by omega, show i % 4 = i - 4 * n by omega]
      simp [lowl]
theorem hsum_at (w : Nat → Nat) {i : Nat} (hi : i < 32) : w (i / 4) / 2 ^ (i % 4 * 8) % 256 = hsumf w i := by
  unfold hsumf
  rw [hol_at w 8 i (by omega), Nat.mul_comm (i % 4) 8, Nat.pow_mul]

/-! ### Bytes that are taken in -/
/-- What is held when p bytes of S were taken in. -/
def heldP (S : List Nat) (p j : Nat) : Nat := if j < p - 64 * nblk p then S.getD (64 * nblk p + j) 0 else 0
def AddInv (h d : Nat → Nat) (n ln : Nat) (l : List Nat) (hh g : Nat → Nat) (nn q : Nat) : Prop :=
  ln ≤ q ∧ q ≤ ln + l.length ∧ hh = hacc h (ln - n) (sS d n l) (nblk (n + (q - ln))) ∧ (∀ j, j < 64 → g j = heldP (sS d n l) (n + (q - ln)) j) ∧ nn = n + (q - ln) - 64 * nblk (n + (q - ln))
theorem sS_low (d : Nat → Nat) {n j : Nat} (l : List Nat) (h : j < n) : (sS d n l).getD j 0 = d j := by
  unfold sS
  rw [List.getD_eq_getElem?_getD, List.getElem?_append_left (by simpa using h), List.getElem?_map, List.getElem?_range h]
  rfl
theorem sS_high (d : Nat → Nat) (n j : Nat) (l : List Nat) : (sS d n l).getD (n + j) 0 = l.getD j 0 := by
  unfold sS
  rw [List.getD_eq_getElem?_getD, List.getElem?_append_right (by simp), List.length_map, List.length_range, Nat.add_sub_cancel_left, ← List.getD_eq_getElem?_getD]
theorem drop_at (l : List Nat) (c j : Nat) : (l.drop c).getD j 0 = l.getD (c + j) 0 := by
  rw [List.getD_eq_getElem?_getD, List.getElem?_drop, ← List.getD_eq_getElem?_getD]
theorem add_first {h d : Nat → Nat} {n ln : Nat} (l : List Nat) (hok : okB n ln d = true) : AddInv h d n ln l h d n ln := by
  obtain ⟨_, hnl, hn, _, hz⟩ := okB_open hok
  have hb : nblk (n + (ln - ln)) = 0 := by unfold nblk; omega
  refine ⟨Nat.le_refl _, by omega, by rw [hb]; rfl, fun j hj => ?_, by rw [hb]; omega⟩
  unfold heldP
  rw [hb]
  by_cases h1 : j < n
  · rw [if_pos (by omega), show 64 * 0 + j = j by omega, sS_low d l h1]
  · rw [if_neg (by omega), hz j (by omega) hj]
theorem add_lt {h d hh g : Nat → Nat} {n ln nn q : Nat} {l : List Nat} (hd : ∀ j, j < 64 → d j < 256) (hn : n ≤ 64) (hl : ∀ b ∈ l, b < 256) (hi : AddInv h d n ln l hh g nn q) : ∀ j, j < 64 → g j < 256 := fun j hj => by
  rw [hi.2.2.2.1 j hj]
  unfold heldP
  split
  · exact getD_lt (sS_lt (n := n) (fun j hj => hd j (by omega)) hl) _
  · decide
theorem add_nn {h d hh g : Nat → Nat} {n ln nn q : Nat} {l : List Nat} (hi : AddInv h d n ln l hh g nn q) : nn ≤ 64 := by
  rw [hi.2.2.2.2]; unfold nblk; omega
/-- A block is full: it is squeezed in, and the next one is begun. -/
theorem add_full {h d hh g : Nat → Nat} {n ln nn q : Nat} {l : List Nat} (hnl : n ≤ ln) (hi : AddInv h d n ln l hh g nn q) (hN : nn = 64) (hm : (ln - n) % 64 = 0) {k : Nat} (hk : k = min (l.drop (q - ln)).length 64) (h0 : 0 < (l.drop (q - ln)).length) {hh' g' : Nat → Nat} {nn' q' : Nat} (e1 : hh' = sqz hh ((List.range 64).map g) q false) (e2 : ∀ j, j < 64 → g' j = if 0 ≤ j ∧ j < 0 + k then (l.drop (q - ln)).getD (j - 0) 0 else 0) (e3 : nn' = 0 + k) (e4 : q' = q + k) : AddInv h d n ln l hh' g' nn' q' := by
  obtain ⟨i1, i2, i3, i4, i5⟩ := hi
  rw [List.length_drop] at hk h0
  obtain ⟨B, hB⟩ : ∃ B, B = nblk (n + (q - ln)) := ⟨_, rfl⟩
  have hp : n + (q - ln) = 64 * (B + 1) := by have := hB; unfold nblk at this; omega
  have hp' : n + (q' - ln) = 64 * (B + 1) + k := by omega
  have hB' : nblk (n + (q' - ln)) = B + 1 := by unfold nblk; omega
  have hfull : (List.range 64).map g = ((sS d n l).drop (64 * B)).take 64 := by
    apply List.ext_getElem
    · simp [sS_len]; omega
    · intro j h1 h2
      simp only [List.getElem_map, List.getElem_range, List.getElem_take, List.getElem_drop]
      have hj : j < 64 := by simpa using h1
      rw [i4 j hj]
      unfold heldP
      rw [← hB, if_pos (by omega), List.getD_eq_getElem?_getD, List.getElem?_eq_getElem (by rw [sS_len]; omega)]
      rfl
  refine ⟨by omega, by omega, ?_, fun j hj => ?_, by rw [hB']; omega⟩
  · rw [e1, hB', hacc, hfull, i3, ← hB, show ln - n + 64 * (B + 1) = q by omega]
  · rw [e2 j hj]
    unfold heldP
    rw [hB']
    by_cases h1 : j < k
    · rw [if_pos (by omega), if_pos (by omega), drop_at, Nat.sub_zero, show 64 * (B + 1) + j = n + (q - ln + j) by omega, sS_high]
    · rw [if_neg (by omega), if_neg (by omega)]
/-- Bytes go behind those that are held. -/
theorem add_more {h d hh g : Nat → Nat} {n ln nn q : Nat} {l : List Nat} (hi : AddInv h d n ln l hh g nn q) (hN : nn < 64) {k : Nat} (hk : k = min (l.drop (q - ln)).length (64 - nn)) (h0 : 0 < (l.drop (q - ln)).length) {g' : Nat → Nat} {nn' q' : Nat} (e2 : ∀ j, j < 64 → g' j = if nn ≤ j ∧ j < nn + k then (l.drop (q - ln)).getD (j - nn) 0 else g j) (e3 : nn' = nn + k) (e4 : q' = q + k) : AddInv h d n ln l hh g' nn' q' := by
  obtain ⟨i1, i2, i3, i4, i5⟩ := hi
  rw [List.length_drop] at hk h0
  obtain ⟨B, hB⟩ : ∃ B, B = nblk (n + (q - ln)) := ⟨_, rfl⟩
  rw [← hB] at i3 i5
  have hpB : 64 * B ≤ n + (q - ln) := by rw [hB]; exact nblk_le _
  have hB' : nblk (n + (q' - ln)) = B := by have := hB; unfold nblk at this ⊢; omega
  refine ⟨by omega, by omega, by rw [hB']; exact i3, fun j hj => ?_, by rw [hB']; omega⟩
  rw [e2 j hj]
  unfold heldP
  rw [hB']
  by_cases h1 : nn ≤ j ∧ j < nn + k
  · rw [if_pos h1, if_pos (by omega), drop_at, show 64 * B + j = n + (q - ln + (j - nn)) by omega, sS_high]
  · rw [if_neg h1, i4 j hj]
    unfold heldP
    rw [← hB]
    by_cases h2 : j < nn
    · rw [if_pos (by omega), if_pos (by omega)]
    · rw [if_neg (by omega), if_neg (by omega)]
theorem add_shows {B : Mem} {bv : Value} {l : List Nat} {q ln k : Nat} (h : Shows B 1 bv (l.drop (q - ln)).length ((l.drop (q - ln)).map by8)) (hk : k ≤ (l.drop (q - ln)).length) (hq : ln ≤ q) : Shows B 1 (slPart 1 bv k (l.drop (q - ln)).length) (l.drop (q + k - ln)).length ((l.drop (q + k - ln)).map by8) :=
  h.cut hk (Nat.le_refl _) (by rw [List.drop_drop, List.take_of_length_le (by simp; omega), show q - ln + k = q + k - ln by omega])
theorem cH_congr {h h' d d' : Nat → Nat} {n n' ln ln' : Nat} (hh : h = h') (hd : ∀ j, j < 64 → d j = d' j) (hn : n = n') (hl : ln = ln') : Value.agg (cells 74 [pI .u32 8 h, pI .u8 64 d, pV (.int .i64 (n : Int)), pV (.int .i64 (ln : Int))]) = Value.agg (cells 74 [pI .u32 8 h', pI .u8 64 d', pV (.int .i64 (n' : Int)), pV (.int .i64 (ln' : Int))]) := by
  subst hh hn hl
  congr 1
  exact cells_congr ⟨rfl, fun _ _ => rfl, rfl, fun i hi => congrArg (fun z : Nat => Value.int .u8 (z : Int)) (hd i hi), rfl, fun _ _ => rfl, rfl, fun _ _ => rfl, trivial⟩
theorem add_last {h d hh g : Nat → Nat} {n ln nn q : Nat} {l : List Nat} (hi : AddInv h d n ln l hh g nn q) (h0 : (l.drop (q - ln)).length = 0) : hh = hacc h (ln - n) (sS d n l) (nblk (sS d n l).length) ∧ (∀ j, j < 64 → g j = ((sS d n l).drop (64 * nblk (sS d n l).length)).getD j 0) ∧ nn = ((sS d n l).drop (64 * nblk (sS d n l).length)).length ∧ q = ln + l.length := by
  obtain ⟨i1, i2, i3, i4, i5⟩ := hi
  rw [List.length_drop] at h0
  have hp : n + (q - ln) = (sS d n l).length := by rw [sS_len]; omega
  rw [hp] at i3 i4 i5
  refine ⟨i3, fun j hj => ?_, by rw [i5, List.length_drop], by omega⟩
  rw [i4 j hj, drop_at]
  unfold heldP
  by_cases h1 : j < (sS d n l).length - 64 * nblk (sS d n l).length
  · rw [if_pos h1]
  · rw [if_neg h1, List.getD_eq_getElem?_getD, List.getElem?_eq_none (by omega)]; rfl
end Go.Proofs.YtlaebpebgjaehaaDoor

/-
  Walks, written by a program of ours off the loaded functions.
-/
namespace Go.Proofs.YtlaebpebgjaehaaDoor
open Go Go.RowKit


theorem ent22 : enters Tryd.prog 22 = true := by kernel_rfl

variable {G : Mem}

set_option maxHeartbeats 2000000 in
theorem spread_true (h d : Nat → Nat) (n ln : Nat) (hl : ln < 4294967296) : Fn Tryd.prog G 33 #[.agg (cells 74 [pI .u32 8 h, pI .u8 64 d, pV (.int .i64 (n : Int)), pV (.int .i64 (ln : Int))]), .bool true] (.agg (arr .u32 16 (w0 h ln true))) := by
  refine fn1 (n := 45) Tryd.func33 rfl rfl (by simp) (argE [.agg (cells 74 [pI .u32 8 h, pI .u8 64 d, pV (.int .i64 (n : Int)), pV (.int .i64 (ln : Int))]), .bool true] 0) (argE_ok _) ?_
  refine e_seq ?_
  refine e_plain ?_
  refine e_box 0 rfl rfl fun r1 => ?_
  refine e_alloc 1 zer60 rfl fun r2 => ?_
  refine e_nil ?_
  refine e_seq ?_
  refine e_plain ?_
  refine e_alloc 2 zer60 rfl fun r3 => ?_
  refine e_nil ?_
  refine e_seq ?_
  refine e_seq ?_
  refine e_plain ?_
  refine e_call rfl ent22 div_fn rfl rfl ?_
  refine e_move rfl rfl ?_
  refine e_nil ?_
  refine e_block ?_
  refine e_loopK [(1, _), (2, _), (4, _), (5, _), (8, _)] [(0, _), (1, _)] (fun kk E m => ∃ (i : Nat) (s : Nat → Nat), kk = 8 - i ∧ E = [(9, ii i)] ∧ m = [(2, some ⟨r3, arr .u32 16 s, 60⟩)] ∧ (i ≤ 8) ∧ (∀ t, t < 16 → s t = if t % 8 < i then w00 h t else 0)) [(9, ii 0)] [(2, some ⟨r3, arr .u32 16 (fun _ => 0), 60⟩)] (8 - 0) ⟨rfl, rfl, rfl, rfl, rfl, rfl, trivial⟩ ⟨rfl, rfl, rfl, trivial⟩ ⟨0, fun _ => 0, rfl, rfl, rfl, by omega, fun t _ => by rw [if_neg (by omega)]⟩ ?_
  rintro kk E m ⟨i, s, rfl, rfl, rfl, hf0_0, hf0_1⟩
  simp only [catE, catL]
  refine e_seq ?_
  refine e_plain ?_
  refine e_lt rfl rfl rfl ?_
  refine e_nil ?_
  refine e_seq ?_
  refine e_cond rfl ?_ ?_
  · intro hc0
    have hc0 : i < 8 := by have := of_decide_eq_true hc0; omega
    refine e_skip ?_
    refine e_seq ?_
    refine e_block ?_
    refine e_seq ?_
    refine e_plain ?_
    refine e_move rfl rfl ?_
    refine e_idx und23 und22 siz22 rfl rfl (by omega) rfl ?_
    refine e_assign rfl rfl ?_
    refine e_assign rfl rfl ?_
    refine e_nil ?_
    refine e_plain ?_
    refine e_move rfl rfl ?_
    refine e_move rfl rfl ?_
    refine e_add_i (p := 8) rfl rfl rfl (by omega) ?_
    refine e_move rfl rfl ?_
    refine e_fld (0) und26 rfl siz23 rfl rfl rfl ?_
    refine e_index0 und23 siz22 rfl rfl (by omega) rfl ?_
    refine e_ldI (i := 0) 0 (i) und22 rfl rfl rfl rfl (by first | rfl | omega) (by omega) (by omega) rfl ⟨[], trivial⟩ ?_
    refine e_move rfl rfl ?_
    refine e_index0 und60 siz22 rfl rfl (by omega) rfl ?_
    refine e_storeN (i := 2) siz22 rfl rfl rfl (by omega) (.inl rfl) ?_
    refine e_index0 und60 siz22 rfl rfl (by omega) rfl ?_
    refine e_storeN (i := 2) siz22 rfl rfl rfl (by omega) (.inl rfl) ?_
    refine e_nil ?_
    refine e_plain ?_
    refine e_add_i (q := 1) rfl rfl rfl (by omega) ?_
    refine e_move rfl rfl ?_
    refine e_nil ?_
    refine ⟨_, [(9, ii (i + 1))], [(2, some ⟨r3, arr .u32 16 (upd (upd s i _) (8 + i) _), 60⟩)], ?_, ⟨rfl, rfl, rfl, rfl, rfl, rfl, trivial⟩, ⟨rfl, rfl, rfl, trivial⟩, i + 1, upd (upd s i _) (8 + i) _, rfl, rfl, rfl, by omega, w00_step (by omega) hf0_1⟩
    omega
  · intro hc0
    have hc0 := of_decide_eq_false hc0
    have hz0 : i = 8 := by omega
    subst hz0
    refine e_exit ?_
    refine e_seq ?_
    refine e_plain ?_
    refine e_index0 (j := 12) und60 siz22 rfl rfl (by omega) rfl ?_
    refine e_load1 (i := 2) und22 rfl rfl rfl (arr_get (by omega)) rfl ⟨[], trivial⟩ ?_
    refine e_fld (73) und26 rfl siz3 rfl rfl rfl ?_
    refine e_ldV1 (i := 0) 3 und3 rfl rfl rfl rfl (by decide) rfl ⟨[], trivial⟩ ?_
    refine e_conv_w und3 und22 rfl rfl rfl ?_
    refine e_xor_w rfl rfl rfl  ?_
    refine e_index0 (j := 12) und60 siz22 rfl rfl (by omega) rfl ?_
    refine e_storeN (i := 2) siz22 rfl rfl rfl (by omega) (.inl rfl) ?_
    refine e_nil ?_
    refine e_seq ?_
    refine e_plain ?_
    refine e_index0 (j := 13) und60 siz22 rfl rfl (by omega) rfl ?_
    refine e_load1 (i := 2) und22 rfl rfl rfl (arr_get (by omega)) rfl ⟨[], trivial⟩ ?_
    refine e_fld (73) und26 rfl siz3 rfl rfl rfl ?_
    refine e_ldV1 (i := 0) 3 und3 rfl rfl rfl rfl (by decide) rfl ⟨[], trivial⟩ ?_
    refine e_shr_i (s := 32) rfl rfl rfl (by omega) ?_
    refine e_as (congrArg ii (show ln / 2 ^ 32 = 0 by omega)) ?_
    refine e_conv_w und3 und22 rfl rfl rfl ?_
    refine e_xor_w rfl rfl rfl  ?_
    refine e_index0 (j := 13) und60 siz22 rfl rfl (by omega) rfl ?_
    refine e_storeN (i := 2) siz22 rfl rfl rfl (by omega) (.inl rfl) ?_
    refine e_nil ?_
    refine e_seq ?_
    refine e_seq ?_
    refine e_plain ?_
    refine e_move rfl rfl ?_
    refine e_nil ?_
    refine e_cond rfl ?_ ?_
    · intro hc1
      refine e_plain ?_
      refine e_index0 (j := 14) und60 siz22 rfl rfl (by omega) rfl ?_
      refine e_load1 (i := 2) und22 rfl rfl rfl (arr_get (by omega)) rfl ⟨[], trivial⟩ ?_
      refine e_compl_w rfl rfl ?_
      refine e_index0 (j := 14) und60 siz22 rfl rfl (by omega) rfl ?_
      refine e_storeN (i := 2) siz22 rfl rfl rfl (by omega) (.inl rfl) ?_
      refine e_nil ?_
      refine e_seq ?_
      refine e_plain ?_
      refine e_loadA (i := 2) und60 rfl siz60 rfl rfl (arr_size _ _ _) rfl ⟨[], trivial⟩ ?_
      refine e_storeA (i := 1) siz60 rfl rfl (arr_size _ _ _) arr_one rfl (arr_sz _ _ _ _ _) (.inl rfl) ?_
      refine e_nil ?_
      refine e_ret ?_
      rw [← arr_congr (spr_true hf0_1)]
      exact ⟨_, rfl, .cell (i := 1) rfl rfl und60 rfl siz60 (arr_size _ _ _)⟩
    · intro hc1
      cases hc1

set_option maxHeartbeats 2000000 in
theorem spread_false (h d : Nat → Nat) (n ln : Nat) (hl : ln < 4294967296) : Fn Tryd.prog G 33 #[.agg (cells 74 [pI .u32 8 h, pI .u8 64 d, pV (.int .i64 (n : Int)), pV (.int .i64 (ln : Int))]), .bool false] (.agg (arr .u32 16 (w0 h ln false))) := by
  refine fn1 (n := 45) Tryd.func33 rfl rfl (by simp) (argE [.agg (cells 74 [pI .u32 8 h, pI .u8 64 d, pV (.int .i64 (n : Int)), pV (.int .i64 (ln : Int))]), .bool false] 0) (argE_ok _) ?_
  refine e_seq ?_
  refine e_plain ?_
  refine e_box 0 rfl rfl fun r1 => ?_
  refine e_alloc 1 zer60 rfl fun r2 => ?_
  refine e_nil ?_
  refine e_seq ?_
  refine e_plain ?_
  refine e_alloc 2 zer60 rfl fun r3 => ?_
  refine e_nil ?_
  refine e_seq ?_
  refine e_seq ?_
  refine e_plain ?_
  refine e_call rfl ent22 div_fn rfl rfl ?_
  refine e_move rfl rfl ?_
  refine e_nil ?_
  refine e_block ?_
  refine e_loopK [(1, _), (2, _), (4, _), (5, _), (8, _)] [(0, _), (1, _)] (fun kk E m => ∃ (i : Nat) (s : Nat → Nat), kk = 8 - i ∧ E = [(9, ii i)] ∧ m = [(2, some ⟨r3, arr .u32 16 s, 60⟩)] ∧ (i ≤ 8) ∧ (∀ t, t < 16 → s t = if t % 8 < i then w00 h t else 0)) [(9, ii 0)] [(2, some ⟨r3, arr .u32 16 (fun _ => 0), 60⟩)] (8 - 0) ⟨rfl, rfl, rfl, rfl, rfl, rfl, trivial⟩ ⟨rfl, rfl, rfl, trivial⟩ ⟨0, fun _ => 0, rfl, rfl, rfl, by omega, fun t _ => by rw [if_neg (by omega)]⟩ ?_
  rintro kk E m ⟨i, s, rfl, rfl, rfl, hf0_0, hf0_1⟩
  simp only [catE, catL]
  refine e_seq ?_
  refine e_plain ?_
  refine e_lt rfl rfl rfl ?_
  refine e_nil ?_
  refine e_seq ?_
  refine e_cond rfl ?_ ?_
  · intro hc0
    have hc0 : i < 8 := by have := of_decide_eq_true hc0; omega
    refine e_skip ?_
    refine e_seq ?_
    refine e_block ?_
    refine e_seq ?_
    refine e_plain ?_
    refine e_move rfl rfl ?_
    refine e_idx und23 und22 siz22 rfl rfl (by omega) rfl ?_
    refine e_assign rfl rfl ?_
    refine e_assign rfl rfl ?_
    refine e_nil ?_
    refine e_plain ?_
    refine e_move rfl rfl ?_
    refine e_move rfl rfl ?_
    refine e_add_i (p := 8) rfl rfl rfl (by omega) ?_
    refine e_move rfl rfl ?_
    refine e_fld (0) und26 rfl siz23 rfl rfl rfl ?_
    refine e_index0 und23 siz22 rfl rfl (by omega) rfl ?_
    refine e_ldI (i := 0) 0 (i) und22 rfl rfl rfl rfl (by first | rfl | omega) (by omega) (by omega) rfl ⟨[], trivial⟩ ?_
    refine e_move rfl rfl ?_
    refine e_index0 und60 siz22 rfl rfl (by omega) rfl ?_
    refine e_storeN (i := 2) siz22 rfl rfl rfl (by omega) (.inl rfl) ?_
    refine e_index0 und60 siz22 rfl rfl (by omega) rfl ?_
    refine e_storeN (i := 2) siz22 rfl rfl rfl (by omega) (.inl rfl) ?_
    refine e_nil ?_
    refine e_plain ?_
    refine e_add_i (q := 1) rfl rfl rfl (by omega) ?_
    refine e_move rfl rfl ?_
    refine e_nil ?_
    refine ⟨_, [(9, ii (i + 1))], [(2, some ⟨r3, arr .u32 16 (upd (upd s i _) (8 + i) _), 60⟩)], ?_, ⟨rfl, rfl, rfl, rfl, rfl, rfl, trivial⟩, ⟨rfl, rfl, rfl, trivial⟩, i + 1, upd (upd s i _) (8 + i) _, rfl, rfl, rfl, by omega, w00_step (by omega) hf0_1⟩
    omega
  · intro hc0
    have hc0 := of_decide_eq_false hc0
    have hz0 : i = 8 := by omega
    subst hz0
    refine e_exit ?_
    refine e_seq ?_
    refine e_plain ?_
    refine e_index0 (j := 12) und60 siz22 rfl rfl (by omega) rfl ?_
    refine e_load1 (i := 2) und22 rfl rfl rfl (arr_get (by omega)) rfl ⟨[], trivial⟩ ?_
    refine e_fld (73) und26 rfl siz3 rfl rfl rfl ?_
    refine e_ldV1 (i := 0) 3 und3 rfl rfl rfl rfl (by decide) rfl ⟨[], trivial⟩ ?_
    refine e_conv_w und3 und22 rfl rfl rfl ?_
    refine e_xor_w rfl rfl rfl  ?_
    refine e_index0 (j := 12) und60 siz22 rfl rfl (by omega) rfl ?_
    refine e_storeN (i := 2) siz22 rfl rfl rfl (by omega) (.inl rfl) ?_
    refine e_nil ?_
    refine e_seq ?_
    refine e_plain ?_
    refine e_index0 (j := 13) und60 siz22 rfl rfl (by omega) rfl ?_
    refine e_load1 (i := 2) und22 rfl rfl rfl (arr_get (by omega)) rfl ⟨[], trivial⟩ ?_
    refine e_fld (73) und26 rfl siz3 rfl rfl rfl ?_
    refine e_ldV1 (i := 0) 3 und3 rfl rfl rfl rfl (by decide) rfl ⟨[], trivial⟩ ?_
    refine e_shr_i (s := 32) rfl rfl rfl (by omega) ?_
    refine e_as (congrArg ii (show ln / 2 ^ 32 = 0 by omega)) ?_
    refine e_conv_w und3 und22 rfl rfl rfl ?_
    refine e_xor_w rfl rfl rfl  ?_
    refine e_index0 (j := 13) und60 siz22 rfl rfl (by omega) rfl ?_
    refine e_storeN (i := 2) siz22 rfl rfl rfl (by omega) (.inl rfl) ?_
    refine e_nil ?_
    refine e_seq ?_
    refine e_seq ?_
    refine e_plain ?_
    refine e_move rfl rfl ?_
    refine e_nil ?_
    refine e_cond rfl ?_ ?_
    · intro hc1
      cases hc1
    · intro hc1
      refine e_skip ?_
      refine e_seq ?_
      refine e_plain ?_
      refine e_loadA (i := 2) und60 rfl siz60 rfl rfl (arr_size _ _ _) rfl ⟨[], trivial⟩ ?_
      refine e_storeA (i := 1) siz60 rfl rfl (arr_size _ _ _) arr_one rfl (arr_sz _ _ _ _ _) (.inl rfl) ?_
      refine e_nil ?_
      refine e_ret ?_
      rw [← arr_congr (spr_false hf0_1)]
      exact ⟨_, rfl, .cell (i := 1) rfl rfl und60 rfl siz60 (arr_size _ _ _)⟩

set_option maxHeartbeats 2000000 in
theorem dbegin6_fn : Fn Tryd.prog G 10 #[] (.agg (cells 74 [pI .u32 8 hbeg, pI .u8 64 (fun _ => 0), pV (.int .i64 0), pV (.int .i64 0)])) := by
  refine fn1 (n := 9) Tryd.func10 rfl rfl (by simp) (argE [] 0) (argE_ok _) ?_
  refine e_seq ?_
  refine e_plain ?_
  refine e_alloc 0 zer26 rfl fun r1 => ?_
  refine e_nil ?_
  refine e_seq ?_
  refine e_plain ?_
  refine e_call rfl ent22 div_fn rfl rfl ?_
  refine e_alloc 1 zer23 rfl fun r2 => ?_
  refine e_storeA (i := 1) siz23 rfl rfl (arr_size _ _ _) arr_one rfl (arr_sz _ _ _ _ _) (.inl rfl) ?_
  refine e_nil ?_
  refine e_seq ?_
  refine e_plain ?_
  refine e_index0 (j := 0) und23 siz22 rfl rfl (by omega) rfl ?_
  refine e_load1 (i := 1) und22 rfl rfl rfl (arr_get (by omega)) rfl ⟨[], trivial⟩ ?_
  refine e_xor_w (q := 16842784) rfl rfl rfl  ?_
  refine e_index0 (j := 0) und23 siz22 rfl rfl (by omega) rfl ?_
  refine e_storeN (i := 1) siz22 rfl rfl rfl (by omega) (.inl rfl) ?_
  refine e_nil ?_
  refine e_seq ?_
  refine e_plain ?_
  refine e_loadA (i := 1) und23 rfl siz23 rfl rfl (arr_size _ _ _) rfl ⟨[], trivial⟩ ?_
  refine e_buildS (cells 74 [pI .u32 8 hbeg, pI .u8 64 (fun _ => 0), pV (.int .i64 0), pV (.int .i64 0)]) zer26 und26 pls26 rfl (by kernel_rfl) rfl ?_
  refine e_storeA (i := 0) siz26 rfl rfl (arrv_size _ _) (cells_one ⟨fun _ => rfl, fun _ => rfl, fun _ => rfl, fun _ => rfl, trivial⟩) rfl cells_sz (.inl rfl) ?_
  refine e_nil ?_
  refine e_ret ?_
  exact ⟨_, rfl, .cell (i := 0) rfl rfl und26 rfl siz26 (arrv_size _ _)⟩

end Go.Proofs.YtlaebpebgjaehaaDoor

/-
  Walks, written by a program of ours off the loaded functions.
-/
namespace Go.Proofs.YtlaebpebgjaehaaDoor
open Go Go.RowKit


theorem ent32 : enters Tryd.prog 32 = true := by kernel_rfl
theorem ent33 : enters Tryd.prog 33 = true := by kernel_rfl
theorem ent34 : enters Tryd.prog 34 = true := by kernel_rfl

variable {G : Mem}

set_option maxHeartbeats 2000000 in
theorem dsqz_true (h d : Nat → Nat) (n ln : Nat) (hd : ∀ j, j < 64 → d j < 256) (hl : ln < 4294967296) : Fn Tryd.prog (DOR :: G) 26 #[.agg (cells 74 [pI .u32 8 h, pI .u8 64 d, pV (.int .i64 (n : Int)), pV (.int .i64 (ln : Int))]), .bool true] (.agg (arr .u32 8 (sqz h ((List.range 64).map d) ln true))) := by
  obtain ⟨v, hv⟩ : ∃ v, v = rndM (wrd ((List.range 64).map d)) (w0 h ln true) 10 := ⟨_, rfl⟩
  have hvb : ∀ t, t < 16 → v t = brs ((List.range 64).map d) (w0 h ln true) 10 t := fun t ht => by rw [hv]; exact rnd_brs (fun _ _ => rfl) 10 t ht
  obtain ⟨z, hz⟩ : ∃ z, z = sqz h ((List.range 64).map d) ln true := ⟨_, rfl⟩
  rw [← hz]
  refine fn1 (n := 35) Tryd.func26 rfl rfl (by simp) (argE [.agg (cells 74 [pI .u32 8 h, pI .u8 64 d, pV (.int .i64 (n : Int)), pV (.int .i64 (ln : Int))]), .bool true] 0) (argE_ok _) ?_
  refine e_seq ?_
  refine e_plain ?_
  refine e_box 0 rfl rfl fun r1 => ?_
  refine e_alloc 1 zer23 rfl fun r2 => ?_
  refine e_nil ?_
  refine e_seq ?_
  refine e_draw mixed (by kernel_rfl) ?_
  refine e_loadA (i := 0) und26 rfl siz26 rfl rfl (arrv_size _ _) rfl ⟨[], trivial⟩ ?_
  refine e_move rfl rfl ?_
  refine e_call rfl ent33 (spread_true h d n ln hl) rfl rfl ?_
  refine e_fld (8) und26 rfl siz24 rfl rfl rfl ?_
  refine e_ldC (i := 0) 1 und24 rfl siz24 rfl rfl rfl (by decide) rfl ⟨[], trivial⟩ ?_
  refine e_call rfl ent34 (words_fn d hd) rfl rfl ?_
  refine e_call rfl ent32 (rounds6_fn (w0 h ln true) (wrd ((List.range 64).map d))) rfl rfl ?_
  refine e_as (congrArg (fun f => Value.agg (arr .u32 16 f)) hv.symm) ?_
  refine e_alloc 2 zer60 rfl fun r3 => ?_
  refine e_storeA (i := 2) siz60 rfl rfl (arr_size _ _ _) arr_one rfl (arr_sz _ _ _ _ _) (.inl rfl) ?_
  refine e_nil ?_
  refine e_seq ?_
  refine e_seq ?_
  refine e_plain ?_
  refine e_move rfl rfl ?_
  refine e_nil ?_
  refine e_block ?_
  refine e_loopK [(2, _), (4, _), (5, _)] [(1, _), (2, _)] (fun kk E m => ∃ (q : Nat) (s : Nat → Nat), kk = 8 - q ∧ E = [(14, ii q)] ∧ m = [(0, some ⟨r1, cells 74 [pI .u32 8 s, pI .u8 64 d, pV (.int .i64 (n : Int)), pV (.int .i64 (ln : Int))], 26⟩)] ∧ (q ≤ 8) ∧ (∀ t, t < 8 → s t = if t < q then z t else h t)) [(14, ii 0)] [(0, some ⟨r1, cells 74 [pI .u32 8 h, pI .u8 64 d, pV (.int .i64 (n : Int)), pV (.int .i64 (ln : Int))], 26⟩)] (8 - 0) ⟨rfl, rfl, rfl, rfl, trivial⟩ ⟨rfl, rfl, rfl, trivial⟩ ⟨0, h, rfl, rfl, rfl, by omega, fun t _ => by rw [if_neg (by omega)]⟩ ?_
  rintro kk E m ⟨q, s, rfl, rfl, rfl, hf0_0, hf0_1⟩
  simp only [catE, catL]
  refine e_seq ?_
  refine e_plain ?_
  refine e_lt rfl rfl rfl ?_
  refine e_nil ?_
  refine e_seq ?_
  refine e_cond rfl ?_ ?_
  · intro hc0
    have hc0 : q < 8 := by have := of_decide_eq_true hc0; omega
    refine e_skip ?_
    refine e_seq ?_
    refine e_block ?_
    refine e_seq ?_
    refine e_plain ?_
    refine e_move rfl rfl ?_
    refine e_assign rfl rfl ?_
    refine e_nil ?_
    refine e_draw mixed (by kernel_rfl) ?_
    refine e_move rfl rfl ?_
    refine e_fld (0) und26 rfl siz23 rfl rfl rfl ?_
    refine e_index0 und23 siz22 rfl rfl (by omega) rfl ?_
    refine e_ldI (i := 0) 0 (q) und22 rfl rfl rfl rfl (by first | rfl | omega) (by omega) (by omega) rfl ⟨[], trivial⟩ ?_
    refine e_move rfl rfl ?_
    refine e_index0 und60 siz22 rfl rfl (by omega) rfl ?_
    refine e_load1 (i := 2) und22 rfl rfl rfl (arr_get (by omega)) rfl ⟨[], trivial⟩ ?_
    refine e_move rfl rfl ?_
    refine e_add_i (p := 8) rfl rfl rfl (by omega) ?_
    refine e_index0 und60 siz22 rfl rfl (by omega) rfl ?_
    refine e_load1 (i := 2) und22 rfl rfl rfl (arr_get (by omega)) rfl ⟨[], trivial⟩ ?_
    refine e_xor_w rfl rfl rfl  ?_
    refine e_xor_w rfl rfl rfl  ?_
    refine e_fld (0) und26 rfl siz23 rfl rfl rfl ?_
    refine e_index0 und23 siz22 rfl rfl (by omega) rfl ?_
    refine e_stI (i := 0) 0 (q) siz22 rfl rfl rfl rfl (by first | rfl | omega) (by omega) (by omega) (.inl rfl) ?_
    refine e_nil ?_
    refine e_plain ?_
    refine e_add_i (q := 1) rfl rfl rfl (by omega) ?_
    refine e_move rfl rfl ?_
    refine e_nil ?_
    refine ⟨_, [(14, ii (q + 1))], [(0, some ⟨r1, cells 74 [pI .u32 8 (upd s q _), pI .u8 64 d, pV (.int .i64 (n : Int)), pV (.int .i64 (ln : Int))], 26⟩)], ?_, ⟨rfl, rfl, rfl, rfl, trivial⟩, ⟨rfl, rfl, rfl, trivial⟩, q + 1, upd s q _, rfl, rfl, rfl, by omega, sqd_step (by omega) hvb hz hf0_1⟩
    omega
  · intro hc0
    have hc0 := of_decide_eq_false hc0
    have hz0 : q = 8 := by omega
    subst hz0
    refine e_exit ?_
    refine e_seq ?_
    refine e_plain ?_
    refine e_fld (0) und26 rfl siz23 rfl rfl rfl ?_
    refine e_ldC (i := 0) 0 und23 rfl siz23 rfl rfl rfl (by decide) rfl ⟨[], trivial⟩ ?_
    refine e_storeA (i := 1) siz23 rfl rfl (arr_size _ _ _) arr_one rfl (arr_sz _ _ _ _ _) (.inl rfl) ?_
    refine e_nil ?_
    refine e_ret ?_
    rw [← arr_congr (k := .u32) (n := 8) (fun t ht => (hf0_1 t ht).trans (if_pos (by omega)))]
    exact ⟨_, rfl, .cell (i := 1) rfl rfl und23 rfl siz23 (arr_size _ _ _)⟩

set_option maxHeartbeats 2000000 in
theorem dsqz_false (h d : Nat → Nat) (n ln : Nat) (hd : ∀ j, j < 64 → d j < 256) (hl : ln < 4294967296) : Fn Tryd.prog (DOR :: G) 26 #[.agg (cells 74 [pI .u32 8 h, pI .u8 64 d, pV (.int .i64 (n : Int)), pV (.int .i64 (ln : Int))]), .bool false] (.agg (arr .u32 8 (sqz h ((List.range 64).map d) ln false))) := by
  obtain ⟨v, hv⟩ : ∃ v, v = rndM (wrd ((List.range 64).map d)) (w0 h ln false) 10 := ⟨_, rfl⟩
  have hvb : ∀ t, t < 16 → v t = brs ((List.range 64).map d) (w0 h ln false) 10 t := fun t ht => by rw [hv]; exact rnd_brs (fun _ _ => rfl) 10 t ht
  obtain ⟨z, hz⟩ : ∃ z, z = sqz h ((List.range 64).map d) ln false := ⟨_, rfl⟩
  rw [← hz]
  refine fn1 (n := 35) Tryd.func26 rfl rfl (by simp) (argE [.agg (cells 74 [pI .u32 8 h, pI .u8 64 d, pV (.int .i64 (n : Int)), pV (.int .i64 (ln : Int))]), .bool false] 0) (argE_ok _) ?_
  refine e_seq ?_
  refine e_plain ?_
  refine e_box 0 rfl rfl fun r1 => ?_
  refine e_alloc 1 zer23 rfl fun r2 => ?_
  refine e_nil ?_
  refine e_seq ?_
  refine e_draw mixed (by kernel_rfl) ?_
  refine e_loadA (i := 0) und26 rfl siz26 rfl rfl (arrv_size _ _) rfl ⟨[], trivial⟩ ?_
  refine e_move rfl rfl ?_
  refine e_call rfl ent33 (spread_false h d n ln hl) rfl rfl ?_
  refine e_fld (8) und26 rfl siz24 rfl rfl rfl ?_
  refine e_ldC (i := 0) 1 und24 rfl siz24 rfl rfl rfl (by decide) rfl ⟨[], trivial⟩ ?_
  refine e_call rfl ent34 (words_fn d hd) rfl rfl ?_
  refine e_call rfl ent32 (rounds6_fn (w0 h ln false) (wrd ((List.range 64).map d))) rfl rfl ?_
  refine e_as (congrArg (fun f => Value.agg (arr .u32 16 f)) hv.symm) ?_
  refine e_alloc 2 zer60 rfl fun r3 => ?_
  refine e_storeA (i := 2) siz60 rfl rfl (arr_size _ _ _) arr_one rfl (arr_sz _ _ _ _ _) (.inl rfl) ?_
  refine e_nil ?_
  refine e_seq ?_
  refine e_seq ?_
  refine e_plain ?_
  refine e_move rfl rfl ?_
  refine e_nil ?_
  refine e_block ?_
  refine e_loopK [(2, _), (4, _), (5, _)] [(1, _), (2, _)] (fun kk E m => ∃ (q : Nat) (s : Nat → Nat), kk = 8 - q ∧ E = [(14, ii q)] ∧ m = [(0, some ⟨r1, cells 74 [pI .u32 8 s, pI .u8 64 d, pV (.int .i64 (n : Int)), pV (.int .i64 (ln : Int))], 26⟩)] ∧ (q ≤ 8) ∧ (∀ t, t < 8 → s t = if t < q then z t else h t)) [(14, ii 0)] [(0, some ⟨r1, cells 74 [pI .u32 8 h, pI .u8 64 d, pV (.int .i64 (n : Int)), pV (.int .i64 (ln : Int))], 26⟩)] (8 - 0) ⟨rfl, rfl, rfl, rfl, trivial⟩ ⟨rfl, rfl, rfl, trivial⟩ ⟨0, h, rfl, rfl, rfl, by omega, fun t _ => by rw [if_neg (by omega)]⟩ ?_
  rintro kk E m ⟨q, s, rfl, rfl, rfl, hf0_0, hf0_1⟩
  simp only [catE, catL]
  refine e_seq ?_
  refine e_plain ?_
  refine e_lt rfl rfl rfl ?_
  refine e_nil ?_
  refine e_seq ?_
  refine e_cond rfl ?_ ?_
  · intro hc0
    have hc0 : q < 8 := by have := of_decide_eq_true hc0; omega
    refine e_skip ?_
    refine e_seq ?_
    refine e_block ?_
    refine e_seq ?_
    refine e_plain ?_
    refine e_move rfl rfl ?_
    refine e_assign rfl rfl ?_
    refine e_nil ?_
    refine e_draw mixed (by kernel_rfl) ?_
    refine e_move rfl rfl ?_
    refine e_fld (0) und26 rfl siz23 rfl rfl rfl ?_
    refine e_index0 und23 siz22 rfl rfl (by omega) rfl ?_
    refine e_ldI (i := 0) 0 (q) und22 rfl rfl rfl rfl (by first | rfl | omega) (by omega) (by omega) rfl ⟨[], trivial⟩ ?_
    refine e_move rfl rfl ?_
    refine e_index0 und60 siz22 rfl rfl (by omega) rfl ?_
    refine e_load1 (i := 2) und22 rfl rfl rfl (arr_get (by omega)) rfl ⟨[], trivial⟩ ?_
    refine e_move rfl rfl ?_
    refine e_add_i (p := 8) rfl rfl rfl (by omega) ?_
    refine e_index0 und60 siz22 rfl rfl (by omega) rfl ?_
    refine e_load1 (i := 2) und22 rfl rfl rfl (arr_get (by omega)) rfl ⟨[], trivial⟩ ?_
    refine e_xor_w rfl rfl rfl  ?_
    refine e_xor_w rfl rfl rfl  ?_
    refine e_fld (0) und26 rfl siz23 rfl rfl rfl ?_
    refine e_index0 und23 siz22 rfl rfl (by omega) rfl ?_
    refine e_stI (i := 0) 0 (q) siz22 rfl rfl rfl rfl (by first | rfl | omega) (by omega) (by omega) (.inl rfl) ?_
    refine e_nil ?_
    refine e_plain ?_
    refine e_add_i (q := 1) rfl rfl rfl (by omega) ?_
    refine e_move rfl rfl ?_
    refine e_nil ?_
    refine ⟨_, [(14, ii (q + 1))], [(0, some ⟨r1, cells 74 [pI .u32 8 (upd s q _), pI .u8 64 d, pV (.int .i64 (n : Int)), pV (.int .i64 (ln : Int))], 26⟩)], ?_, ⟨rfl, rfl, rfl, rfl, trivial⟩, ⟨rfl, rfl, rfl, trivial⟩, q + 1, upd s q _, rfl, rfl, rfl, by omega, sqd_step (by omega) hvb hz hf0_1⟩
    omega
  · intro hc0
    have hc0 := of_decide_eq_false hc0
    have hz0 : q = 8 := by omega
    subst hz0
    refine e_exit ?_
    refine e_seq ?_
    refine e_plain ?_
    refine e_fld (0) und26 rfl siz23 rfl rfl rfl ?_
    refine e_ldC (i := 0) 0 und23 rfl siz23 rfl rfl rfl (by decide) rfl ⟨[], trivial⟩ ?_
    refine e_storeA (i := 1) siz23 rfl rfl (arr_size _ _ _) arr_one rfl (arr_sz _ _ _ _ _) (.inl rfl) ?_
    refine e_nil ?_
    refine e_ret ?_
    rw [← arr_congr (k := .u32) (n := 8) (fun t ht => (hf0_1 t ht).trans (if_pos (by omega)))]
    exact ⟨_, rfl, .cell (i := 1) rfl rfl und23 rfl siz23 (arr_size _ _ _)⟩

end Go.Proofs.YtlaebpebgjaehaaDoor

/-
  Data in many blocks: calls that make it, a bag of blocks that are only read from then on.
-/
namespace Go.Proofs.YtlaebpebgjaehaaDoor
open Go Go.RowKit

/-- A list of blocks, by labels. -/
def lab : Nat → Mem → Mm
  | _, [] => []
  | k, x :: l => (k, some x) :: lab (k + 1) l
theorem lab_lk : ∀ (nw : Mem) (k i : Nat), lkM (lab k nw) i = if k ≤ i then nw[i - k]? else none
  | [], k, i => by simp [lab, lkM]
  | x :: l, k, i => by
    rw [lab, lkM_cons]
    by_cases h : k = i
    · subst h; simp
    · rw [if_neg h, lab_lk l (k + 1) i]
      by_cases h2 : k ≤ i
      · rw [if_pos (by omega), if_pos h2, show i - k = (i - (k + 1)) + 1 by omega, List.getElem?_cons_succ]
      · rw [if_neg (by omega), if_neg h2]
/-- The labels from 1000 on are those of fz. -/
def Bag (fz : Mem) (M : Mm) : Prop := ∀ i, 1000 ≤ i → lkM M i = fz[i - 1000]?
theorem bag_lab (fz : Mem) : Bag fz (lab 1000 fz) := fun i hi => by rw [lab_lk, if_pos hi]
theorem bag_nil : Bag [] [] := fun i _ => by simp [lkM]
theorem bag_skip {fz : Mem} {M : Mm} {i : Nat} {x : Option Blk} (hi : Nat.blt i 1000 = true) (h : Bag fz M) : Bag fz ((i, x) :: M) := fun j hj => by
  have : i < 1000 := by simpa using hi
  rw [lkM_cons, if_neg (by omega)]; exact h j hj
theorem bag_sub {fz : Mem} {M : Mm} (h : Bag fz M) : subL (lab 1000 fz) M := by
  have key : ∀ (l : Mem) (k : Nat), 1000 ≤ k → (∀ j x, l[j]? = some x → lkM M (k + j) = some x) → subL (lab k l) M := by
    intro l
    induction l with
    | nil => intro k _ _; exact trivial
    | cons x l ih =>
      intro k hk hl
      refine ⟨by simpa using hl 0 x rfl, ih (k + 1) (by omega) fun j y hy => ?_⟩
      have := hl (j + 1) y (by simpa using hy)
      rw [show k + 1 + j = k + (j + 1) by omega]; exact this
  exact key fz 1000 (Nat.le_refl _) fun j x hx => by rw [h (1000 + j) (by omega), show 1000 + j - 1000 = j by omega]; exact hx
theorem subL_cat {A B M : Mm} (h1 : subL A M) (h2 : subL B M) : subL (catL A B) M := by
  induction A with
  | nil => exact h2
  | cons x A ih => exact ⟨h1.1, ih h1.2⟩
theorem cat_lk {T : Mm} : ∀ {L : Mm} {i : Nat} {x : Blk}, lkM (catL L T) i = some x → lkM L i = some x ∨ lkM T i = some x
  | [], _, _, h => .inr h
  | (s, v) :: L, i, x, h => by
    rw [catL, lkM_cons] at h
    rw [lkM_cons]
    by_cases e : s = i
    · rw [if_pos e] at h ⊢; exact .inl h
    · rw [if_neg e] at h ⊢; exact cat_lk h
/-- All labels are below 1000. -/
def small : Mm → Bool
  | [] => true
  | (i, _) :: L => Nat.blt i 1000 && small L
theorem small_lk : ∀ {L : Mm} {i : Nat} {x : Blk}, small L = true → lkM L i = some x → i < 1000
  | [], _, _, _, h => by simp [lkM] at h
  | (s, v) :: L, i, x, hs, h => by
    rw [small, Bool.and_eq_true] at hs
    have : s < 1000 := by simpa using hs.1
    rw [lkM_cons] at h
    by_cases e : s = i
    · omega
    · rw [if_neg e] at h; exact small_lk hs.2 h
theorem bag_cat {fz : Mem} : ∀ {L : Mm}, small L = true → Bag fz (catL L (lab 1000 fz))
  | [], _ => bag_lab fz
  | (i, x) :: L, hs => by
    rw [small, Bool.and_eq_true] at hs
    exact bag_skip hs.1 (bag_cat hs.2)
/-- More blocks come into the bag. -/
theorem FitsM.bag {M L : Mm} {m m' fz nw : Mem} (hM : FitsM M m) (hb : Bag fz M) (hL : subL L M) (hs : small L = true) (hm : ∀ x ∈ m, x ∈ m') (hn : ∀ x ∈ nw, x ∈ m') (hnd : (nw.map (·.b)).Nodup) (hap : ∀ x ∈ nw, ∀ i y, (1000 ≤ i ∨ ∃ z, lkM L i = some z) → lkM M i = some y → y.b ≠ x.b) : FitsM (catL L (lab 1000 (fz ++ nw))) m' := by
  have look : ∀ i x, lkM (catL L (lab 1000 (fz ++ nw))) i = some x → (lkM M i = some x ∧ (1000 ≤ i ∨ ∃ z, lkM L i = some z) ∧ (1000 ≤ i → i < 1000 + fz.length)) ∨ (1000 + fz.length ≤ i ∧ nw[i - 1000 - fz.length]? = some x) := fun i x h => by
    rcases cat_lk h with h | h
    · have h1 := small_lk hs h
      exact .inl ⟨subL_lk hL i x h, .inr ⟨x, h⟩, fun h2 => by omega⟩
    · rw [lab_lk] at h
      by_cases hi : 1000 ≤ i
      · rw [if_pos hi] at h
        by_cases hl : i - 1000 < fz.length
        · rw [List.getElem?_append_left hl] at h
          exact .inl ⟨by rw [hb i hi]; exact h, .inl hi, fun _ => by omega⟩
        · rw [List.getElem?_append_right (by omega)] at h
          exact .inr ⟨by omega, h⟩
      · rw [if_neg hi] at h; cases h
  refine ⟨fun i x h => ?_, fun i j x y hx hy hne => ?_⟩
  · rcases look i x h with ⟨h1, _⟩ | ⟨_, h1⟩
    · exact hm x (hM.has i x h1)
    · exact hn x (List.mem_of_getElem? h1)
  · rcases look i x hx with ⟨h1, g1, _⟩ | ⟨h0, h1⟩
    · rcases look j y hy with ⟨h2, _, _⟩ | ⟨_, h2⟩
      · exact hM.apart i j x y h1 h2 hne
      · exact hap y (List.mem_of_getElem? h2) i x g1 h1
    · rcases look j y hy with ⟨h2, g2, _⟩ | ⟨h3, h2⟩
      · exact fun e => hap x (List.mem_of_getElem? h1) j y g2 h2 e.symm
      · intro e
        have l1 := (List.getElem?_eq_some_iff.1 h1).1
        have l2 := (List.getElem?_eq_some_iff.1 h2).1
        have q1 : (nw.map (·.b))[i - 1000 - fz.length]? = some x.b := by rw [List.getElem?_map, h1]; rfl
        have q2 : (nw.map (·.b))[j - 1000 - fz.length]? = some x.b := by rw [List.getElem?_map, h2, e]; rfl
        have := (List.getElem?_inj (by simpa using l1) hnd).1 (q1.trans q2.symm)
        omega
section
variable {P : Program} {G : Mem} {R : Reg} {ops : Array Oper} {n : Nat} {K : Env → Mm → Prop} {Q : Exit → Env → Mm → Prop} {rest : List Oper} {E : Env} {M : Mm} {d : Nat} {ty : TypeId} {pos : String} {aft : Array Edge}
variable {T T' : TypeId} {x y : Operand}
theorem seen_bag {fz : Mem} (hb : Bag fz M) (hX : R.X = []) : SeenE G R M fz := fun z hz => by
  obtain ⟨j, hj⟩ := List.getElem?_of_mem hz
  exact .inr ⟨1000 + j, by rw [hb _ (by omega), show 1000 + j - 1000 = j by omega]; exact hj, [], by rw [hX]; exact trivial⟩
theorem seen_cons {z : Blk} (i : Nat) (hi : lkM M i = some z) (hX : R.X = [] := by rfl) : SeenE G R M (z :: G) := fun q hq => by
  rcases List.mem_cons.1 hq with rfl | h
  · exact .inr ⟨i, hi, [], by rw [hX]; exact trivial⟩
  · exact .inl h
/-- A call that makes data. -/
theorem e_callD (L : Mm) {fz : Mem} {fo : Operand} {f : FuncId} {args : Array Operand} {tys : Array TypeId} {vs cap : List Value} {g' : Mem} {S : Value → Mem → Prop} (hb : Bag fz M) (hL : subL L M) (hs : small L = true) (hf : rd E fo = some (.func (.func f) #[] cap.toArray)) (hargs : rdl E args.toList = some vs) (he : enters P f = true) (hg : SeenE G R M g')
    (hF : Fx P g' [] f (vs ++ cap).toArray (fun v l1 nw => l1 = [] ∧ S v nw)) (hS : ∀ m' : Mem, ∃ v nw, S v nw ∧ FreshM m' nw) (hd : Nat.blt d n = true) (hR : callMk R = true)
    (h : ∀ v nw, S v nw → OpsE P G R ops n K rest ((d, v) :: E) (catL L (lab 1000 (fz ++ nw)))) : OpsE P G R ops n K (⟨some d, .call ⟨.value fo, args, tys⟩, ty, pos, aft, none⟩ :: rest) E M :=
  fun _ m ha hM => by
    refine st_callN hR (S := S) (ha.rd hf) (ha.args hargs) he (by simpa using hF) hS (fun w hG hv q hq => (hg.seen hM).rin hG hv hq) ?_
    intro v nw hSv hfr
    exact h v nw hSv _ _ (ha.put hd _) (hM.bag hb hL hs (fun x hx => List.mem_append_left _ hx) (fun x hx => List.mem_append_right _ hx) hfr.1 fun x hx i y _ hy => hfr.2 x hx y (hM.has i y hy))
/-- A block of one's own comes into the bag. -/
theorem FitsM.freeze {L : Mm} {m fz : Mem} (hM : FitsM M m) (i : Nat) {oz : Option Blk} (hi : lkM M i = oz) (h1 : Nat.blt i 1000 = true) (hb : Bag fz M) (hL : subL L M) (hs : small L = true) (hn : lkM L i = none) : FitsM (catL L (lab 1000 (fz ++ oz.toList))) m := by
  have h1' : i < 1000 := by simpa using h1
  cases oz with
  | none => exact hM.bag hb hL hs (fun _ h => h) (fun x hx => by simp at hx) (by simp) (fun x hx => by simp at hx)
  | some z =>
    refine hM.bag hb hL hs (fun _ h => h) (fun x hx => ?_) (by simp) fun x hx j y hj hy => ?_
    · simp at hx; subst hx; exact hM.has i x hi
    · simp at hx; subst hx
      refine hM.apart j i y x hy hi fun e => ?_
      subst e
      rcases hj with hj | ⟨q, hq⟩
      · omega
      · rw [hn] at hq; cases hq
theorem e_freeze (i : Nat) (L : Mm) {l : List Oper} {fz : Mem} {oz : Option Blk} (hi : lkM M i = oz) (h1 : Nat.blt i 1000 = true) (hb : Bag fz M) (hL : subL L M) (hs : small L = true) (hn : lkM L i = none) (h : OpsE P G R ops n K l E (catL L (lab 1000 (fz ++ oz.toList)))) : OpsE P G R ops n K l E M :=
  fun _ _ ha hM => h _ _ ha (hM.freeze i hi h1 hb hL hs hn)
theorem s_freeze (i : Nat) (L : Mm) {c : Code} {fz : Mem} {oz : Option Blk} (hi : lkM M i = oz) (h1 : Nat.blt i 1000 = true) (hb : Bag fz M) (hL : subL L M) (hs : small L = true) (hn : lkM L i = none) (h : SatE P G c n Q E (catL L (lab 1000 (fz ++ oz.toList)))) : SatE P G c n Q E M :=
  fun _ _ ha hM => h _ _ ha (hM.freeze i hi h1 hb hL hs hn)
/-- A loop with a bag: Ek and Mk stay as they are, the bag may grow. -/
theorem e_loopB {c : Code} (Ek : Env) (Mk : Mm) (I : Nat → Env → Mm → Mem → Prop) {E0 : Env} {M0 : Mm} {fz : Mem} {k : Nat} (h0 : I k E0 M0 fz) (hs : sub (catE E0 Ek) E) (hl : subL (catL M0 Mk) M) (hb : Bag fz M)
    (round : ∀ k E M fz, I k E M fz → SatE P G c n (thenE (fun E' M' => ∃ k' E'' M'' fz', k' < k ∧ sub (catE E'' Ek) E' ∧ subL (catL M'' Mk) M' ∧ Bag fz' M' ∧ I k' E'' M'' fz') Q) (catE E Ek) (catL (catL M Mk) (lab 1000 fz))) : SatE P G (.loop c) n Q E M :=
  e_loop (fun k E M => ∃ E1 M1 fz, E = catE E1 Ek ∧ M = catL (catL M1 Mk) (lab 1000 fz) ∧ I k E1 M1 fz) (catE E0 Ek) (catL (catL M0 Mk) (lab 1000 fz)) k hs (subL_cat hl (bag_sub hb)) ⟨_, _, _, rfl, rfl, h0⟩ fun k E M ⟨E1, M1, fz, e1, e2, hI⟩ => by
    subst e1 e2
    intro a m ha hM
    refine sat_mono (round k E1 M1 fz hI a m ha hM) fun e a' m' ⟨E', M', h1, h2, h3⟩ => ⟨E', M', h1, h2, ?_⟩
    cases e with
    | normal =>
      obtain ⟨k', E'', M'', fz', q1, q2, q3, q5, q4⟩ := h3
      exact ⟨k', _, _, q1, q2, subL_cat q3 (bag_sub q5), _, _, _, rfl, rfl, q4⟩
    | _ => exact h3
theorem e_round {Ek : Env} {Mk : Mm} {I : Nat → Env → Mm → Mem → Prop} {k k' : Nat} {E' E'' : Env} {M' M'' : Mm} {fz' : Mem} (h : I k' E'' M'' fz') (hs : sub (catE E'' Ek) E') (hl : subL (catL M'' Mk) M') (hb : Bag fz' M') (hk : k' < k) : ∃ k' E'' M'' fz', k' < k ∧ sub (catE E'' Ek) E' ∧ subL (catL M'' Mk) M' ∧ Bag fz' M' ∧ I k' E'' M'' fz' := ⟨_, _, _, _, hk, hs, hl, hb, h⟩
end
/-! ### Ways that come together again -/
section
variable {P : Program} {G : Mem} {R : Reg} {ops : Array Oper} {n : Nat} {K : Env → Mm → Prop} {Q : Exit → Env → Mm → Prop} {E : Env} {M : Mm}
theorem sub_cat {A B F : Env} (h1 : sub A F) (h2 : sub B F) : sub (catE A B) F := by
  induction A with
  | nil => exact h2
  | cons x A ih => exact ⟨h1.1, ih h1.2⟩
/-- Whatever way a region takes: behind it the slots Fn hold, and Fk and Nk are as they were. -/
theorem e_join (Fk Fn : Env) (Nk : Mm) {l : List Oper} (_hk : sub Fk E) (_hn : subL Nk M) (h : OpsE P G R ops n (fun E' M' => sub Fk E' ∧ sub Fn E' ∧ subL Nk M') l E M) (hK : K (catE Fn Fk) Nk) : OpsE P G R ops n K l E M :=
  fun a m ha hM => opsM_mono (fun _ _ ⟨_, _, h1, h2, h3, h4, h5⟩ => ⟨_, _, h1.sub (sub_cat h4 h3), h2.sub h5, hK⟩) l (h a m ha hM)
def joinQ (Fk Fn : Env) (Nk : Mm) (Q : Exit → Env → Mm → Prop) : Exit → Env → Mm → Prop
  | .normal, E', M' => sub Fk E' ∧ sub Fn E' ∧ subL Nk M'
  | e, E', M' => Q e E' M'
theorem s_join (Fk Fn : Env) (Nk : Mm) {c : Code} (_hk : sub Fk E) (_hn : subL Nk M) (h : SatE P G c n (joinQ Fk Fn Nk Q) E M) (hK : Q .normal (catE Fn Fk) Nk) : SatE P G c n Q E M :=
  fun a m ha hM => sat_mono (h a m ha hM) fun e _ _ ⟨E', M', h1, h2, h3⟩ => by
    cases e with
    | normal => exact ⟨_, _, h1.sub (sub_cat h3.2.1 h3.1), h2.sub h3.2.2, hK⟩
    | _ => exact ⟨E', M', h1, h2, h3⟩
theorem e_case {l : List Oper} {s : Nat} {b : Bool} (ht : b = true → OpsE P G R ops n K l ((s, .bool true) :: E) M) (hf : b = false → OpsE P G R ops n K l ((s, .bool false) :: E) M) : OpsE P G R ops n K l ((s, .bool b) :: E) M := by
  cases b with
  | true => exact ht rfl
  | false => exact hf rfl
theorem cell_one {v : Value} (h : v.cells = #[v]) : v.cells[0]? = some v := by rw [h]; rfl
theorem bool_fin {b b' : Bool} (h : b = b') : some (Value.bool b) = some (Value.bool b') := by rw [h]
end
/-! ### Small slices of one's own -/
theorem own_two {e : TypeId} {r : Nat} {v w : Value} : OwnS e 1 (.slice (some ⟨r, 0, none⟩) 2 2) 2 [v, w] [⟨r, #[v, w], e⟩] := .inr ⟨r, 2, #[v, w], rfl, rfl, Nat.le_refl _, by decide, rfl, rfl, rfl⟩
theorem own_none {e : TypeId} {z r : Nat} : OwnS e z (.slice (some ⟨r, 0, none⟩) 0 0) 0 [] [⟨r, #[], e⟩] := .inr ⟨r, 0, #[], rfl, rfl, Nat.le_refl _, by decide, by simp, by simp, by simp⟩
theorem st_buildSl0 {P : Program} {G : Mem} {R : Reg} {ops : Array Oper} {K : Act → Mem → Prop} {rest : List Oper} {a : Act} {m : Mem} {d : Option Tmp} {ty T : TypeId} {pos : String} {aft : Array Edge} {z : Nat} {e : TypeId} (hT : P.underlying T = some (.slice e)) (hs : (P.info? e).map (·.size) = some z)
    (h : ∀ r, (∀ x ∈ m, x.b ≠ r) → opsM P G R ops K rest (a.put d (.slice (some ⟨r, 0, none⟩) 0 0)) (m ++ [⟨r, #[], e⟩])) : opsM P G R ops K (⟨d, .buildSlice T 0 #[], ty, pos, aft, none⟩ :: rest) a m :=
  .inr ⟨rfl, #[], e, fun r => .slice (some ⟨r, 0, none⟩) 0 0, fun w => by
    cases hi : P.info? e with
    | none => simp [hi] at hs
    | some j =>
      simp only [execOp, Instr.buildSlice, zeroValue, typeInfo, underlying, program, sizeOf, newRow, newObj]
      simp [Sem.run, hT, hi, Instr.fill]
      congr 2
      apply Array.ext
      · simp
      · intro i h1 h2
        simp at h2, h⟩
theorem e_buildSl0 {P : Program} {G : Mem} {R : Reg} {ops : Array Oper} {n : Nat} {K : Env → Mm → Prop} {rest : List Oper} {E : Env} {M : Mm} {d : Nat} {ty T : TypeId} {pos : String} {aft : Array Edge} (i : Nat) {z : Nat} {e : TypeId} (hT : P.underlying T = some (.slice e)) (hs : (P.info? e).map (·.size) = some z) (hd : Nat.blt d n = true)
    (h : ∀ r, OpsE P G R ops n K rest ((d, .slice (some ⟨r, 0, none⟩) 0 0) :: E) ((i, some ⟨r, #[], e⟩) :: M)) : OpsE P G R ops n K (⟨some d, .buildSlice T 0 #[], ty, pos, aft, none⟩ :: rest) E M :=
  fun _ _ ha hM => st_buildSl0 hT hs fun r hr => h r _ _ (ha.put hd _) (hM.alloc i ⟨r, #[], e⟩ hr)
/-! ### A function's end -/
section
variable {P : Program} {G : Mem} {n : Nat}
theorem FitsM.bag_in {M : Mm} {m fz : Mem} (hM : FitsM M m) (hb : Bag fz M) : (fz.map (·.b)).Nodup ∧ ∀ x ∈ fz, x ∈ m := by
  have at_ : ∀ j x, fz[j]? = some x → lkM M (1000 + j) = some x := fun j x hx => by rw [hb _ (by omega), show 1000 + j - 1000 = j by omega]; exact hx
  refine ⟨?_, fun x hx => by
    obtain ⟨j, hj⟩ := List.getElem?_of_mem hx
    exact hM.has _ x (at_ j x hj)⟩
  unfold List.Nodup
  rw [List.pairwise_iff_getElem]
  intro i j hi hj hij e
  have hi' : i < fz.length := by simpa using hi
  have hj' : j < fz.length := by simpa using hj
  have h1 : fz[i]? = some fz[i] := List.getElem?_eq_getElem hi'
  have h2 : fz[j]? = some fz[j] := List.getElem?_eq_getElem hj'
  exact hM.apart _ _ _ _ (at_ i _ h1) (at_ j _ h2) (by omega) (by simpa using e)
/-- Data, in the bag. -/
def EndD (P : Program) (S : Value → Mem → Prop) (fn : Func) : Exit → Env → Mm → Prop
  | .normal, E, M | .ret, E, M => ∃ r v fz, fn.results = #[r] ∧ Res P E M r v ∧ S v fz ∧ Bag fz M
  | _, _, _ => False
def EndD2 (P : Program) (S : Value → Mem → Prop) (u : Value) (fn : Func) : Exit → Env → Mm → Prop
  | .normal, E, M | .ret, E, M => ∃ r r' v fz, fn.results = #[r, r'] ∧ Res P E M r v ∧ Res P E M r' u ∧ S v fz ∧ Bag fz M
  | _, _, _ => False
theorem fxD {f : FuncId} {fn : Func} {c : Code} {args : Array Value} {S : Value → Mem → Prop} (hf : P.funcs[f]? = some fn) (hb : fn.body = some c) (hn : fn.ntmps = n) (ha : args.size ≤ n) (E : Env) (hE : ∀ t v, lk E t = some v → args[t]? = some v)
    (h : SatE P G c n (EndD P S fn) E []) : Fx P G [] f args (fun v l1 nw => l1 = [] ∧ S v nw) :=
  fx_of hf hb (sat_mono (h _ [] ⟨by simp [hn]; omega, rfl, fun t v ht => by
    have := hE t v ht
    have hlt := (Array.getElem?_eq_some_iff.1 this).1
    rw [Array.getElem?_append_left hlt]; exact this⟩ (FitsM.nil _)) fun e' a m ⟨E', M', h1, h0, h2⟩ => by
      have key : (∃ r v fz, fn.results = #[r] ∧ Res P E' M' r v ∧ S v fz ∧ Bag fz M') → a.defers = [] ∧ ∃ v l1 nw, (l1 = [] ∧ S v nw) ∧ (nw.map (·.b)).Nodup ∧ (∀ x ∈ nw, x.b ∉ ([] : Mem).map (·.b)) ∧ (∀ x ∈ l1 ++ nw, x ∈ m) ∧ ∀ w, MemIn m w → (results fn a.tmps).run P w = .ok v w := fun ⟨r, v, fz, hr, hR, ho, hb⟩ =>
        ⟨h1.defers, v, [], fz, ⟨rfl, ho⟩, (h0.bag_in hb).1, by simp, fun x hx => (h0.bag_in hb).2 x (by simpa using hx), fun w hw => by
          have := res_run h1 h0 hw hR
          rw [results_eq, hr, mapM1]
          simp [this]⟩
      cases e' <;> first | exact key h2 | exact h2.elim)
theorem fxD2 {f : FuncId} {fn : Func} {c : Code} {args : Array Value} {S : Value → Mem → Prop} {u : Value} (hf : P.funcs[f]? = some fn) (hb : fn.body = some c) (hn : fn.ntmps = n) (ha : args.size ≤ n) (E : Env) (hE : ∀ t v, lk E t = some v → args[t]? = some v)
    (h : SatE P G c n (EndD2 P S u fn) E []) : Fx P G [] f args (fun v l1 nw => l1 = [] ∧ ∃ v', v = .tuple #[v', u] ∧ S v' nw) :=
  fx_of hf hb (sat_mono (h _ [] ⟨by simp [hn]; omega, rfl, fun t v ht => by
    have := hE t v ht
    have hlt := (Array.getElem?_eq_some_iff.1 this).1
    rw [Array.getElem?_append_left hlt]; exact this⟩ (FitsM.nil _)) fun e' a m ⟨E', M', h1, h0, h2⟩ => by
      have key : (∃ r r' v fz, fn.results = #[r, r'] ∧ Res P E' M' r v ∧ Res P E' M' r' u ∧ S v fz ∧ Bag fz M') → a.defers = [] ∧ ∃ v l1 nw, (l1 = [] ∧ ∃ v', v = Value.tuple #[v', u] ∧ S v' nw) ∧ (nw.map (·.b)).Nodup ∧ (∀ x ∈ nw, x.b ∉ ([] : Mem).map (·.b)) ∧ (∀ x ∈ l1 ++ nw, x ∈ m) ∧ ∀ w, MemIn m w → (results fn a.tmps).run P w = .ok v w := fun ⟨r, r', v, fz, hr, hR, hR', ho, hb⟩ =>
        ⟨h1.defers, .tuple #[v, u], [], fz, ⟨rfl, v, rfl, ho⟩, (h0.bag_in hb).1, by simp, fun x hx => (h0.bag_in hb).2 x (by simpa using hx), fun w hw => by
          have := res_run h1 h0 hw hR
          have t' := res_run h1 h0 hw hR'
          rw [results_eq, hr, mapM2]
          simp [this, t']⟩
      cases e' <;> first | exact key h2 | exact h2.elim)
end
end Go.Proofs.YtlaebpebgjaehaaDoor

/-
  Walks, written by a program of ours off the loaded functions.
-/
namespace Go.Proofs.YtlaebpebgjaehaaDoor
open Go Go.RowKit



variable {G : Mem}

set_option maxHeartbeats 2000000 in
theorem dmay_bad (h d : Nat → Nat) (n ln : Int) (hb : n < 0 ∨ 64 < n ∨ ln < n ∨ 1073741824 < ln) : Fn Tryd.prog G 18 #[.agg (cells 74 [pI .u32 8 h, pI .u8 64 d, pV (.int .i64 n), pV (.int .i64 ln)])] (.bool false) := by
  refine fn1 (n := 52) Tryd.func18 rfl rfl (by simp) (argE [.agg (cells 74 [pI .u32 8 h, pI .u8 64 d, pV (.int .i64 n), pV (.int .i64 ln)])] 0) (argE_ok _) ?_
  refine e_seq ?_
  refine e_plain ?_
  refine e_box 0 rfl rfl fun r1 => ?_
  refine e_assign rfl rfl ?_
  refine e_nil ?_
  refine e_seq ?_
  refine e_seq ?_
  refine e_plain ?_
  refine e_join [(0, _), (1, _), (2, _)] [(24, .bool true)] [(0, some _)] ⟨rfl, rfl, rfl, trivial⟩ ⟨rfl, trivial⟩ ?_ ?_
  · skip
    refine e_fld (72) und26 rfl siz3 rfl rfl rfl ?_
    refine e_ldV1 (i := 0) 2 und3 rfl rfl rfl rfl (by decide) rfl ⟨[], trivial⟩ ?_
    refine e_lt rfl rfl rfl ?_
    refine e_move rfl rfl ?_
    refine e_case (fun hb0 => ?_) (fun hb0 => ?_)
    · skip
      refine e_no rfl rfl (by decide) rfl ?_
      refine e_no rfl rfl (by decide) rfl ?_
      refine e_no rfl rfl (by decide) rfl ?_
      refine e_pickT rfl rfl rfl rfl ?_
      refine e_move rfl rfl ?_
      refine e_no rfl rfl (by decide) rfl ?_
      refine e_no rfl rfl (by decide) rfl ?_
      refine e_no rfl rfl (by decide) rfl ?_
      refine e_no rfl rfl (by decide) rfl ?_
      refine e_no rfl rfl (by decide) rfl ?_
      refine e_pickT rfl rfl rfl rfl ?_
      refine e_move rfl rfl ?_
      refine e_no rfl rfl (by decide) rfl ?_
      refine e_no rfl rfl (by decide) rfl ?_
      refine e_no rfl rfl (by decide) rfl ?_
      refine e_pickT rfl rfl rfl rfl ?_
      refine e_nil ?_
      exact ⟨⟨rfl, rfl, rfl, trivial⟩, ⟨bool_fin (by first | rfl | (simp only [decide_eq_false_iff_not] at *; exact decide_eq_true (by omega))), trivial⟩, ⟨rfl, trivial⟩⟩
    · skip
      refine e_yes rfl rfl rfl ?_
      refine e_fld (72) und26 rfl siz3 rfl rfl rfl ?_
      refine e_yes rfl rfl rfl ?_
      refine e_ldV1 (i := 0) 2 und3 rfl rfl rfl rfl (by decide) rfl ⟨[], trivial⟩ ?_
      refine e_yes rfl rfl rfl ?_
      refine e_gt rfl rfl rfl ?_
      refine e_pickF rfl rfl rfl rfl ?_
      refine e_move rfl rfl ?_
      refine e_case (fun hb1 => ?_) (fun hb1 => ?_)
      · skip
        refine e_no rfl rfl (by decide) rfl ?_
        refine e_no rfl rfl (by decide) rfl ?_
        refine e_no rfl rfl (by decide) rfl ?_
        refine e_no rfl rfl (by decide) rfl ?_
        refine e_no rfl rfl (by decide) rfl ?_
        refine e_pickT rfl rfl rfl rfl ?_
        refine e_move rfl rfl ?_
        refine e_no rfl rfl (by decide) rfl ?_
        refine e_no rfl rfl (by decide) rfl ?_
        refine e_no rfl rfl (by decide) rfl ?_
        refine e_pickT rfl rfl rfl rfl ?_
        refine e_nil ?_
        exact ⟨⟨rfl, rfl, rfl, trivial⟩, ⟨bool_fin (by first | rfl | (simp only [decide_eq_false_iff_not] at *; exact decide_eq_true (by omega))), trivial⟩, ⟨rfl, trivial⟩⟩
      · skip
        refine e_yes rfl rfl rfl ?_
        refine e_fld (73) und26 rfl siz3 rfl rfl rfl ?_
        refine e_yes rfl rfl rfl ?_
        refine e_ldV1 (i := 0) 3 und3 rfl rfl rfl rfl (by decide) rfl ⟨[], trivial⟩ ?_
        refine e_yes rfl rfl rfl ?_
        refine e_fld (72) und26 rfl siz3 rfl rfl rfl ?_
        refine e_yes rfl rfl rfl ?_
        refine e_ldV1 (i := 0) 2 und3 rfl rfl rfl rfl (by decide) rfl ⟨[], trivial⟩ ?_
        refine e_yes rfl rfl rfl ?_
        refine e_lt rfl rfl rfl ?_
        refine e_pickF rfl rfl rfl rfl ?_
        refine e_move rfl rfl ?_
        refine e_case (fun hb2 => ?_) (fun hb2 => ?_)
        · skip
          refine e_no rfl rfl (by decide) rfl ?_
          refine e_no rfl rfl (by decide) rfl ?_
          refine e_no rfl rfl (by decide) rfl ?_
          refine e_pickT rfl rfl rfl rfl ?_
          refine e_nil ?_
          exact ⟨⟨rfl, rfl, rfl, trivial⟩, ⟨bool_fin (by first | rfl | (simp only [decide_eq_false_iff_not] at *; exact decide_eq_true (by omega))), trivial⟩, ⟨rfl, trivial⟩⟩
        · skip
          refine e_yes rfl rfl rfl ?_
          refine e_fld (73) und26 rfl siz3 rfl rfl rfl ?_
          refine e_yes rfl rfl rfl ?_
          refine e_ldV1 (i := 0) 3 und3 rfl rfl rfl rfl (by decide) rfl ⟨[], trivial⟩ ?_
          refine e_yes rfl rfl rfl ?_
          refine e_gt rfl rfl rfl ?_
          refine e_pickF rfl rfl rfl rfl ?_
          refine e_nil ?_
          exact ⟨⟨rfl, rfl, rfl, trivial⟩, ⟨bool_fin (by first | rfl | (simp only [decide_eq_false_iff_not] at *; exact decide_eq_true (by omega))), trivial⟩, ⟨rfl, trivial⟩⟩
  · simp only [catE]
    refine e_cond rfl ?_ ?_
    · intro hc0
      refine e_seq ?_
      refine e_plain ?_
      refine e_assign rfl rfl ?_
      refine e_nil ?_
      refine e_ret ?_
      exact ⟨_, rfl, .tmp rfl⟩
    · intro hc0
      cases hc0

set_option maxHeartbeats 4000000 in
theorem dmay_ok (h d : Nat → Nat) (n ln : Nat) (hn : n < 64) (hnl : n ≤ ln) (hl : ln ≤ 1073741824) : Fn Tryd.prog G 18 #[.agg (cells 74 [pI .u32 8 h, pI .u8 64 d, pV (.int .i64 n), pV (.int .i64 ln)])] (.bool (okB n ln d)) := by
  refine fn1 (n := 52) Tryd.func18 rfl rfl (by simp) (argE [.agg (cells 74 [pI .u32 8 h, pI .u8 64 d, pV (.int .i64 n), pV (.int .i64 ln)])] 0) (argE_ok _) ?_
  refine e_seq ?_
  refine e_plain ?_
  refine e_box 0 rfl rfl fun r1 => ?_
  refine e_assign rfl rfl ?_
  refine e_nil ?_
  refine e_seq ?_
  refine e_seq ?_
  refine e_plain ?_
  refine e_fld (72) und26 rfl siz3 rfl rfl rfl ?_
  refine e_ldV1 (i := 0) 2 und3 rfl rfl rfl rfl (by decide) rfl ⟨[], trivial⟩ ?_
  refine e_lt rfl rfl rfl ?_
  refine e_as (congrArg Value.bool (decide_eq_false (by omega))) ?_
  refine e_move rfl rfl ?_
  refine e_yes rfl rfl rfl ?_
  refine e_fld (72) und26 rfl siz3 rfl rfl rfl ?_
  refine e_yes rfl rfl rfl ?_
  refine e_ldV1 (i := 0) 2 und3 rfl rfl rfl rfl (by decide) rfl ⟨[], trivial⟩ ?_
  refine e_yes rfl rfl rfl ?_
  refine e_gt rfl rfl rfl ?_
  refine e_as (congrArg Value.bool (decide_eq_false (by omega))) ?_
  refine e_pickF rfl rfl rfl rfl ?_
  refine e_move rfl rfl ?_
  refine e_yes rfl rfl rfl ?_
  refine e_fld (73) und26 rfl siz3 rfl rfl rfl ?_
  refine e_yes rfl rfl rfl ?_
  refine e_ldV1 (i := 0) 3 und3 rfl rfl rfl rfl (by decide) rfl ⟨[], trivial⟩ ?_
  refine e_yes rfl rfl rfl ?_
  refine e_fld (72) und26 rfl siz3 rfl rfl rfl ?_
  refine e_yes rfl rfl rfl ?_
  refine e_ldV1 (i := 0) 2 und3 rfl rfl rfl rfl (by decide) rfl ⟨[], trivial⟩ ?_
  refine e_yes rfl rfl rfl ?_
  refine e_lt rfl rfl rfl ?_
  refine e_as (congrArg Value.bool (decide_eq_false (by omega))) ?_
  refine e_pickF rfl rfl rfl rfl ?_
  refine e_move rfl rfl ?_
  refine e_yes rfl rfl rfl ?_
  refine e_fld (73) und26 rfl siz3 rfl rfl rfl ?_
  refine e_yes rfl rfl rfl ?_
  refine e_ldV1 (i := 0) 3 und3 rfl rfl rfl rfl (by decide) rfl ⟨[], trivial⟩ ?_
  refine e_yes rfl rfl rfl ?_
  refine e_gt rfl rfl rfl ?_
  refine e_as (congrArg Value.bool (decide_eq_false (by omega))) ?_
  refine e_pickF rfl rfl rfl rfl ?_
  refine e_nil ?_
  refine e_cond rfl ?_ ?_
  · intro hc0
    cases hc0
  · intro hc0
    refine e_skip ?_
    refine e_seq ?_
    refine e_seq ?_
    refine e_plain ?_
    refine e_fld (73) und26 rfl siz3 rfl rfl rfl ?_
    refine e_ldV1 (i := 0) 3 und3 rfl rfl rfl rfl (by decide) rfl ⟨[], trivial⟩ ?_
    refine e_fld (72) und26 rfl siz3 rfl rfl rfl ?_
    refine e_ldV1 (i := 0) 2 und3 rfl rfl rfl rfl (by decide) rfl ⟨[], trivial⟩ ?_
    refine e_sub_in rfl rfl rfl (by omega) (by omega) ?_
    refine e_rem_i (q := 64) rfl rfl rfl (by omega) ?_
    refine e_ne rfl rfl rfl ?_
    refine e_nil ?_
    refine e_cond rfl ?_ ?_
    · intro hc1
      have hc1 := of_decide_eq_true hc1
      refine e_seq ?_
      refine e_plain ?_
      refine e_assign rfl rfl ?_
      refine e_nil ?_
      refine e_ret ?_
      first | rw [okB_n1 (by omega)] | rw [okB_n2 hc2.1 hc2.2] | rw [okB_n3 (i := i) (by omega) (by omega)] | rw [okB_y (k := i) (by omega) (by omega) (by omega) hc2 (by omega) hf0_1]
      exact ⟨_, rfl, .tmp rfl⟩
    · intro hc1
      have hc1 := of_decide_eq_false hc1
      refine e_skip ?_
      refine e_seq ?_
      refine e_seq ?_
      refine e_plain ?_
      refine e_join [(0, _), (1, _), (2, _), (5, _), (6, _), (7, _), (8, _), (9, _), (10, _), (11, _), (12, _), (13, _), (14, _), (15, _), (16, _), (17, _), (18, _), (19, _), (20, _), (21, _), (22, _), (23, _), (24, _), (25, _), (26, _), (27, _), (28, _), (29, _), (30, _), (31, _)] [(39, .bool (decide ((n : Int) = 0) && decide ((ln : Int) ≠ 0)))] [(0, some _)] ⟨rfl, rfl, rfl, rfl, rfl, rfl, rfl, rfl, rfl, rfl, rfl, rfl, rfl, rfl, rfl, rfl, rfl, rfl, rfl, rfl, rfl, rfl, rfl, rfl, rfl, rfl, rfl, rfl, rfl, rfl, trivial⟩ ⟨rfl, trivial⟩ ?_ ?_
      · skip
        refine e_fld (72) und26 rfl siz3 rfl rfl rfl ?_
        refine e_ldV1 (i := 0) 2 und3 rfl rfl rfl rfl (by decide) rfl ⟨[], trivial⟩ ?_
        refine e_eq rfl rfl rfl ?_
        refine e_move rfl rfl ?_
        refine e_case (fun hb0 => ?_) (fun hb0 => ?_)
        · skip
          refine e_yes rfl rfl rfl ?_
          refine e_fld (73) und26 rfl siz3 rfl rfl rfl ?_
          refine e_yes rfl rfl rfl ?_
          refine e_ldV1 (i := 0) 3 und3 rfl rfl rfl rfl (by decide) rfl ⟨[], trivial⟩ ?_
          refine e_yes rfl rfl rfl ?_
          refine e_ne rfl rfl rfl ?_
          refine e_pickT rfl rfl rfl rfl ?_
          refine e_nil ?_
          exact ⟨⟨rfl, rfl, rfl, rfl, rfl, rfl, rfl, rfl, rfl, rfl, rfl, rfl, rfl, rfl, rfl, rfl, rfl, rfl, rfl, rfl, rfl, rfl, rfl, rfl, rfl, rfl, rfl, rfl, rfl, rfl, trivial⟩, ⟨bool_fin (by rw [hb0] <;> rfl), trivial⟩, ⟨rfl, trivial⟩⟩
        · skip
          refine e_no rfl rfl (by decide) rfl ?_
          refine e_no rfl rfl (by decide) rfl ?_
          refine e_no rfl rfl (by decide) rfl ?_
          refine e_pickF rfl rfl rfl rfl ?_
          refine e_nil ?_
          exact ⟨⟨rfl, rfl, rfl, rfl, rfl, rfl, rfl, rfl, rfl, rfl, rfl, rfl, rfl, rfl, rfl, rfl, rfl, rfl, rfl, rfl, rfl, rfl, rfl, rfl, rfl, rfl, rfl, rfl, rfl, rfl, trivial⟩, ⟨bool_fin (by rw [hb0] <;> rfl), trivial⟩, ⟨rfl, trivial⟩⟩
      · simp only [catE]
        refine e_cond rfl ?_ ?_
        · intro hc2
          have hc2 := bool_n2 hc2
          refine e_seq ?_
          refine e_plain ?_
          refine e_assign rfl rfl ?_
          refine e_nil ?_
          refine e_ret ?_
          first | rw [okB_n1 (by omega)] | rw [okB_n2 hc2.1 hc2.2] | rw [okB_n3 (i := i) (by omega) (by omega)] | rw [okB_y (k := i) (by omega) (by omega) (by omega) hc2 (by omega) hf0_1]
          exact ⟨_, rfl, .tmp rfl⟩
        · intro hc2
          have hc2 := bool_y2 hc2
          refine e_skip ?_
          refine e_seq ?_
          refine e_seq ?_
          refine e_plain ?_
          refine e_fld (8) und26 rfl siz24 rfl rfl rfl ?_
          refine e_fld (72) und26 rfl siz3 rfl rfl rfl ?_
          refine e_ldV1 (i := 0) 2 und3 rfl rfl rfl rfl (by decide) rfl ⟨[], trivial⟩ ?_
          refine e_sliceA n 64 und24 siz5 rfl rfl rfl ⟨_, rfl⟩ rfl (by omega) (by omega) (by omega) rfl ?_
          refine e_lenSl und27 rfl rfl rfl ?_
          refine e_move rfl rfl ?_
          refine e_nil ?_
          refine e_block ?_
          refine e_loopK [(43, _), (44, _)] [(0, _)] (fun kk E m => ∃ (i : Nat), kk = 64 - n - i ∧ E = [(45, ii i)] ∧ m = [] ∧ (i ≤ 64 - n) ∧ (∀ t, t < i → d (n + t) = 0)) [(45, ii 0)] [] (64 - n - 0) ⟨rfl, rfl, rfl, trivial⟩ ⟨rfl, trivial⟩ ⟨0, rfl, rfl, rfl, by omega, fun t ht => absurd ht (Nat.not_lt_zero t)⟩ ?_
          rintro kk E m ⟨i, rfl, rfl, rfl, hf0_0, hf0_1⟩
          simp only [catE, catL]
          refine e_seq ?_
          refine e_plain ?_
          refine e_lt rfl rfl rfl ?_
          refine e_nil ?_
          refine e_seq ?_
          refine e_cond rfl ?_ ?_
          · intro hc3
            have hc3 : i < 64 - n := by have := of_decide_eq_true hc3; omega
            refine e_skip ?_
            refine e_seq ?_
            refine e_block ?_
            refine e_seq ?_
            refine e_plain ?_
            refine e_atSl (8 + (n + i)) und27 siz5 rfl rfl (by omega) (by omega) rfl ?_
            refine e_ldI (i := 0) 1 (n + i) und5 rfl rfl rfl rfl (by first | rfl | omega) (by omega) (by omega) rfl ⟨[], trivial⟩ ?_
            refine e_assign rfl rfl ?_
            refine e_nil ?_
            refine e_seq ?_
            refine e_plain ?_
            refine e_move rfl rfl ?_
            refine e_ne rfl rfl rfl ?_
            refine e_nil ?_
            refine e_cond rfl ?_ ?_
            · intro hc4
              have hc4 := of_decide_eq_true hc4
              refine e_seq ?_
              refine e_plain ?_
              refine e_assign rfl rfl ?_
              refine e_nil ?_
              refine e_ret ?_
              first | rw [okB_n1 (by omega)] | rw [okB_n2 hc2.1 hc2.2] | rw [okB_n3 (i := i) (by omega) (by omega)] | rw [okB_y (k := i) (by omega) (by omega) (by omega) hc2 (by omega) hf0_1]
              exact ⟨_, rfl, .tmp rfl⟩
            · intro hc4
              have hc4 := of_decide_eq_false hc4
              refine e_skip ?_
              refine e_plain ?_
              refine e_add_i (q := 1) rfl rfl rfl (by omega) ?_
              refine e_move rfl rfl ?_
              refine e_nil ?_
              refine ⟨_, [(45, ii (i + 1))], [], ?_, ⟨rfl, rfl, rfl, trivial⟩, ⟨rfl, trivial⟩, i + 1, rfl, rfl, rfl, by omega, fun t ht => by rcases (by omega : t < i ∨ t = i) with h | rfl; exact hf0_1 t h; omega⟩
              omega
          · intro hc3
            have hc3 := of_decide_eq_false hc3
            have hz0 : i = 64 - n := by omega
            refine e_exit ?_
            refine e_seq ?_
            refine e_plain ?_
            refine e_assign rfl rfl ?_
            refine e_nil ?_
            refine e_ret ?_
            first | rw [okB_n1 (by omega)] | rw [okB_n2 hc2.1 hc2.2] | rw [okB_n3 (i := i) (by omega) (by omega)] | rw [okB_y (k := i) (by omega) (by omega) (by omega) hc2 (by omega) hf0_1]
            exact ⟨_, rfl, .tmp rfl⟩

set_option maxHeartbeats 4000000 in
theorem dmay_64 (h d : Nat → Nat) (n ln : Nat) (hn : n = 64) (hnl : n ≤ ln) (hl : ln ≤ 1073741824) : Fn Tryd.prog G 18 #[.agg (cells 74 [pI .u32 8 h, pI .u8 64 d, pV (.int .i64 n), pV (.int .i64 ln)])] (.bool (okB n ln d)) := by
  refine fn1 (n := 52) Tryd.func18 rfl rfl (by simp) (argE [.agg (cells 74 [pI .u32 8 h, pI .u8 64 d, pV (.int .i64 n), pV (.int .i64 ln)])] 0) (argE_ok _) ?_
  refine e_seq ?_
  refine e_plain ?_
  refine e_box 0 rfl rfl fun r1 => ?_
  refine e_assign rfl rfl ?_
  refine e_nil ?_
  refine e_seq ?_
  refine e_seq ?_
  refine e_plain ?_
  refine e_fld (72) und26 rfl siz3 rfl rfl rfl ?_
  refine e_ldV1 (i := 0) 2 und3 rfl rfl rfl rfl (by decide) rfl ⟨[], trivial⟩ ?_
  refine e_lt rfl rfl rfl ?_
  refine e_as (congrArg Value.bool (decide_eq_false (by omega))) ?_
  refine e_move rfl rfl ?_
  refine e_yes rfl rfl rfl ?_
  refine e_fld (72) und26 rfl siz3 rfl rfl rfl ?_
  refine e_yes rfl rfl rfl ?_
  refine e_ldV1 (i := 0) 2 und3 rfl rfl rfl rfl (by decide) rfl ⟨[], trivial⟩ ?_
  refine e_yes rfl rfl rfl ?_
  refine e_gt rfl rfl rfl ?_
  refine e_as (congrArg Value.bool (decide_eq_false (by omega))) ?_
  refine e_pickF rfl rfl rfl rfl ?_
  refine e_move rfl rfl ?_
  refine e_yes rfl rfl rfl ?_
  refine e_fld (73) und26 rfl siz3 rfl rfl rfl ?_
  refine e_yes rfl rfl rfl ?_
  refine e_ldV1 (i := 0) 3 und3 rfl rfl rfl rfl (by decide) rfl ⟨[], trivial⟩ ?_
  refine e_yes rfl rfl rfl ?_
  refine e_fld (72) und26 rfl siz3 rfl rfl rfl ?_
  refine e_yes rfl rfl rfl ?_
  refine e_ldV1 (i := 0) 2 und3 rfl rfl rfl rfl (by decide) rfl ⟨[], trivial⟩ ?_
  refine e_yes rfl rfl rfl ?_
  refine e_lt rfl rfl rfl ?_
  refine e_as (congrArg Value.bool (decide_eq_false (by omega))) ?_
  refine e_pickF rfl rfl rfl rfl ?_
  refine e_move rfl rfl ?_
  refine e_yes rfl rfl rfl ?_
  refine e_fld (73) und26 rfl siz3 rfl rfl rfl ?_
  refine e_yes rfl rfl rfl ?_
  refine e_ldV1 (i := 0) 3 und3 rfl rfl rfl rfl (by decide) rfl ⟨[], trivial⟩ ?_
  refine e_yes rfl rfl rfl ?_
  refine e_gt rfl rfl rfl ?_
  refine e_as (congrArg Value.bool (decide_eq_false (by omega))) ?_
  refine e_pickF rfl rfl rfl rfl ?_
  refine e_nil ?_
  refine e_cond rfl ?_ ?_
  · intro hc0
    cases hc0
  · intro hc0
    refine e_skip ?_
    refine e_seq ?_
    refine e_seq ?_
    refine e_plain ?_
    refine e_fld (73) und26 rfl siz3 rfl rfl rfl ?_
    refine e_ldV1 (i := 0) 3 und3 rfl rfl rfl rfl (by decide) rfl ⟨[], trivial⟩ ?_
    refine e_fld (72) und26 rfl siz3 rfl rfl rfl ?_
    refine e_ldV1 (i := 0) 2 und3 rfl rfl rfl rfl (by decide) rfl ⟨[], trivial⟩ ?_
    refine e_sub_in rfl rfl rfl (by omega) (by omega) ?_
    refine e_rem_i (q := 64) rfl rfl rfl (by omega) ?_
    refine e_ne rfl rfl rfl ?_
    refine e_nil ?_
    refine e_cond rfl ?_ ?_
    · intro hc1
      have hc1 := of_decide_eq_true hc1
      refine e_seq ?_
      refine e_plain ?_
      refine e_assign rfl rfl ?_
      refine e_nil ?_
      refine e_ret ?_
      first | rw [okB_n1 (by omega)] | rw [okB_n2 hc2.1 hc2.2] | rw [okB_y (k := 0) (by omega) (by omega) (by omega) hc2 (by omega) (fun t ht => absurd ht (Nat.not_lt_zero t))]
      exact ⟨_, rfl, .tmp rfl⟩
    · intro hc1
      have hc1 := of_decide_eq_false hc1
      refine e_skip ?_
      refine e_seq ?_
      refine e_seq ?_
      refine e_plain ?_
      refine e_join [(0, _), (1, _), (2, _), (5, _), (6, _), (7, _), (8, _), (9, _), (10, _), (11, _), (12, _), (13, _), (14, _), (15, _), (16, _), (17, _), (18, _), (19, _), (20, _), (21, _), (22, _), (23, _), (24, _), (25, _), (26, _), (27, _), (28, _), (29, _), (30, _), (31, _)] [(39, .bool (decide ((n : Int) = 0) && decide ((ln : Int) ≠ 0)))] [(0, some _)] ⟨rfl, rfl, rfl, rfl, rfl, rfl, rfl, rfl, rfl, rfl, rfl, rfl, rfl, rfl, rfl, rfl, rfl, rfl, rfl, rfl, rfl, rfl, rfl, rfl, rfl, rfl, rfl, rfl, rfl, rfl, trivial⟩ ⟨rfl, trivial⟩ ?_ ?_
      · skip
        refine e_fld (72) und26 rfl siz3 rfl rfl rfl ?_
        refine e_ldV1 (i := 0) 2 und3 rfl rfl rfl rfl (by decide) rfl ⟨[], trivial⟩ ?_
        refine e_eq rfl rfl rfl ?_
        refine e_move rfl rfl ?_
        refine e_case (fun hb0 => ?_) (fun hb0 => ?_)
        · skip
          refine e_yes rfl rfl rfl ?_
          refine e_fld (73) und26 rfl siz3 rfl rfl rfl ?_
          refine e_yes rfl rfl rfl ?_
          refine e_ldV1 (i := 0) 3 und3 rfl rfl rfl rfl (by decide) rfl ⟨[], trivial⟩ ?_
          refine e_yes rfl rfl rfl ?_
          refine e_ne rfl rfl rfl ?_
          refine e_pickT rfl rfl rfl rfl ?_
          refine e_nil ?_
          exact ⟨⟨rfl, rfl, rfl, rfl, rfl, rfl, rfl, rfl, rfl, rfl, rfl, rfl, rfl, rfl, rfl, rfl, rfl, rfl, rfl, rfl, rfl, rfl, rfl, rfl, rfl, rfl, rfl, rfl, rfl, rfl, trivial⟩, ⟨bool_fin (by rw [hb0] <;> rfl), trivial⟩, ⟨rfl, trivial⟩⟩
        · skip
          refine e_no rfl rfl (by decide) rfl ?_
          refine e_no rfl rfl (by decide) rfl ?_
          refine e_no rfl rfl (by decide) rfl ?_
          refine e_pickF rfl rfl rfl rfl ?_
          refine e_nil ?_
          exact ⟨⟨rfl, rfl, rfl, rfl, rfl, rfl, rfl, rfl, rfl, rfl, rfl, rfl, rfl, rfl, rfl, rfl, rfl, rfl, rfl, rfl, rfl, rfl, rfl, rfl, rfl, rfl, rfl, rfl, rfl, rfl, trivial⟩, ⟨bool_fin (by rw [hb0] <;> rfl), trivial⟩, ⟨rfl, trivial⟩⟩
      · simp only [catE]
        refine e_cond rfl ?_ ?_
        · intro hc2
          have hc2 := bool_n2 hc2
          refine e_seq ?_
          refine e_plain ?_
          refine e_assign rfl rfl ?_
          refine e_nil ?_
          refine e_ret ?_
          first | rw [okB_n1 (by omega)] | rw [okB_n2 hc2.1 hc2.2] | rw [okB_y (k := 0) (by omega) (by omega) (by omega) hc2 (by omega) (fun t ht => absurd ht (Nat.not_lt_zero t))]
          exact ⟨_, rfl, .tmp rfl⟩
        · intro hc2
          have hc2 := bool_y2 hc2
          refine e_skip ?_
          refine e_seq ?_
          refine e_seq ?_
          refine e_plain ?_
          refine e_fld (8) und26 rfl siz24 rfl rfl rfl ?_
          refine e_fld (72) und26 rfl siz3 rfl rfl rfl ?_
          refine e_ldV1 (i := 0) 2 und3 rfl rfl rfl rfl (by decide) rfl ⟨[], trivial⟩ ?_
          refine e_sliceZ n 64 und24 siz5 rfl rfl rfl ⟨_, rfl⟩ rfl (by omega) (by omega) rfl ?_
          refine e_lenSl und27 rfl rfl rfl ?_
          refine e_move rfl rfl ?_
          refine e_nil ?_
          refine e_block ?_
          refine e_loopK [(43, _), (44, _)] [(0, _)] (fun kk E m => ∃ (i : Nat), kk = 0 - i ∧ E = [(45, ii i)] ∧ m = [] ∧ (i ≤ 0)) [(45, ii 0)] [] (0 - 0) ⟨rfl, rfl, rfl, trivial⟩ ⟨rfl, trivial⟩ ⟨0, rfl, rfl, rfl, by omega⟩ ?_
          rintro kk E m ⟨i, rfl, rfl, rfl, hf0_0⟩
          simp only [catE, catL]
          refine e_seq ?_
          refine e_plain ?_
          refine e_lt rfl rfl rfl ?_
          refine e_nil ?_
          refine e_seq ?_
          refine e_cond rfl ?_ ?_
          · intro hc3
            have hc3 : i < 0 := by have := of_decide_eq_true hc3; omega
            exact absurd hc3 (by omega)
          · intro hc3
            have hc3 := of_decide_eq_false hc3
            have hz0 : i = 0 := by omega
            refine e_exit ?_
            refine e_seq ?_
            refine e_plain ?_
            refine e_assign rfl rfl ?_
            refine e_nil ?_
            refine e_ret ?_
            first | rw [okB_n1 (by omega)] | rw [okB_n2 hc2.1 hc2.2] | rw [okB_y (k := 0) (by omega) (by omega) (by omega) hc2 (by omega) (fun t ht => absurd ht (Nat.not_lt_zero t))]
            exact ⟨_, rfl, .tmp rfl⟩

end Go.Proofs.YtlaebpebgjaehaaDoor

/-
  Walks, written by a program of ours off the loaded functions.
-/
namespace Go.Proofs.YtlaebpebgjaehaaDoor
open Go Go.RowKit


theorem dmay_fn {G : Mem} (h d : Nat → Nat) (n ln : Nat) (hn : n ≤ 64) (hl : ln ≤ 1073741824) : Fn Tryd.prog G 18 #[.agg (cells 74 [pI .u32 8 h, pI .u8 64 d, pV (.int .i64 n), pV (.int .i64 ln)])] (.bool (okB n ln d)) := by
  by_cases hnl : n ≤ ln
  · by_cases h64 : n = 64
    · exact dmay_64 h d n ln h64 hnl hl
    · exact dmay_ok h d n ln (by omega) hnl hl
  · rw [okB_n4 (by omega)]
    exact dmay_bad h d n ln (by omega)

theorem ent26 : enters Tryd.prog 26 = true := by kernel_rfl

variable {G : Mem}

set_option maxHeartbeats 4000000 in
theorem dadded_fn (h d : Nat → Nat) (n ln : Nat) (v : Value) (l : List Nat) (hv : Shows (DOR :: G) 1 v l.length (l.map by8)) (hlb : ∀ b ∈ l, b < 256) (hd : ∀ j, j < 64 → d j < 256) (hok : okB n ln d = true) (hz : ln + l.length ≤ 1073741824) : Fn Tryd.prog (DOR :: G) 19 #[.agg (cells 74 [pI .u32 8 h, pI .u8 64 d, pV (.int .i64 (n : Int)), pV (.int .i64 (ln : Int))]), v] (.agg (cells 74 [pI .u32 8 (hacc h (ln - n) (sS d n l) (nblk (sS d n l).length)), pI .u8 64 (fun i => ((sS d n l).drop (64 * nblk (sS d n l).length)).getD i 0), pV (.int .i64 (((sS d n l).drop (64 * nblk (sS d n l).length)).length : Nat)), pV (.int .i64 (ln + l.length : Nat))])) := by
  obtain ⟨_, hnl, hn, hmod, _⟩ := okB_open hok
  refine fn1 (n := 38) Tryd.func19 rfl rfl (by simp) (argE [.agg (cells 74 [pI .u32 8 h, pI .u8 64 d, pV (.int .i64 (n : Int)), pV (.int .i64 (ln : Int))]), v] 0) (argE_ok _) ?_
  refine e_seq ?_
  refine e_plain ?_
  refine e_box 0 rfl rfl fun r1 => ?_
  refine e_alloc 1 zer26 rfl fun r2 => ?_
  refine e_nil ?_
  refine e_seq ?_
  refine e_block ?_
  refine e_loopK [(2, _), (4, _)] [(1, _)] (fun kk E m => ∃ (hh : Nat → Nat) (g : Nat → Nat) (nn : Nat) (q : Nat) (bv : Value), kk = ln + l.length - q ∧ E = [(1, bv)] ∧ m = [(0, some ⟨r1, cells 74 [pI .u32 8 hh, pI .u8 64 g, pV (.int .i64 ((nn : Nat) : Int)), pV (.int .i64 ((q : Nat) : Int))], 26⟩)] ∧ (AddInv h d n ln l hh g nn q) ∧ (Shows (DOR :: G) 1 bv (l.drop (q - ln)).length ((l.drop (q - ln)).map by8))) [(1, v)] [(0, some ⟨r1, cells 74 [pI .u32 8 h, pI .u8 64 d, pV (.int .i64 ((n : Nat) : Int)), pV (.int .i64 ((ln : Nat) : Int))], 26⟩)] (ln + l.length - ln) ⟨rfl, rfl, rfl, trivial⟩ ⟨rfl, rfl, trivial⟩ ⟨h, d, n, ln, v, rfl, rfl, rfl, add_first l hok, (by rw [Nat.sub_self]; exact hv)⟩ ?_
  rintro kk E m ⟨hh, g, nn, q, bv, rfl, rfl, rfl, hf0_0, hf0_1⟩
  simp only [catE, catL]
  have hq1 := hf0_0.1
  have hq2 := hf0_0.2.1
  have hnn := add_nn hf0_0
  have hwl : (l.drop (q - ln)).length = l.length - (q - ln) := List.length_drop
  refine e_seq ?_
  refine e_seq ?_
  refine e_plain ?_
  refine e_move rfl rfl ?_
  refine e_lenV hf0_1 und27 rfl rfl rfl ?_
  refine e_gt rfl rfl rfl ?_
  refine e_nil ?_
  refine e_cond rfl ?_ ?_
  · intro hc0
    have hw0 : 0 < (l.drop (q - ln)).length := by have := of_decide_eq_true hc0; omega
    refine e_skip ?_
    refine e_block ?_
    refine e_seq ?_
    refine e_seq ?_
    rcases (by omega : nn = 64 ∨ nn < 64) with hN | hN
    · skip
      refine e_plain ?_
      refine e_fld (72) und26 rfl siz3 rfl rfl rfl ?_
      refine e_ldV1 (i := 0) 2 und3 rfl rfl rfl rfl (by decide) rfl ⟨[], trivial⟩ ?_
      refine e_eq rfl rfl rfl ?_
      refine e_nil ?_
      refine e_cond rfl ?_ ?_
      · intro hc1
        refine e_seq ?_
        refine e_plain ?_
        refine e_loadA (i := 0) und26 rfl siz26 rfl rfl (arrv_size _ _) rfl ⟨[], trivial⟩ ?_
        refine e_call rfl ent26 (dsqz_false hh g nn q (add_lt hd hn hlb hf0_0) (by omega)) rfl rfl ?_
        refine e_fld (0) und26 rfl siz23 rfl rfl rfl ?_
        refine e_stC (i := 0) 0 siz23 rfl rfl rfl rfl (by decide) (.inl rfl) ?_
        refine e_nil ?_
        refine e_plain ?_
        refine e_build0 zer24 und24 sis5 rfl ?_
        refine e_fld (8) und26 rfl siz24 rfl rfl rfl ?_
        refine e_stC (i := 0) 1 siz24 rfl rfl rfl rfl (by decide) (.inl rfl) ?_
        refine e_fld (72) und26 rfl siz3 rfl rfl rfl ?_
        refine e_stV (i := 0) 2 siz3 rfl rfl rfl rfl rfl (by decide) (.inl rfl) ?_
        refine e_nil ?_
        refine e_seq ?_
        refine e_plain ?_
        refine e_fld (8) und26 rfl siz24 rfl rfl rfl ?_
        refine e_fld (72) und26 rfl siz3 rfl rfl rfl ?_
        refine e_ldV1 (i := 0) 2 und3 rfl rfl rfl rfl (by decide) rfl ⟨[], trivial⟩ ?_
        refine e_sliceA 0 64 und24 siz5 rfl rfl rfl ⟨_, rfl⟩ rfl (by omega) (by omega) (by omega) rfl ?_
        refine e_move rfl rfl ?_
        refine e_copyCB (i := 0) (o := 8) (L := 64) 1 (0) und27 siz5 hf0_1 seenG rfl rfl rfl rfl (by omega) (by omega) (by decide) rfl ?_
        refine e_assign rfl rfl ?_
        refine e_nil ?_
        refine e_seq ?_
        refine e_plain ?_
        refine e_fld (72) und26 rfl siz3 rfl rfl rfl ?_
        refine e_ldV1 (i := 0) 2 und3 rfl rfl rfl rfl (by decide) rfl ⟨[], trivial⟩ ?_
        refine e_as (show _ = ii 0 from rfl) ?_
        refine e_move rfl rfl ?_
        refine e_add_i rfl rfl rfl (by omega) ?_
        refine e_fld (72) und26 rfl siz3 rfl rfl rfl ?_
        refine e_stV (i := 0) 2 siz3 rfl rfl rfl rfl rfl (by decide) (.inl rfl) ?_
        refine e_nil ?_
        refine e_seq ?_
        refine e_plain ?_
        refine e_fld (73) und26 rfl siz3 rfl rfl rfl ?_
        refine e_ldV1 (i := 0) 3 und3 rfl rfl rfl rfl (by decide) rfl ⟨[], trivial⟩ ?_
        refine e_move rfl rfl ?_
        refine e_add_i rfl rfl rfl (by omega) ?_
        refine e_fld (73) und26 rfl siz3 rfl rfl rfl ?_
        refine e_stV (i := 0) 3 siz3 rfl rfl rfl rfl rfl (by decide) (.inl rfl) ?_
        refine e_nil ?_
        refine e_plain ?_
        refine e_move rfl rfl ?_
        refine e_move rfl rfl ?_
        refine e_sliceV _ (l.drop (q - ln)).length hf0_1 und27 siz5 rfl rfl rfl ⟨_, rfl⟩ rfl (by omega) (by omega) rfl ?_
        refine e_assign rfl rfl ?_
        refine e_nil ?_
        refine ⟨_, [(1, _)], [(0, some ⟨r1, cells 74 [pI .u32 8 _, pI .u8 64 _, pV (.int .i64 ((_ : Nat) : Int)), pV (.int .i64 ((_ : Nat) : Int))], 26⟩)], ?_, ⟨rfl, rfl, rfl, trivial⟩, ⟨rfl, rfl, trivial⟩, _, _, _, _, _, rfl, rfl, rfl, (by first | exact add_full hnl hf0_0 hN hmod rfl hw0 rfl (fun _ _ => rfl) rfl rfl | exact add_more hf0_0 hN rfl hw0 (fun _ _ => rfl) rfl rfl), (add_shows hf0_1 (by omega) hq1)⟩
        omega
      · intro hc1
        exact absurd (of_decide_eq_false hc1) (by omega)
    · skip
      refine e_plain ?_
      refine e_fld (72) und26 rfl siz3 rfl rfl rfl ?_
      refine e_ldV1 (i := 0) 2 und3 rfl rfl rfl rfl (by decide) rfl ⟨[], trivial⟩ ?_
      refine e_eq rfl rfl rfl ?_
      refine e_nil ?_
      refine e_cond rfl ?_ ?_
      · intro hc1
        exact absurd (of_decide_eq_true hc1) (by omega)
      · intro hc1
        refine e_skip ?_
        refine e_seq ?_
        refine e_plain ?_
        refine e_fld (8) und26 rfl siz24 rfl rfl rfl ?_
        refine e_fld (72) und26 rfl siz3 rfl rfl rfl ?_
        refine e_ldV1 (i := 0) 2 und3 rfl rfl rfl rfl (by decide) rfl ⟨[], trivial⟩ ?_
        refine e_sliceA nn 64 und24 siz5 rfl rfl rfl ⟨_, rfl⟩ rfl (by omega) (by omega) (by omega) rfl ?_
        refine e_move rfl rfl ?_
        refine e_copyCB (i := 0) (o := 8) (L := 64) 1 (nn) und27 siz5 hf0_1 seenG rfl rfl rfl rfl (by omega) (by omega) (by decide) rfl ?_
        refine e_assign rfl rfl ?_
        refine e_nil ?_
        refine e_seq ?_
        refine e_plain ?_
        refine e_fld (72) und26 rfl siz3 rfl rfl rfl ?_
        refine e_ldV1 (i := 0) 2 und3 rfl rfl rfl rfl (by decide) rfl ⟨[], trivial⟩ ?_
        refine e_move rfl rfl ?_
        refine e_add_i rfl rfl rfl (by omega) ?_
        refine e_fld (72) und26 rfl siz3 rfl rfl rfl ?_
        refine e_stV (i := 0) 2 siz3 rfl rfl rfl rfl rfl (by decide) (.inl rfl) ?_
        refine e_nil ?_
        refine e_seq ?_
        refine e_plain ?_
        refine e_fld (73) und26 rfl siz3 rfl rfl rfl ?_
        refine e_ldV1 (i := 0) 3 und3 rfl rfl rfl rfl (by decide) rfl ⟨[], trivial⟩ ?_
        refine e_move rfl rfl ?_
        refine e_add_i rfl rfl rfl (by omega) ?_
        refine e_fld (73) und26 rfl siz3 rfl rfl rfl ?_
        refine e_stV (i := 0) 3 siz3 rfl rfl rfl rfl rfl (by decide) (.inl rfl) ?_
        refine e_nil ?_
        refine e_plain ?_
        refine e_move rfl rfl ?_
        refine e_move rfl rfl ?_
        refine e_sliceV _ (l.drop (q - ln)).length hf0_1 und27 siz5 rfl rfl rfl ⟨_, rfl⟩ rfl (by omega) (by omega) rfl ?_
        refine e_assign rfl rfl ?_
        refine e_nil ?_
        refine ⟨_, [(1, _)], [(0, some ⟨r1, cells 74 [pI .u32 8 _, pI .u8 64 _, pV (.int .i64 ((_ : Nat) : Int)), pV (.int .i64 ((_ : Nat) : Int))], 26⟩)], ?_, ⟨rfl, rfl, rfl, trivial⟩, ⟨rfl, rfl, trivial⟩, _, _, _, _, _, rfl, rfl, rfl, (by first | exact add_full hnl hf0_0 hN hmod rfl hw0 rfl (fun _ _ => rfl) rfl rfl | exact add_more hf0_0 hN rfl hw0 (fun _ _ => rfl) rfl rfl), (add_shows hf0_1 (by omega) hq1)⟩
        omega
  · intro hc0
    have hw0 : (l.drop (q - ln)).length = 0 := by have := of_decide_eq_false hc0; omega
    obtain ⟨a1, a2, a3, a4⟩ := add_last hf0_0 hw0
    refine e_exit ?_
    refine e_seq ?_
    refine e_plain ?_
    refine e_loadA (i := 0) und26 rfl siz26 rfl rfl (arrv_size _ _) rfl ⟨[], trivial⟩ ?_
    refine e_as (Eq.trans (show _ = .agg (cells 74 [pI .u32 8 hh, pI .u8 64 g, pV (.int .i64 ((nn : Nat) : Int)), pV (.int .i64 ((q : Nat) : Int))]) from rfl) (cH_congr a1 a2 a3 a4)) ?_
    refine e_storeA (i := 1) siz26 rfl rfl (arrv_size _ _) (cells_one ⟨fun _ => rfl, fun _ => rfl, fun _ => rfl, fun _ => rfl, trivial⟩) rfl cells_sz (.inl rfl) ?_
    refine e_nil ?_
    refine e_ret ?_
    exact ⟨_, rfl, .cell (i := 1) rfl rfl und26 rfl siz26 (arrv_size _ _)⟩

end Go.Proofs.YtlaebpebgjaehaaDoor

/-
  Walks, written by a program of ours off the loaded functions.
-/
namespace Go.Proofs.YtlaebpebgjaehaaDoor
open Go Go.RowKit


theorem ent18 : enters Tryd.prog 18 = true := by kernel_rfl
theorem ent19 : enters Tryd.prog 19 = true := by kernel_rfl
theorem ent23 : enters Tryd.prog 23 = true := by kernel_rfl

variable {G : Mem}

set_option maxHeartbeats 2000000 in
theorem dended6_fn (h d : Nat → Nat) (n ln : Nat) (hd : ∀ j, j < 64 → d j < 256) (hl : ln < 4294967296) : Fn Tryd.prog (DOR :: G) 23 #[.agg (cells 74 [pI .u32 8 h, pI .u8 64 d, pV (.int .i64 (n : Int)), pV (.int .i64 (ln : Int))])] (.agg (arr .u8 32 (hsumf (sqz h ((List.range 64).map d) ln true)))) := by
  obtain ⟨w, hw⟩ : ∃ w, w = (sqz h ((List.range 64).map d) ln true) := ⟨_, rfl⟩
  rw [← hw]
  refine fn1 (n := 24) Tryd.func23 rfl rfl (by simp) (argE [.agg (cells 74 [pI .u32 8 h, pI .u8 64 d, pV (.int .i64 (n : Int)), pV (.int .i64 (ln : Int))])] 0) (argE_ok _) ?_
  refine e_seq ?_
  refine e_plain ?_
  refine e_box 0 rfl rfl fun r1 => ?_
  refine e_alloc 1 zer34 rfl fun r2 => ?_
  refine e_nil ?_
  refine e_seq ?_
  refine e_plain ?_
  refine e_loadA (i := 0) und26 rfl siz26 rfl rfl (arrv_size _ _) rfl ⟨[], trivial⟩ ?_
  refine e_call rfl ent26 (dsqz_true h d n ln hd hl) rfl rfl ?_
  refine e_as (congrArg (fun f => Value.agg (arr .u32 8 f)) hw.symm) ?_
  refine e_alloc 2 zer23 rfl fun r3 => ?_
  refine e_storeA (i := 2) siz23 rfl rfl (arr_size _ _ _) arr_one rfl (arr_sz _ _ _ _ _) (.inl rfl) ?_
  refine e_nil ?_
  refine e_seq ?_
  refine e_plain ?_
  refine e_alloc 3 zer34 rfl fun r4 => ?_
  refine e_nil ?_
  refine e_seq ?_
  refine e_seq ?_
  refine e_plain ?_
  refine e_move rfl rfl ?_
  refine e_nil ?_
  refine e_block ?_
  refine e_loopK [(2, _), (3, _), (4, _)] [(0, _), (1, _), (2, _)] (fun kk E m => ∃ (i : Nat) (s : Nat → Nat), kk = 32 - i ∧ E = [(8, ii i)] ∧ m = [(3, some ⟨r4, arr .u8 32 s, 34⟩)] ∧ (i ≤ 32) ∧ (∀ t, t < i → s t = hsumf w t)) [(8, ii 0)] [(3, some ⟨r4, arr .u8 32 (fun _ => 0), 34⟩)] (32 - 0) ⟨rfl, rfl, rfl, rfl, trivial⟩ ⟨rfl, rfl, rfl, rfl, trivial⟩ ⟨0, fun _ => 0, rfl, rfl, rfl, by omega, fun t ht => absurd ht (Nat.not_lt_zero t)⟩ ?_
  rintro kk E m ⟨i, s, rfl, rfl, rfl, hf0_0, hf0_1⟩
  simp only [catE, catL]
  refine e_seq ?_
  refine e_plain ?_
  refine e_lt rfl rfl rfl ?_
  refine e_nil ?_
  refine e_seq ?_
  refine e_cond rfl ?_ ?_
  · intro hc0
    have hc0 : i < 32 := by have := of_decide_eq_true hc0; omega
    refine e_skip ?_
    refine e_seq ?_
    refine e_block ?_
    refine e_seq ?_
    refine e_plain ?_
    refine e_move rfl rfl ?_
    refine e_assign rfl rfl ?_
    refine e_nil ?_
    refine e_plain ?_
    refine e_move rfl rfl ?_
    refine e_move rfl rfl ?_
    refine e_quo_i (q := 4) rfl rfl rfl (by omega) (by omega) ?_
    refine e_index0 und23 siz22 rfl rfl (by omega) rfl ?_
    refine e_load1 (i := 2) und22 rfl rfl rfl (arr_get (by omega)) rfl ⟨[], trivial⟩ ?_
    refine e_move rfl rfl ?_
    refine e_rem_i (q := 4) rfl rfl rfl (by omega) ?_
    refine e_mul_i (q := 8) rfl rfl rfl (by omega) ?_
    refine e_shr_w rfl rfl rfl (by omega) ?_
    refine e_conv_u8 und22 und5 rfl rfl rfl ?_
    refine e_index0 und34 siz5 rfl rfl (by omega) rfl ?_
    refine e_storeN (i := 3) siz5 rfl rfl rfl (by omega) (.inl rfl) ?_
    refine e_nil ?_
    refine e_plain ?_
    refine e_add_i (q := 1) rfl rfl rfl (by omega) ?_
    refine e_move rfl rfl ?_
    refine e_nil ?_
    refine ⟨_, [(8, ii (i + 1))], [(3, some ⟨r4, arr .u8 32 (upd s i _), 34⟩)], ?_, ⟨rfl, rfl, rfl, rfl, trivial⟩, ⟨rfl, rfl, rfl, rfl, trivial⟩, i + 1, upd s i _, rfl, rfl, rfl, by omega, upd_lt hf0_1 (hsum_at w (by omega))⟩
    omega
  · intro hc0
    have hc0 := of_decide_eq_false hc0
    have hz0 : i = 32 := by omega
    subst hz0
    refine e_exit ?_
    refine e_seq ?_
    refine e_plain ?_
    refine e_loadA (i := 3) und34 rfl siz34 rfl rfl (arr_size _ _ _) rfl ⟨[], trivial⟩ ?_
    refine e_storeA (i := 1) siz34 rfl rfl (arr_size _ _ _) arr_one rfl (arr_sz _ _ _ _ _) (.inl rfl) ?_
    refine e_nil ?_
    refine e_ret ?_
    rw [← arr_congr (k := .u8) (n := 32) hf0_1]
    exact ⟨_, rfl, .cell (i := 1) rfl rfl und34 rfl siz34 (arr_size _ _ _)⟩

set_option maxHeartbeats 2000000 in
theorem dadd6_bad (h d : Nat → Nat) (n ln : Int) (v : Value) (hB : Fn Tryd.prog (DOR :: G) 18 #[.agg (cells 74 [pI .u32 8 h, pI .u8 64 d, pV (.int .i64 n), pV (.int .i64 ln)])] (.bool false)) : Fn Tryd.prog (DOR :: G) 8 #[.agg (cells 74 [pI .u32 8 h, pI .u8 64 d, pV (.int .i64 n), pV (.int .i64 ln)]), v] (.tuple #[.agg (cells 74 [pI .u32 8 (fun _ => 0), pI .u8 64 (fun _ => 0), pV (.int .i64 0), pV (.int .i64 0)]), ii 9]) := by
  refine fn2 (n := 20) Tryd.func8 rfl rfl (by simp) (argE [.agg (cells 74 [pI .u32 8 h, pI .u8 64 d, pV (.int .i64 n), pV (.int .i64 ln)]), v] 0) (argE_ok _) ?_
  refine e_seq ?_
  refine e_plain ?_
  refine e_box 0 rfl rfl fun r1 => ?_
  refine e_alloc 1 zer26 rfl fun r2 => ?_
  refine e_assign rfl rfl ?_
  refine e_nil ?_
  refine e_seq ?_
  refine e_seq ?_
  refine e_plain ?_
  refine e_loadA (i := 0) und26 rfl siz26 rfl rfl (arrv_size _ _) rfl ⟨[], trivial⟩ ?_
  refine e_call rfl ent18 hB rfl rfl ?_
  refine e_not rfl rfl ?_
  refine e_nil ?_
  refine e_cond rfl ?_ ?_
  · intro hc0
    refine e_seq ?_
    refine e_plain ?_
    refine e_buildS (cells 74 [pI .u32 8 (fun _ => 0), pI .u8 64 (fun _ => 0), pV (.int .i64 0), pV (.int .i64 0)]) zer26 und26 pls26 rfl (by kernel_rfl) rfl ?_
    refine e_storeA (i := 1) siz26 rfl rfl (arrv_size _ _) (cells_one ⟨fun _ => rfl, fun _ => rfl, fun _ => rfl, fun _ => rfl, trivial⟩) rfl cells_sz (.inl rfl) ?_
    refine e_assign rfl rfl ?_
    refine e_nil ?_
    refine e_ret ?_
    exact ⟨_, _, rfl, .cell (i := 1) rfl rfl und26 rfl siz26 (arrv_size _ _), .tmp rfl⟩
  · intro hc0
    cases hc0

set_option maxHeartbeats 2000000 in
theorem dadd6_size (h d : Nat → Nat) (n ln : Nat) (v : Value) (l : List Nat) (hv : Shows (DOR :: G) 1 v l.length (l.map by8)) (hn : n ≤ 64) (hl : ln ≤ 1073741824) (hok : okB n ln d = true) (hz : 1073741824 < ln + l.length) : Fn Tryd.prog (DOR :: G) 8 #[.agg (cells 74 [pI .u32 8 h, pI .u8 64 d, pV (.int .i64 (n : Int)), pV (.int .i64 (ln : Int))]), v] (.tuple #[.agg (cells 74 [pI .u32 8 (fun _ => 0), pI .u8 64 (fun _ => 0), pV (.int .i64 0), pV (.int .i64 0)]), ii 1]) := by
  refine fn2 (n := 20) Tryd.func8 rfl rfl (by simp) (argE [.agg (cells 74 [pI .u32 8 h, pI .u8 64 d, pV (.int .i64 (n : Int)), pV (.int .i64 (ln : Int))]), v] 0) (argE_ok _) ?_
  refine e_seq ?_
  refine e_plain ?_
  refine e_box 0 rfl rfl fun r1 => ?_
  refine e_alloc 1 zer26 rfl fun r2 => ?_
  refine e_assign rfl rfl ?_
  refine e_nil ?_
  refine e_seq ?_
  refine e_seq ?_
  refine e_plain ?_
  refine e_loadA (i := 0) und26 rfl siz26 rfl rfl (arrv_size _ _) rfl ⟨[], trivial⟩ ?_
  refine e_call rfl ent18 (dmay_fn h d n ln hn hl) rfl rfl ?_
  refine e_as (congrArg Value.bool hok) ?_
  refine e_not rfl rfl ?_
  refine e_nil ?_
  refine e_cond rfl ?_ ?_
  · intro hc0
    cases hc0
  · intro hc0
    refine e_skip ?_
    refine e_seq ?_
    refine e_seq ?_
    refine e_plain ?_
    refine e_move rfl rfl ?_
    refine e_lenV hv und27 rfl rfl rfl ?_
    refine e_fld (73) und26 rfl siz3 rfl rfl rfl ?_
    refine e_ldV1 (i := 0) 3 und3 rfl rfl rfl rfl (by decide) rfl ⟨[], trivial⟩ ?_
    refine e_sub_in (p := 1073741824) rfl rfl rfl (by omega) (by omega) ?_
    refine e_gt rfl rfl rfl ?_
    refine e_as (congrArg Value.bool (decide_eq_true (by omega))) ?_
    refine e_nil ?_
    refine e_cond rfl ?_ ?_
    · intro hc1
      refine e_seq ?_
      refine e_plain ?_
      refine e_buildS (cells 74 [pI .u32 8 (fun _ => 0), pI .u8 64 (fun _ => 0), pV (.int .i64 0), pV (.int .i64 0)]) zer26 und26 pls26 rfl (by kernel_rfl) rfl ?_
      refine e_storeA (i := 1) siz26 rfl rfl (arrv_size _ _) (cells_one ⟨fun _ => rfl, fun _ => rfl, fun _ => rfl, fun _ => rfl, trivial⟩) rfl cells_sz (.inl rfl) ?_
      refine e_assign rfl rfl ?_
      refine e_nil ?_
      refine e_ret ?_
      exact ⟨_, _, rfl, .cell (i := 1) rfl rfl und26 rfl siz26 (arrv_size _ _), .tmp rfl⟩
    · intro hc1
      cases hc1

set_option maxHeartbeats 2000000 in
theorem dadd6_ok (h d : Nat → Nat) (n ln : Nat) (v : Value) (l : List Nat) (hv : Shows (DOR :: G) 1 v l.length (l.map by8)) (hlb : ∀ b ∈ l, b < 256) (hd : ∀ j, j < 64 → d j < 256) (hn : n ≤ 64) (hl : ln ≤ 1073741824) (hok : okB n ln d = true) (hz : ln + l.length ≤ 1073741824) : Fn Tryd.prog (DOR :: G) 8 #[.agg (cells 74 [pI .u32 8 h, pI .u8 64 d, pV (.int .i64 (n : Int)), pV (.int .i64 (ln : Int))]), v] (.tuple #[.agg (cells 74 [pI .u32 8 (hacc h (ln - n) (sS d n l) (nblk (sS d n l).length)), pI .u8 64 (fun i => ((sS d n l).drop (64 * nblk (sS d n l).length)).getD i 0), pV (.int .i64 (((sS d n l).drop (64 * nblk (sS d n l).length)).length : Nat)), pV (.int .i64 (ln + l.length : Nat))]), ii 0]) := by
  refine fn2 (n := 20) Tryd.func8 rfl rfl (by simp) (argE [.agg (cells 74 [pI .u32 8 h, pI .u8 64 d, pV (.int .i64 (n : Int)), pV (.int .i64 (ln : Int))]), v] 0) (argE_ok _) ?_
  refine e_seq ?_
  refine e_plain ?_
  refine e_box 0 rfl rfl fun r1 => ?_
  refine e_alloc 1 zer26 rfl fun r2 => ?_
  refine e_assign rfl rfl ?_
  refine e_nil ?_
  refine e_seq ?_
  refine e_seq ?_
  refine e_plain ?_
  refine e_loadA (i := 0) und26 rfl siz26 rfl rfl (arrv_size _ _) rfl ⟨[], trivial⟩ ?_
  refine e_call rfl ent18 (dmay_fn h d n ln hn hl) rfl rfl ?_
  refine e_as (congrArg Value.bool hok) ?_
  refine e_not rfl rfl ?_
  refine e_nil ?_
  refine e_cond rfl ?_ ?_
  · intro hc0
    cases hc0
  · intro hc0
    refine e_skip ?_
    refine e_seq ?_
    refine e_seq ?_
    refine e_plain ?_
    refine e_move rfl rfl ?_
    refine e_lenV hv und27 rfl rfl rfl ?_
    refine e_fld (73) und26 rfl siz3 rfl rfl rfl ?_
    refine e_ldV1 (i := 0) 3 und3 rfl rfl rfl rfl (by decide) rfl ⟨[], trivial⟩ ?_
    refine e_sub_in (p := 1073741824) rfl rfl rfl (by omega) (by omega) ?_
    refine e_gt rfl rfl rfl ?_
    refine e_as (congrArg Value.bool (decide_eq_false (by omega))) ?_
    refine e_nil ?_
    refine e_cond rfl ?_ ?_
    · intro hc1
      cases hc1
    · intro hc1
      refine e_skip ?_
      refine e_seq ?_
      refine e_plain ?_
      refine e_loadA (i := 0) und26 rfl siz26 rfl rfl (arrv_size _ _) rfl ⟨[], trivial⟩ ?_
      refine e_move rfl rfl ?_
      refine e_call rfl ent19 (dadded_fn h d n ln v l hv hlb hd hok hz) rfl rfl ?_
      refine e_storeA (i := 1) siz26 rfl rfl (arrv_size _ _) (cells_one ⟨fun _ => rfl, fun _ => rfl, fun _ => rfl, fun _ => rfl, trivial⟩) rfl cells_sz (.inl rfl) ?_
      refine e_assign rfl rfl ?_
      refine e_nil ?_
      refine e_ret ?_
      exact ⟨_, _, rfl, .cell (i := 1) rfl rfl und26 rfl siz26 (arrv_size _ _), .tmp rfl⟩

set_option maxHeartbeats 2000000 in
theorem dend6_bad (h d : Nat → Nat) (n ln : Int) (hB : Fn Tryd.prog (DOR :: G) 18 #[.agg (cells 74 [pI .u32 8 h, pI .u8 64 d, pV (.int .i64 n), pV (.int .i64 ln)])] (.bool false)) : Fn Tryd.prog (DOR :: G) 12 #[.agg (cells 74 [pI .u32 8 h, pI .u8 64 d, pV (.int .i64 n), pV (.int .i64 ln)])] (.tuple #[.agg (arr .u8 32 (fun _ => 0)), ii 9]) := by
  refine fn2 (n := 10) Tryd.func12 rfl rfl (by simp) (argE [.agg (cells 74 [pI .u32 8 h, pI .u8 64 d, pV (.int .i64 n), pV (.int .i64 ln)])] 0) (argE_ok _) ?_
  refine e_seq ?_
  refine e_plain ?_
  refine e_box 0 rfl rfl fun r1 => ?_
  refine e_alloc 1 zer34 rfl fun r2 => ?_
  refine e_assign rfl rfl ?_
  refine e_nil ?_
  refine e_seq ?_
  refine e_seq ?_
  refine e_plain ?_
  refine e_loadA (i := 0) und26 rfl siz26 rfl rfl (arrv_size _ _) rfl ⟨[], trivial⟩ ?_
  refine e_call rfl ent18 hB rfl rfl ?_
  refine e_not rfl rfl ?_
  refine e_nil ?_
  refine e_cond rfl ?_ ?_
  · intro hc0
    refine e_seq ?_
    refine e_plain ?_
    refine e_build0 zer34 und34 sis5 rfl ?_
    refine e_storeA (i := 1) siz34 rfl rfl (arr_size _ _ _) arr_one rfl (arr_sz _ _ _ _ _) (.inl rfl) ?_
    refine e_assign rfl rfl ?_
    refine e_nil ?_
    refine e_ret ?_
    exact ⟨_, _, rfl, .cell (i := 1) rfl rfl und34 rfl siz34 (arr_size _ _ _), .tmp rfl⟩
  · intro hc0
    cases hc0

set_option maxHeartbeats 2000000 in
theorem dend6_ok (h d : Nat → Nat) (n ln : Nat) (hd : ∀ j, j < 64 → d j < 256) (hn : n ≤ 64) (hl : ln ≤ 1073741824) (hok : okB n ln d = true) : Fn Tryd.prog (DOR :: G) 12 #[.agg (cells 74 [pI .u32 8 h, pI .u8 64 d, pV (.int .i64 (n : Int)), pV (.int .i64 (ln : Int))])] (.tuple #[.agg (arr .u8 32 (hsumf (sqz h ((List.range 64).map d) ln true))), ii 0]) := by
  refine fn2 (n := 10) Tryd.func12 rfl rfl (by simp) (argE [.agg (cells 74 [pI .u32 8 h, pI .u8 64 d, pV (.int .i64 (n : Int)), pV (.int .i64 (ln : Int))])] 0) (argE_ok _) ?_
  refine e_seq ?_
  refine e_plain ?_
  refine e_box 0 rfl rfl fun r1 => ?_
  refine e_alloc 1 zer34 rfl fun r2 => ?_
  refine e_assign rfl rfl ?_
  refine e_nil ?_
  refine e_seq ?_
  refine e_seq ?_
  refine e_plain ?_
  refine e_loadA (i := 0) und26 rfl siz26 rfl rfl (arrv_size _ _) rfl ⟨[], trivial⟩ ?_
  refine e_call rfl ent18 (dmay_fn h d n ln hn hl) rfl rfl ?_
  refine e_as (congrArg Value.bool hok) ?_
  refine e_not rfl rfl ?_
  refine e_nil ?_
  refine e_cond rfl ?_ ?_
  · intro hc0
    cases hc0
  · intro hc0
    refine e_skip ?_
    refine e_seq ?_
    refine e_plain ?_
    refine e_loadA (i := 0) und26 rfl siz26 rfl rfl (arrv_size _ _) rfl ⟨[], trivial⟩ ?_
    refine e_call rfl ent23 (dended6_fn h d n ln hd (by omega)) rfl rfl ?_
    refine e_storeA (i := 1) siz34 rfl rfl (arr_size _ _ _) arr_one rfl (arr_sz _ _ _ _ _) (.inl rfl) ?_
    refine e_assign rfl rfl ?_
    refine e_nil ?_
    refine e_ret ?_
    exact ⟨_, _, rfl, .cell (i := 1) rfl rfl und34 rfl siz34 (arr_size _ _ _), .tmp rfl⟩

end Go.Proofs.YtlaebpebgjaehaaDoor

/-
  Walks, written by a program of ours off the loaded functions.
-/
namespace Go.Proofs.YtlaebpebgjaehaaDoor
open Go Go.RowKit


theorem dadded_msg {G : Mem} (m : List Nat) (v : Value) (l : List Nat) (hm : ∀ b ∈ m, b < 256) (hv : Shows (DOR :: G) 1 v l.length (l.map by8)) (hlb : ∀ b ∈ l, b < 256) (hz : m.length + l.length ≤ 1073741824) :
    Fn Tryd.prog (DOR :: G) 19 #[stB m, v] (stB (m ++ l)) := by
  have h := dadded_fn (G := G) (hmsg m) (heldB m) (rem64 m).length m.length v l hv hlb (fun j _ => heldB_lt hm j) (ok_heldB m) hz
  rw [sS_heldB, base_of, hmsg_app, rem64_app, ← List.length_append] at h
  exact h
theorem dended_msg {G : Mem} (m : List Nat) (hm : ∀ b ∈ m, b < 256) (hz : m.length ≤ 1073741824) : Fn Tryd.prog (DOR :: G) 23 #[stB m] (.agg (arr .u8 32 (bsum m))) := by
  have h := dended6_fn (G := G) (hmsg m) (heldB m) (rem64 m).length m.length (fun j _ => heldB_lt hm j) (by omega)
  rw [← bsum_small hz] at h
  exact h
theorem dAdd_msg {G : Mem} (m : List Nat) (v : Value) (l : List Nat) (hm : ∀ b ∈ m, b < 256) (hv : Shows (DOR :: G) 1 v l.length (l.map by8)) (hlb : ∀ b ∈ l, b < 256) (hz : m.length + l.length ≤ 1073741824) :
    Fn Tryd.prog (DOR :: G) 8 #[stB m, v] (.tuple #[stB (m ++ l), ii 0]) := by
  have h := dadd6_ok (G := G) (hmsg m) (heldB m) (rem64 m).length m.length v l hv hlb (fun j _ => heldB_lt hm j) (rem64_le m) (by omega) (ok_heldB m) hz
  rw [sS_heldB, base_of, hmsg_app, rem64_app, ← List.length_append] at h
  exact h
theorem dEnd_msg {G : Mem} (m : List Nat) (hm : ∀ b ∈ m, b < 256) (hz : m.length ≤ 1073741824) : Fn Tryd.prog (DOR :: G) 12 #[stB m] (.tuple #[.agg (arr .u8 32 (bsum m)), ii 0]) := by
  have h := dend6_ok (G := G) (hmsg m) (heldB m) (rem64 m).length m.length (fun j _ => heldB_lt hm j) (rem64_le m) hz (ok_heldB m)
  rw [← bsum_small hz] at h
  exact h
theorem dBegin_msg {G : Mem} : Fn Tryd.prog G 10 #[] (stB []) := by
  rw [← stB_nil]; exact dbegin6_fn


variable {G : Mem}

set_option maxHeartbeats 400000 in
theorem dsum6_fn (v : Value) (l : List Nat) (hv : Shows (DOR :: G) 1 v l.length (l.map by8)) (hlb : ∀ b ∈ l, b < 256) (hz : l.length ≤ 1073741824) : Fn Tryd.prog (DOR :: G) 14 #[v] (.agg (arr .u8 32 (bsum l))) := by
  refine fn1 (n := 7) Tryd.func14 rfl rfl (by simp) (argE [v] 0) (argE_ok _) ?_
  refine e_seq ?_
  refine e_plain ?_
  refine e_alloc 0 zer34 rfl fun r1 => ?_
  refine e_nil ?_
  refine e_seq ?_
  refine e_plain ?_
  refine e_call rfl ent10 dBegin_msg rfl rfl ?_
  refine e_move rfl rfl ?_
  refine e_call rfl ent19 (dadded_msg [] v l (by simp) hv hlb (by simpa using hz)) rfl rfl ?_
  refine e_as (show _ = stB l from rfl) ?_
  refine e_call rfl ent23 (dended_msg l hlb hz) rfl rfl ?_
  refine e_storeA (i := 0) siz34 rfl rfl (arr_size _ _ _) arr_one rfl (arr_sz _ _ _ _ _) (.inl rfl) ?_
  refine e_nil ?_
  refine e_ret ?_
  exact ⟨_, rfl, .cell (i := 0) rfl rfl und34 rfl siz34 (arr_size _ _ _)⟩

end Go.Proofs.YtlaebpebgjaehaaDoor

/-
  What listed package variables give a walk: tables of numbers, each in its block.
-/
namespace Go.Proofs.YtlaebpebgjaehaaDoor
open Go.ChangeShapes Go.WideShapes Go.ChangeAt Go.RowKit

section
variable {P : Program} {W : World}
/-- The cells of a type read as a datum. -/
def RdT (P : Program) (W : World) (t : TypeId) (cs : List Value) (d : DataW Unit) : Prop := ∃ fuel p, DataW.trod (fun _ => ()) P W 0 (fun _ => true) false fuel t cs = some (d, p)
/-- A listed variable. -/
def VarT (P : Program) (W : World) (n : String) (d : DataW Unit) : Prop := ∃ g t cs, P.globalNamed n = some g ∧ (P.globals[g]?).map (·.type) = some t ∧ W.var? P n = some cs ∧ RdT P W t cs.toList d
theorem laid_vars : ∀ {l : List (String × DataW Unit)} {ps : List MemPlace}, DataW.LaidVars P W l ps → ∀ x ∈ l, VarT P W x.1 x.2
  | [], _, _, x, hx => absurd hx List.not_mem_nil
  | (n, d) :: r, ps, h, x, hx => by
    obtain ⟨g, t, cs, fuel, p, q, h1, h2, h3, h4, h5, _⟩ := h
    rcases List.mem_cons.1 hx with rfl | hx
    · exact ⟨g, t, cs, h1, h2, h3, fuel, p, h4⟩
    · exact laid_vars h5 x hx
theorem laid_metH {l : List (String × DataW Unit)} (hp : (l.all fun x => x.2.handleName?.isNone) = true) (h : laidMetH P l W) : ∀ x ∈ l, VarT P W x.1 x.2 := by
  rw [MakeChecks.laidMetH_plain _ _ _ hp] at h
  obtain ⟨ps, h1, _⟩ := h
  exact laid_vars h1
theorem cut_one {cs : List Value} {r : Nat} {v : Value} (h : (cs.drop r).take 1 = [v]) : cs[r]? = some v := by
  have h0 : ((cs.drop r).take 1)[0]? = some v := by rw [h]; rfl
  simpa using h0
/-- A row of numbers. -/
theorem rd_ints {k : IntKind} {N : Nat} {e T : TypeId} {zs : List Int} {cs : List Value} (hT : P.underlying T = some (.array N e)) (he : P.underlying e = some (.int k)) (hc : P.cellsOf e = 1) (h : RdT P W T cs (.agg (zs.map fun n => .lit (.int k n)))) : ∀ r, r < N → cs[r]? = some (.int k (zs.getD r 0)) := by
  obtain ⟨fuel, p, hd⟩ := h
  obtain ⟨xs, m, _, ex, _, hl, hel⟩ := DataW.trod_array hT hd
  have e3 : (xs.map (·.1)) = zs.map fun n => .lit (.int k n) := (DataW.agg.inj (Prod.mk.inj ex).1).symm
  have hlen : zs.length = N := by
    have := congrArg List.length e3
    simpa [hl] using this.symm
  intro r hr
  have hE := hel r hr
  rw [hc, Nat.mul_one, List.getElem?_eq_getElem (by omega)] at hE
  obtain ⟨z, e1, e2, _⟩ := DataW.trod_int he hE
  have e4 : (xs.map (·.1))[r]? = (zs.map fun n => (DataW.lit (.int k n) : DataW Unit))[r]? := by rw [e3]
  rw [List.getElem?_map, List.getElem?_map, List.getElem?_eq_getElem (by omega : r < xs.length), List.getElem?_eq_getElem (by omega : r < zs.length), e2] at e4
  have hz : z = zs.getD r 0 := by
    simp only [Option.map_some, Option.some.injEq, DataW.lit.injEq, Lit.int.injEq, true_and] at e4
    rw [e4, List.getD, List.getElem?_eq_getElem (by omega : r < zs.length)]; rfl
  rw [← hz]
  exact cut_one e1
/-- Rows of numbers. -/
theorem rd_rows {k : IntKind} {M N : Nat} {e E T : TypeId} {rs : List (List Int)} {cs : List Value} (hT : P.underlying T = some (.array M E)) (hE : P.underlying E = some (.array N e)) (he : P.underlying e = some (.int k)) (hc : P.cellsOf e = 1) (hcE : P.cellsOf E = N)
    (h : RdT P W T cs (.agg (rs.map fun row => .agg (row.map fun n => .lit (.int k n))))) : ∀ r, r < M * N → cs[r]? = some (.int k ((rs.getD (r / N) []).getD (r % N) 0)) := by
  obtain ⟨fuel, p, hd⟩ := h
  obtain ⟨xs, m, _, ex, _, hl, hel⟩ := DataW.trod_array hT hd
  have e3 : (xs.map (·.1)) = rs.map fun row => .agg (row.map fun n => .lit (.int k n)) := (DataW.agg.inj (Prod.mk.inj ex).1).symm
  have hlen : rs.length = M := by
    have := congrArg List.length e3
    simpa [hl] using this.symm
  intro r hr
  have hN : 0 < N := Nat.pos_of_ne_zero fun h0 => by subst h0; simp at hr
  have hi : r / N < M := Nat.div_lt_of_lt_mul (by rw [Nat.mul_comm]; exact hr)
  have hj : r % N < N := Nat.mod_lt _ hN
  have hR := hel (r / N) hi
  rw [hcE, List.getElem?_eq_getElem (by omega)] at hR
  have e4 : (xs.map (·.1))[r / N]? = (rs.map fun row => (DataW.agg (row.map fun n => .lit (.int k n)) : DataW Unit))[r / N]? := by rw [e3]
  rw [List.getElem?_map, List.getElem?_map, List.getElem?_eq_getElem (by omega : r / N < xs.length), List.getElem?_eq_getElem (by omega : r / N < rs.length)] at e4
  simp only [Option.map_some, Option.some.injEq] at e4
  have hg : rs.getD (r / N) [] = rs[r / N] := by rw [List.getD, List.getElem?_eq_getElem (by omega : r / N < rs.length)]; rfl
  rw [hg]
  have hrow := rd_ints (P := P) (W := W) (zs := rs[r / N]) hE he hc ⟨m, (xs[r / N]).2, by rw [hR, ← e4]⟩ (r % N) hj
  rw [← hrow, List.getElem?_take_of_lt hj, List.getElem?_drop]
  congr 1
  have := Nat.div_add_mod r N
  rw [Nat.mul_comm]; omega
/-- A variable that is a table lies in its block. -/
theorem rin_tab {n : String} {g N : Nat} {T : TypeId} {k : IntKind} {f : Nat → Nat} {d : DataW Unit} (hg : P.globalNamed n = some g) (ht : (P.globals[g]?).map (·.type) = some T) (hN : 0 < N) (h : VarT P W n d) (hr : ∀ cs, RdT P W T cs d → ∀ r, r < N → cs[r]? = some (.int k (f r : Int))) : RIn W ⟨g, arr k N f, T⟩ := by
  obtain ⟨g', t, cs, h1, h2, h3, h4⟩ := h
  obtain rfl := Option.some.inj (hg.symm.trans h1)
  obtain rfl := Option.some.inj (ht.symm.trans h2)
  have key : ∀ r, r < N → W.cell? ⟨g, r, none⟩ = some (.int k (f r : Int)) := fun r hrr => by
    rw [World.var?_cell hg h3 r]
    have := hr cs.toList h4 r hrr
    simpa using this
  refine ⟨?_, fun o ho => ?_⟩
  · have h0 := key 0 hN
    unfold World.cell? at h0
    cases hh : W.heap[g]? with
    | none => rw [hh] at h0; cases h0
    | some b => exact (Array.getElem?_eq_some_iff.1 hh).1
  · have ho : o < N := by simpa [arr_size] using ho
    show W.cell? ⟨g, o, none⟩ = (arr k N f)[o]?
    rw [arr_get ho]; exact key o ho
theorem memR_nil : MemR [] W := fun _ h => absurd h List.not_mem_nil
theorem memR_cons {x : Blk} {m : Mem} (h : RIn W x) (hm : MemR m W) : MemR (x :: m) W := fun y hy => by
  rcases List.mem_cons.1 hy with rfl | hy
  · exact h
  · exact hm y hy
theorem memR_app {m m' : Mem} (h : MemR m W) (hm : MemR m' W) : MemR (m ++ m') W := fun y hy => by
  rcases List.mem_append.1 hy with hy | hy
  · exact h y hy
  · exact hm y hy
end
theorem Fn.wide {P : Program} {G G' : Mem} {f : FuncId} {args : Array Value} {v : Value} (h : Fn P G f args v) (hs : ∀ x ∈ G, x ∈ G') : Fn P G' f args v := fun w hG => h w fun x hx => hG x (hs x hx)
end Go.Proofs.YtlaebpebgjaehaaDoor
