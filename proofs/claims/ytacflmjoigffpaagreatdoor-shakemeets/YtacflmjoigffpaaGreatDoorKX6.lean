import Derived.Test.YtacflmjoigffpaaGreatDoorKX5
import Derived.Lib.IndexEntry
import Derived.Lib.Join
namespace Go.Proofs.YtacflmjoigffpaaGreatDoor
open Go
theorem zlP (x : Nat) : fv (121666 * x % PP) = fv (121665 * x % PP) + fv x := by
 rw [z1U, z1U, show 121666 * x = 121665 * x + x by omega, z04]
theorem znj {x z p m : Nat} (hz : z < PP) (hp : p = (x + z) % PP * ((x + z) % PP) % PP) (hm : m = (x + PP - z) % PP * ((x + PP - z) % PP) % PP) : p * m % PP = (z1Z (x, z)).1 := by
 show _ = yC (yC (xo x z) (xo x z)) (yC (xo x (vP z)) (xo x (vP z)))
 unfold yC xo vP
 rw [Vg x z hz, ← hp, ← hm]
theorem zo3 {x z p m r : Nat} (hz : z < PP) (hp : p = (x + z) % PP * ((x + z) % PP) % PP) (hm : m = (x + PP - z) % PP * ((x + PP - z) % PP) % PP) (hr : r = (p + PP - m) % PP) :
  r * ((p + 121665 * r % PP) % PP) % PP = (z1Z (x, z)).2 := by
 have hm2 : m < PP := by rw [hm]; exact Nat.mod_lt _ (by decide)
 have e : (z1Z (x, z)).2 = r * ((m + 121666 * r % PP) % PP) % PP := by
  show yC (xo (yC (xo x z) (xo x z)) (vP (yC (xo x (vP z)) (xo x (vP z))))) (xo (yC (xo x (vP z)) (xo x (vP z))) (yC 121666 (xo (yC (xo x z) (xo x z)) (vP (yC (xo x (vP z)) (xo x (vP z))))))) = _
  unfold yC xo vP
  rw [Vg x z hz, ← hp, ← hm, Vg p m hm2, ← hr]
 rw [e]
 apply z3P (Nat.mod_lt _ (by decide)) (Nat.mod_lt _ (by decide))
 rw [xq, xq, wH, wH, zlP, hr, zmd (Nat.le_of_lt hm2)]
 generalize fv (121665 * ((p + PP - m) % PP) % PP) = a
 generalize fv p = b
 generalize fv m = c
 clear e hr hm hp
 grobner
theorem ziY {x0 z0 x1 z1 a b : Nat} (h0 : z0 < PP) (h1 : z1 < PP) (u : Nat) (ha : a = (x1 + PP - z1) % PP * ((x0 + z0) % PP) % PP) (hb : b = (x1 + z1) % PP * ((x0 + PP - z0) % PP) % PP) :
  ZM u (x1, z1) (x0, z0) = ((a + b) % PP * ((a + b) % PP) % PP, u * ((a + PP - b) % PP * ((a + PP - b) % PP) % PP) % PP) := by
 have h2 : b < PP := by rw [hb]; exact Nat.mod_lt _ (by decide)
 unfold ZM yC xo vP
 simp only []
 rw [Vg x1 z1 h1, Vg x0 z0 h0, ← ha, ← hb, Vg _ _ h2]
theorem z1c {x0 z0 x1 z1 : Nat} (h0 : z0 < PP) (h1 : z1 < PP) (u : Nat) : ZM u (x1, z1) (x0, z0) = ZM u (x0, z0) (x1, z1) := by
 unfold ZM yC xo vP
 simp only []
 refine Prod.ext ?_ ?_
 ·apply z3P (Nat.mod_lt _ (by decide)) (Nat.mod_lt _ (by decide))
  simp only [xq, wH, XK (Nat.le_of_lt h0), XK (Nat.le_of_lt h1)]
  generalize fv x0 = a
  generalize fv z0 = b
  generalize fv x1 = c
  generalize fv z1 = d
  grobner
 ·have e1 : (x1 + z1) % PP * ((x0 + (PP - z0) % PP) % PP) % PP ≤ PP := Nat.le_of_lt (Nat.mod_lt _ (by decide))
  have e2 : (x0 + z0) % PP * ((x1 + (PP - z1) % PP) % PP) % PP ≤ PP := Nat.le_of_lt (Nat.mod_lt _ (by decide))
  apply z3P (Nat.mod_lt _ (by decide)) (Nat.mod_lt _ (by decide))
  simp only [xq, wH, XK (Nat.le_of_lt h0), XK (Nat.le_of_lt h1), XK e1, XK e2]
  generalize fv x0 = a
  generalize fv z0 = b
  generalize fv x1 = c
  generalize fv z1 = d
  generalize fv u = f
  clear e1 e2
  grobner
def WM (f : Nat → Nat) : Nat → Nat := upd (upd f 0 (f 0 - f 0 % 8)) 31 (f 31 % 64 + 64)
def sec (f : Nat → Nat) : Nat := vb (WM f) 32
theorem z9G {f : Nat → Nat} (hf : ∀ j, j < 32 → f j < 256) : ∀ j, j < 32 → WM f j < 256 := fun j hj => by
 have h0 := hf 0 (by decide)
 have := hf j hj
 unfold WM upd
 split
 ·omega
 ·split <;> omega
theorem z9X (f : Nat → Nat) : ∀ k, ∃ t, vb f (k + 1) = f 0 + 256 * t
 | 0 => ⟨0, by simp [vb]⟩
 | k + 1 => by
  obtain ⟨t, ht⟩ := z9X f k
  refine ⟨t + f (k + 1) * 2 ^ (8 * k), ?_⟩
  rw [z3W, ht, show 8 * (k + 1) = 8 * k + 8 by omega, Nat.pow_add]
  rw [Nat.mul_add, ← Nat.add_assoc]
  congr 1
  rw [show (2 : Nat) ^ 8 = 256 by decide, Nat.mul_comm 256 (f (k + 1) * 2 ^ (8 * k)), Nat.mul_assoc]
theorem Vk (f : Nat → Nat) : sec f % 8 = 0 := by
 obtain ⟨t, ht⟩ := z9X (WM f) 31
 unfold sec
 rw [ht]
 have : WM f 0 % 8 = 0 := by unfold WM upd; simp; omega
 omega
theorem z9y (f : Nat → Nat) : sec f % 2 = 0 := by have := Vk f; omega
theorem Xp {f : Nat → Nat} (hf : ∀ j, j < 32 → f j < 256) : 0 < sec f ∧ sec f < 2 ^ 255 := by
 have h1 := z22 (WM f) 31 (fun j hj => z9G hf j (by omega))
 have h2 : WM f 31 = f 31 % 64 + 64 := by unfold WM upd; simp
 unfold sec
 rw [z3W, h2]
 rw [show 8 * 31 = 248 by decide] at *
 omega
theorem zmo {g : Nat → Nat} (hg : ∀ j, j < 32 → g j < 256) (i : Nat) (hi : i < 255) : g (i / 8) / 2 ^ (i % 8) % 2 = vb g 32 / 2 ^ i % 2 := by
 have h := zkq g 32 hg (i / 8) (by omega)
 rw [← h]
 unfold bt
 generalize vb g 32 = x
 have e : i = 8 * (i / 8) + i % 8 := by omega
 conv => rhs; rw [e, Nat.pow_add, ← Nat.div_div_eq_div_mul]
 generalize x / 2 ^ (8 * (i / 8)) = y
 have hm := Nat.mod_lt i (show 0 < 8 by decide)
 generalize i % 8 = s at *
 have : s = 0 ∨ s = 1 ∨ s = 2 ∨ s = 3 ∨ s = 4 ∨ s = 5 ∨ s = 6 ∨ s = 7 := by omega
 rcases this with rfl | rfl | rfl | rfl | rfl | rfl | rfl | rfl <;> simp <;> omega
theorem zer {g : Nat → Nat} (hg : ∀ j, j < 32 → g j < 256) (i : Nat) (hi : i < 255) : (g (i / 8) / 2 ^ (i % 8) % 18446744073709551616 &&& 1) % 18446744073709551616 = vb g 32 / 2 ^ i % 2 := by
 rw [← zmo hg i hi, Nat.and_one_is_mod]
 have h1 : g (i / 8) / 2 ^ (i % 8) ≤ g (i / 8) := Nat.div_le_self _ _
 have h2 := hg (i / 8) (by omega)
 generalize g (i / 8) / 2 ^ (i % 8) = t at *
 omega
def swp (b : Nat) (L : (Nat × Nat) × (Nat × Nat)) : (Nat × Nat) × (Nat × Nat) := if b = 1 then (L.2, L.1) else L
theorem zfg {U N i : Nat} (hU : U < PP) (hi : i < 255) {L : (Nat × Nat) × (Nat × Nat)} {b : Nat} (hb : b = N / 2 ^ i % 2) (hL : L = swp b (vB U N (255 - (i + 1)))) :
  swp b (z1Z L.1, ZM U L.1 L.2) = vB U N (255 - i) := by
 have e : 255 - i = (254 - i) + 1 := by omega
 have e1 : 255 - (i + 1) = 254 - i := by omega
 have e2 : 254 - (254 - i) = i := by omega
 have hl := z0a hU N (254 - i)
 rw [e1] at hL
 rw [e]
 show _ = (if N / 2 ^ (254 - (254 - i)) % 2 = 1 then _ else _)
 rw [e2, ← hb, hL]
 unfold swp
 by_cases h : b = 1
 ·rw [if_pos h, if_pos h, if_pos h]
  have := z1c hl.1.2 hl.2.2 U (x0 := (vB U N (254 - i)).1.1) (x1 := (vB U N (254 - i)).2.1)
  exact Prod.ext this rfl
 ·rw [if_neg h, if_neg h, if_neg h]
theorem zmi {b : Nat} {L : (Nat × Nat) × (Nat × Nat)} (h : Lt2 L.1 ∧ Lt2 L.2) : Lt2 (swp b L).1 ∧ Lt2 (swp b L).2 := by
 unfold swp; split
 ·exact ⟨h.2, h.1⟩
 ·exact h
def pnt (f : Nat → Nat) : Nat := vb f 32 % 2 ^ 255 % PP
theorem zdY (f : Nat → Nat) : pnt f < PP := Nat.mod_lt _ (by decide)
theorem zgo {y : Nat} (hy : y < PP) : pnt (bt y) = y := z99 y hy
theorem zfQ : pnt (fun _ => 0) = 0 := by decide +kernel
theorem zcX : pnt (upd (fun _ => 0) 0 9) = 9 := by decide +kernel
theorem zjJ {y : Nat} (hy : y < PP) : y4 32 (bt y) (fun _ => 0) = decide (y = 0) := by
 by_cases h : y = 0
 ·subst h
  rw [decide_eq_true rfl]
  exact yu.2 fun j _ => by unfold bt; simp
 ·rw [decide_eq_false h]
  cases hb : y4 32 (bt y) (fun _ => 0) with
  | false => rfl
  | true =>
   have h1 := yu.1 hb
   have h2 := z99 y hy
   rw [X4 32 h1] at h2
   exact absurd (show y = 0 from h2.symm.trans zfQ) h
end Go.Proofs.YtacflmjoigffpaaGreatDoor
namespace Go.Proofs.YtacflmjoigffpaaGreatDoor
open Go Go.RowKit
def ptf (p : Nat × Nat) : Nat → Nat := fun t => if t < 4 then wd p.1 t else wd p.2 (t - 4)
def rgf (L : (Nat × Nat) × (Nat × Nat)) : Nat → Nat := fun t => if t < 8 then ptf L.1 t else ptf L.2 (t - 8)
abbrev ptv (p : Nat × Nat) : Value := .agg (arr .u64 8 (ptf p))
abbrev rgv (L : (Nat × Nat) × (Nat × Nat)) : Value := .agg (arr .u64 16 (rgf L))
theorem zlj (p : Nat × Nat) (t : Nat) : ptf p t < 18446744073709551616 := by
 unfold ptf; split <;> exact xE _ _
theorem zlv (L : (Nat × Nat) × (Nat × Nat)) (t : Nat) : rgf L t < 18446744073709551616 := by
 unfold rgf; split <;> exact zlj _ _
theorem zgi (p : Nat × Nat) : Value.agg (arr .u64 4 (fun t => ptf p (0 + t))) = fe p.1 := by
 exact congrArg Value.agg (zz fun j hj => by unfold ptf; rw [Nat.zero_add, if_pos hj])
theorem zfh (p : Nat × Nat) : Value.agg (arr .u64 4 (fun t => ptf p (4 + t))) = fe p.2 := by
 exact congrArg Value.agg (zz fun j hj => by unfold ptf; rw [if_neg (by omega), Nat.add_sub_cancel_left])
theorem zdx (L : (Nat × Nat) × (Nat × Nat)) : Value.agg (arr .u64 8 (fun t => rgf L (0 + t))) = ptv L.1 := by
 exact congrArg Value.agg (zz fun j hj => by unfold rgf; rw [Nat.zero_add, if_pos hj])
theorem zn2 (L : (Nat × Nat) × (Nat × Nat)) : Value.agg (arr .u64 4 (fun t => rgf L (0 + t))) = fe L.1.1 := by
 rw [← zgi]; exact congrArg Value.agg (zz fun j hj => by unfold rgf; rw [if_pos (by omega)])
theorem znm (L : (Nat × Nat) × (Nat × Nat)) : Value.agg (arr .u64 4 (fun t => rgf L (4 + t))) = fe L.1.2 := by
 rw [← zfh]; exact congrArg Value.agg (zz fun j hj => by unfold rgf; rw [if_pos (by omega)])
theorem znW (L : (Nat × Nat) × (Nat × Nat)) : Value.agg (arr .u64 4 (fun t => rgf L (8 + t))) = fe L.2.1 := by
 rw [← zgi]; exact congrArg Value.agg (zz fun j hj => by unfold rgf; rw [if_neg (by omega), Nat.add_sub_cancel_left, Nat.zero_add])
theorem zk3 (L : (Nat × Nat) × (Nat × Nat)) : Value.agg (arr .u64 4 (fun t => rgf L (12 + t))) = fe L.2.2 := by
 rw [← zfh]; exact congrArg Value.agg (zz fun j hj => by unfold rgf; rw [if_neg (by omega), show 12 + j - 8 = 4 + j by omega])
theorem VT (x z : Nat) : Instr.fill (fun i => some (i * 4, 4)) (arr .u64 8 fun _ => 0) [(0, fe x), (1, fe z)] = some (arr .u64 8 (ptf (x, z))) := by kernel_rfl
theorem z90 (p q : Nat × Nat) : Instr.fill (fun i => some (i * 8, 8)) (arr .u64 16 fun _ => 0) [(0, ptv p), (1, ptv q)] = some (arr .u64 16 (rgf (p, q))) := by kernel_rfl
def swt (n : Nat) (f : Nat → Nat) (c : Nat) : Nat → Nat := fun t => if t % 8 < c ∧ n = 1 then f ((t + 8) % 16) else f t
theorem zff (n : Nat) (f : Nat → Nat) (t : Nat) : swt n f 0 t = f t := by
 unfold swt; rw [if_neg (by omega)]
theorem z2C {n a b : Nat} (hn : n ≤ 1) (ha : a < 18446744073709551616) (hb : b < 18446744073709551616) :
  (a ^^^ ((a ^^^ b) % 18446744073709551616 &&& (18446744073709551616 - n) % 18446744073709551616) % 18446744073709551616) % 18446744073709551616 = (if n = 1 then b else a) := by
 have hx : a ^^^ b < 2 ^ 64 := Nat.xor_lt_two_pow (by omega) (by omega)
 rw [Nat.mod_eq_of_lt (show a ^^^ b < 18446744073709551616 by omega)]
 have : n = 0 ∨ n = 1 := by omega
 rcases this with rfl | rfl
 ·simp; omega
 ·rw [if_pos rfl, show (18446744073709551616 - 1) % 18446744073709551616 = 2 ^ 64 - 1 by decide, Nat.and_two_pow_sub_one_eq_mod, Nat.mod_eq_of_lt hx, Nat.mod_eq_of_lt (show a ^^^ b < 18446744073709551616 by omega),
   ← Nat.xor_assoc, Nat.xor_self, Nat.zero_xor, Nat.mod_eq_of_lt hb]
theorem zbw {n c : Nat} {f s : Nat → Nat} (hn : n ≤ 1) (hf : ∀ t, f t < 18446744073709551616) (hc : c < 8) (hs : ∀ t, t < 16 → s t = swt n f c t) (w v1 v2 : Nat)
  (hw : w = ((s c ^^^ s (8 + c)) % 18446744073709551616 &&& (18446744073709551616 - n) % 18446744073709551616) % 18446744073709551616)
  (h1 : v1 = (s c ^^^ w) % 18446744073709551616) (h2 : v2 = (upd s c v1 (8 + c) ^^^ w) % 18446744073709551616) : ∀ t, t < 16 → upd (upd s c v1) (8 + c) v2 t = swt n f (c + 1) t := by
 have e3 : upd s c v1 (8 + c) = s (8 + c) := by unfold upd; rw [if_neg (by omega)]
 rw [e3] at h2
 have e1 : s c = f c := by rw [hs c (by omega)]; unfold swt; rw [if_neg (by omega)]
 have e2 : s (8 + c) = f (8 + c) := by rw [hs (8 + c) (by omega)]; unfold swt; rw [if_neg (by omega)]
 have w1 := z2C hn (hf c) (hf (8 + c))
 have w2 := z2C hn (hf (8 + c)) (hf c)
 rw [e1, e2] at hw
 rw [← hw] at w1
 rw [Nat.xor_comm (f (8 + c)) (f c), ← hw] at w2
 rw [e1, w1] at h1
 rw [e2, w2] at h2
 intro t ht
 unfold upd
 by_cases ha : t = 8 + c
 ·subst ha
  rw [if_pos rfl, h2]
  unfold swt
  by_cases hn1 : n = 1
  ·rw [if_pos hn1, if_pos ⟨by omega, hn1⟩, show (8 + c + 8) % 16 = c by omega]
  ·rw [if_neg hn1, if_neg (fun h => hn1 h.2)]
 ·rw [if_neg ha]
  by_cases hb : t = c
  ·subst hb
   rw [if_pos rfl, h1]
   unfold swt
   by_cases hn1 : n = 1
   ·rw [if_pos hn1, if_pos ⟨by omega, hn1⟩, show (t + 8) % 16 = 8 + t by omega]
   ·rw [if_neg hn1, if_neg (fun h => hn1 h.2)]
  ·rw [if_neg hb, hs t ht]
   unfold swt
   by_cases hn1 : t % 8 < c ∧ n = 1
   ·rw [if_pos hn1, if_pos ⟨by omega, hn1.2⟩]
   ·rw [if_neg hn1, if_neg (fun h => hn1 ⟨by omega, h.2⟩)]
theorem zg6 {n : Nat} {L : (Nat × Nat) × (Nat × Nat)} {s : Nat → Nat} (hs : ∀ t, t < 16 → s t = swt n (rgf L) 8 t) : arr .u64 16 s = arr .u64 16 (rgf (swp n L)) := zz fun t ht => by
 rw [hs t ht]
 unfold swt swp
 by_cases hn : n = 1
 ·rw [if_pos ⟨by omega, hn⟩, if_pos hn]
  unfold rgf
  by_cases h8 : t < 8
  ·rw [if_neg (by omega), if_pos h8, show (t + 8) % 16 - 8 = t by omega]
  ·rw [if_pos (by omega), if_neg h8, show (t + 8) % 16 = t - 8 by omega]
 ·rw [if_neg (fun h => hn h.2), if_neg hn]
theorem zht : Value.agg (arr .u64 4 (fun _ => 0)) = fe 0 := congrArg Value.agg (zz fun j _ => by unfold wd; simp)
theorem zjC : ∀ j, j < 32 → upd (fun _ => 0) 0 9 j < 256 := by decide
theorem zlB : ∀ a, a < 256 → (a &&& 248) % 256 = a - a % 8 := by decide +kernel
theorem zmK : ∀ a, a < 256 → ((a &&& 127) % 256 ||| 64) % 256 = a % 64 + 64 := by decide +kernel
theorem zhq {f : Nat → Nat} (hf : ∀ j, j < 32 → f j < 256) {v0 v1 v2 : Nat} (h0 : v0 = (f 0 &&& 248) % 256) (h1 : v1 = (f 31 &&& 127) % 256) (h2 : v2 = (v1 ||| 64) % 256) :
  arr .u8 32 (upd (upd (upd f 0 v0) 31 v1) 31 v2) = arr .u8 32 (WM f) := zz fun j hj => by
 subst h0 h1 h2
 unfold WM upd
 by_cases h31 : j = 31
 ·subst h31; simp only [if_pos]; exact zmK _ (hf 31 (by decide))
 ·simp only [if_neg h31]
  split
  ·exact zlB _ (hf 0 (by decide))
  ·rfl
theorem zfw (a b : Nat) (ha : a < 256) (hb : b < 256) : (a ||| b) % 256 = 0 ↔ a = 0 ∧ b = 0 := by
 have h : a ||| b < 2 ^ 8 := Nat.or_lt_two_pow (by omega) (by omega)
 rw [Nat.mod_eq_of_lt (show a ||| b < 256 by omega)]
 constructor
 ·intro h0
  have l1 := Nat.left_le_or (n := a) (m := b)
  have l2 := Nat.right_le_or (n := a) (m := b)
  omega
 ·rintro ⟨rfl, rfl⟩; rfl
theorem zbV {f : Nat → Nat} {s : Nat} (h : s = 0 ↔ ∀ j, j < 32 → f j = 0) : decide (((s : Nat) : Int) ≠ 0) = !y4 32 f (fun _ => 0) := by
 cases hb : y4 32 f (fun _ => 0) with
 | true =>
  have := h.2 (yu.1 hb)
  subst this; rfl
 | false =>
  have hne : ¬ s = 0 := fun h0 => by
   have := yu.2 (h.1 h0)
   rw [hb] at this; cases this
  simp; omega
theorem z8h {f : Nat → Nat} {s k : Nat} (hs : s < 256) (hk : f k < 256) (h : s = 0 ↔ ∀ j, j < k → f j = 0) : (s ||| f k) % 256 = 0 ↔ ∀ j, j < k + 1 → f j = 0 := by
 rw [zfw _ _ hs hk, h]
 constructor
 ·rintro ⟨h1, h2⟩ j hj
  by_cases e : j = k
  ·subst e; exact h2
  ·exact h1 j (by omega)
 ·intro h1; exact ⟨fun j hj => h1 j (by omega), h1 k (by omega)⟩
abbrev SY := Bool × (Nat → Nat) × Nat × (Nat → Nat) × (Nat → Nat)
abbrev RS := (Nat → Nat) × Bool × (Nat → Nat) × Bool × (Nat → Nat) × Bool
abbrev SS := SY × RS × Nat
def SYZ : SY := (false, fun _ => 0, 0, fun _ => 0, fun _ => 0)
abbrev ky (f : Nat → Nat) : List Nat := (List.range 32).map f
theorem z1s (f : Nat → Nat) : (ky f).length = 32 := by simp
def B32 (f : Nat → Nat) : Prop := ∀ j, j < 32 → f j < 256
theorem ZE {f : Nat → Nat} (h : B32 f) : ∀ b ∈ ky f, b < 256 := wB h
def y6 (y : SY) (l : List Nat) : SY := (y.1, y.2.1, y.2.2.1, y.2.2.2.1, hx y.2.2.2.2 l)
def Wm (y : SY) (l : List Nat) : SY := (true, kB y.2.2.2.1 l, 0, kA y.2.2.2.1 l, y.2.2.2.2)
def z4E (y : SY) (l : List Nat) : SY := (true, kC y.2.2.2.1 l, 0, kA y.2.2.2.1 l, hx y.2.2.2.2 (ky (kB y.2.2.2.1 l)))
def zX (np : Bool) (y : SY) (f : Nat → Nat) : SY := if np then Wm (y6 y (ky f)) (ky f) else y6 y (ky f)
def zN (f : Nat → Nat) : Nat → Nat := bt (Yc 9 (sec f))
def Xv (f g : Nat → Nat) : Nat := Yc (pnt g) (sec f)
theorem wo (f : Nat → Nat) : B32 (zN f) := fun _ _ => zfy _ _
def xj (y : SY) (tx : List Nat) : Nat × SY × List Nat :=
 if okC y.1 y.2.1 y.2.2.1 = false then (9, SYZ, [])
 else if y.1 = false then (if 800 < tx.length then (1, SYZ, []) else (0, y6 y tx, tx))
 else if y.2.2.1 = 18446744073709551615 then (11, SYZ, [])
 else if 800 < tx.length then (1, SYZ, [])
 else (0, (true, y.2.1, y.2.2.1 + 1, y.2.2.2.1, hx y.2.2.2.2 (vJ y.2.1 (xT y.2.2.1) (ky y.2.2.2.2) tx)), vJ y.2.1 (xT y.2.2.1) (ky y.2.2.2.2) tx)
def yA (y : SY) (tx : List Nat) : Nat × SY × List Nat :=
 if okC y.1 y.2.1 y.2.2.1 = false then (9, SYZ, [])
 else if y.1 = false then (if 800 < tx.length then (1, SYZ, []) else (0, y6 y tx, tx))
 else if y.2.2.1 = 18446744073709551615 then (11, SYZ, [])
 else if 816 < tx.length then (1, SYZ, [])
 else if tx.length < 16 then (4, SYZ, [])
 else if z7n y.2.1 (xT y.2.2.1) (ky y.2.2.2.2) (tx.take (tx.length - 16)) = tx.drop (tx.length - 16) then (0, (true, y.2.1, y.2.2.1 + 1, y.2.2.2.1, hx y.2.2.2.2 tx), XD y.2.1 (xT y.2.2.1) tx)
 else (10, SYZ, [])
def z6D (fi : Bool) (t : Nat) : Bool := decide ((t : Int) = 6) || ((decide ((t : Int) = 5) && fi) || (decide ((t : Int) = 4) && !fi))
def zda (fi : Bool) (t : Nat) : Bool := decide ((t : Int) = 6) || ((decide ((t : Int) = 4) && fi) || (decide ((t : Int) = 5) && !fi))
def Xy (fi : Bool) (ow : Nat → Nat) (r : RS) (t : Nat) : Nat → Nat := if z6D fi t then ow else r.1
def z2e (fi : Bool) (r : RS) (t : Nat) : Bool := if z6D fi t then true else r.2.1
def XC (fi : Bool) (r : RS) (t : Nat) : Nat → Nat := if zda fi t then r.2.2.1 else r.2.2.2.2.1
def z2i (fi : Bool) (r : RS) (t : Nat) : Bool := if zda fi t then r.2.2.2.1 else r.2.2.2.2.2
def Yu (ps : List (Nat → Nat)) (i : Nat) : Nat → Nat := ps.getD i (fun _ => 0)
def xe (fi : Bool) (ow : Nat → Nat) (ps : List (Nat → Nat)) (t : Nat) (s : SS) : Nat × SS :=
 if t = 7 then (if ps.length ≤ s.2.2 then (5, s) else (0, z4E s.1 (ky (Yu ps s.2.2)), s.2.1, s.2.2 + 1))
 else if (z2e fi s.2.1 t && z2i fi s.2.1 t) = false then (5, s)
 else if Xv (Xy fi ow s.2.1 t) (XC fi s.2.1 t) = 0 then (12, s)
 else (0, Wm s.1 (ky (bt (Xv (Xy fi ow s.2.1 t) (XC fi s.2.1 t)))), s.2)
abbrev npk (ps : List (Nat → Nat)) : Bool := decide (0 < ps.length)
def vw (fi : Bool) (ow : Nat → Nat) (ps : List (Nat → Nat)) (sc : Nat → Nat) (t : Nat) (s : SS) : Nat × SS × List Nat :=
 if t = 1 then (0, (zX (npk ps) s.1 (zN sc), (sc, true, s.2.1.2.2), s.2.2), ky (zN sc))
 else if t = 2 then ((xj s.1 (ky (zN ow))).1, ((xj s.1 (ky (zN ow))).2.1, s.2), (xj s.1 (ky (zN ow))).2.2)
 else ((xe fi ow ps t s).1, (xe fi ow ps t s).2, [])
def yW (y : SY) : Nat := if y.1 then 48 else 32
def v8 (fi : Bool) (ow : Nat → Nat) (ps : List (Nat → Nat)) (t : Nat) (s : SS) (b : List Nat) : Nat × SS × List Nat :=
 if t = 1 then (if b.length < 32 then (4, s, []) else (0, (zX (npk ps) s.1 (fun j => b.getD j 0), (s.2.1.1, s.2.1.2.1, s.2.1.2.2.1, s.2.1.2.2.2.1, (fun j => b.getD j 0), true), s.2.2), b.drop 32))
 else if t = 2 then (if b.length < (yW s.1) then (4, s, [])
  else if (yA s.1 (b.take (yW s.1))).1 = 0 then (0, ((yA s.1 (b.take (yW s.1))).2.1, (s.2.1.1, s.2.1.2.1, (fun j => (yA s.1 (b.take (yW s.1))).2.2.getD j 0), true, s.2.1.2.2.2.2), s.2.2), b.drop (yW s.1))
  else ((yA s.1 (b.take (yW s.1))).1, ((yA s.1 (b.take (yW s.1))).2.1, s.2), []))
 else ((xe fi ow ps t s).1, (xe fi ow ps t s).2, b)
def wM (fi : Bool) (ow : Nat → Nat) (ps : List (Nat → Nat)) (sc : Nat → Nat) : List Nat → SS → List Nat → Nat × SS × List Nat
 | [], s, out => (0, s, out)
 | t :: q, s, out => if (vw fi ow ps sc t s).1 = 0 then wM fi ow ps sc q (vw fi ow ps sc t s).2.1 (out ++ (vw fi ow ps sc t s).2.2) else ((vw fi ow ps sc t s).1, (vw fi ow ps sc t s).2.1, [])
def wN (fi : Bool) (ow : Nat → Nat) (ps : List (Nat → Nat)) : List Nat → SS → List Nat → Nat × SS × List Nat
 | [], s, b => (0, s, b)
 | t :: q, s, b => if (v8 fi ow ps t s b).1 = 0 then wN fi ow ps q (v8 fi ow ps t s b).2.1 (v8 fi ow ps t s b).2.2 else ((v8 fi ow ps t s b).1, (v8 fi ow ps t s b).2.1, [])
def wJ (fi : Bool) (ow : Nat → Nat) (ps : List (Nat → Nat)) (sc : Nat → Nat) (q : List Nat) (s : SS) (tx : List Nat) : Nat × SS × List Nat :=
 if (wM fi ow ps sc q s []).1 = 0 then ((xj (wM fi ow ps sc q s []).2.1.1 tx).1, ((xj (wM fi ow ps sc q s []).2.1.1 tx).2.1, (wM fi ow ps sc q s []).2.1.2), (wM fi ow ps sc q s []).2.2 ++ (xj (wM fi ow ps sc q s []).2.1.1 tx).2.2)
 else ((wM fi ow ps sc q s []).1, (wM fi ow ps sc q s []).2.1, [])
def wR (fi : Bool) (ow : Nat → Nat) (ps : List (Nat → Nat)) (q : List Nat) (s : SS) (b : List Nat) : Nat × SS × List Nat :=
 if (wN fi ow ps q s b).1 = 0 then ((yA (wN fi ow ps q s b).2.1.1 (wN fi ow ps q s b).2.2).1, ((yA (wN fi ow ps q s b).2.1.1 (wN fi ow ps q s b).2.2).2.1, (wN fi ow ps q s b).2.1.2), (yA (wN fi ow ps q s b).2.1.1 (wN fi ow ps q s b).2.2).2.2)
 else ((wN fi ow ps q s b).1, (wN fi ow ps q s b).2.1, [])
theorem zcF {fi : Bool} {ow : Nat → Nat} {ps : List (Nat → Nat)} {sc : Nat → Nat} {q : List Nat} {i : Nat} {s s' : SS} {out o2 : List Nat} (hi : i < q.length) (h : vw fi ow ps sc (q.getD i 0) s = (0, s', o2)) : wM fi ow ps sc (q.drop i) s out = wM fi ow ps sc (q.drop (i + 1)) s' (out ++ o2) := by
 rw [List.drop_eq_getElem_cons hi, wM]
 rw [List.getD_eq_getElem?_getD, List.getElem?_eq_getElem hi, Option.getD_some] at h
 rw [h]; rfl
theorem zc3 {fi : Bool} {ow : Nat → Nat} {ps : List (Nat → Nat)} {sc : Nat → Nat} {q : List Nat} {i e : Nat} {s s' : SS} {out o2 : List Nat} (hi : i < q.length) (h : vw fi ow ps sc (q.getD i 0) s = (e, s', o2)) (he : e ≠ 0) : wM fi ow ps sc (q.drop i) s out = (e, s', []) := by
 rw [List.drop_eq_getElem_cons hi, wM]
 rw [List.getD_eq_getElem?_getD, List.getElem?_eq_getElem hi, Option.getD_some] at h
 rw [h, if_neg he]
theorem zbu {fi : Bool} {ow : Nat → Nat} {ps : List (Nat → Nat)} {q : List Nat} {i : Nat} {s s' : SS} {b b' : List Nat} (hi : i < q.length) (h : v8 fi ow ps (q.getD i 0) s b = (0, s', b')) : wN fi ow ps (q.drop i) s b = wN fi ow ps (q.drop (i + 1)) s' b' := by
 rw [List.drop_eq_getElem_cons hi, wN]
 rw [List.getD_eq_getElem?_getD, List.getElem?_eq_getElem hi, Option.getD_some] at h
 rw [h]; rfl
theorem zcN {fi : Bool} {ow : Nat → Nat} {ps : List (Nat → Nat)} {q : List Nat} {i e : Nat} {s s' : SS} {b b' : List Nat} (hi : i < q.length) (h : v8 fi ow ps (q.getD i 0) s b = (e, s', b')) (he : e ≠ 0) : wN fi ow ps (q.drop i) s b = (e, s', []) := by
 rw [List.drop_eq_getElem_cons hi, wN]
 rw [List.getD_eq_getElem?_getD, List.getElem?_eq_getElem hi, Option.getD_some] at h
 rw [h, if_neg he]
def okY (y : SY) : Prop := B32 y.2.1 ∧ y.2.2.1 < 18446744073709551616 ∧ B32 y.2.2.2.1 ∧ B32 y.2.2.2.2
def okR (r : RS) : Prop := B32 r.1 ∧ B32 r.2.2.1 ∧ B32 r.2.2.2.2.1
def okS (s : SS) : Prop := okY s.1 ∧ okR s.2.1
theorem znv (c : Nat → Nat) (l : List Nat) : B32 (kA c l) := fun j _ => XN _ _ j
theorem zoo (c : Nat → Nat) (l : List Nat) : B32 (kB c l) := fun j _ => XN _ _ j
theorem zoG (c : Nat → Nat) (l : List Nat) : B32 (kC c l) := fun j _ => XN _ _ j
theorem zik (h : Nat → Nat) (l : List Nat) : B32 (hx h l) := fun j _ => znk h l j
theorem wI {y : SY} (h : okY y) (l : List Nat) : okY (y6 y l) := ⟨h.1, h.2.1, h.2.2.1, zik _ _⟩
theorem XL : (0 : Nat) < 18446744073709551616 := by decide
theorem zgm {has : Bool} {k : Nat → Nat} {n : Nat} {ch h : Nat → Nat} (hk : B32 k) (hn : n < 18446744073709551616) (hc : B32 ch) (hh : B32 h) : okY (has, k, n, ch, h) := ⟨hk, hn, hc, hh⟩
theorem z9Z {y : SY} (h : okY y) (l : List Nat) : okY (Wm y l) := by
 unfold Wm
 exact zgm (zoo _ _) XL (znv _ _) h.2.2.2
theorem ziu (y : SY) (l : List Nat) : okY (z4E y l) := by
 unfold z4E
 exact zgm (zoG _ _) XL (znv _ _) (zik _ _)
theorem Xq {y : SY} (h : okY y) (np : Bool) (f : Nat → Nat) : okY (zX np y f) := by
 unfold zX; split
 ·exact z9Z (wI h _) _
 ·exact wI h _
theorem xW : okY SYZ := ⟨fun _ _ => show 0 < _ by decide, show 0 < _ by decide, fun _ _ => show 0 < _ by decide, fun _ _ => show 0 < _ by decide⟩
theorem z67 {y : SY} (h : okY y) (tx : List Nat) : okY (xj y tx).2.1 := by
 unfold xj
 split
 ·exact xW
 split
 ·split
  ·exact xW
  ·exact wI h _
 split
 ·exact xW
 split
 ·exact xW
 ·rename_i hn _
  have := h.2.1
  exact ⟨h.1, show y.2.2.1 + 1 < _ by omega, h.2.2.1, zik _ _⟩
theorem z20 {y : SY} (h : okY y) (tx : List Nat) : okY (yA y tx).2.1 := by
 unfold yA
 split
 ·exact xW
 split
 ·split
  ·exact xW
  ·exact wI h _
 split
 ·exact xW
 split
 ·exact xW
 split
 ·exact xW
 split
 ·rename_i hn _ _ _
  have := h.2.1
  exact ⟨h.1, show y.2.2.1 + 1 < _ by omega, h.2.2.1, zik _ _⟩
 ·exact xW
theorem z6h {y : SY} {tx : List Nat} (ht : ∀ b ∈ tx, b < 256) : ∀ b ∈ (xj y tx).2.2, b < 256 := by
 unfold xj
 split
 ·simp
 split
 ·split
  ·simp
  ·exact ht
 split
 ·simp
 split
 ·simp
 ·exact z15 _ _ _ _
theorem ZJ (y : SY) (tx : List Nat) : (xj y tx).2.2.length ≤ tx.length + 16 := by
 unfold xj
 split
 ·simp
 split
 ·split <;> simp
 split
 ·simp
 split
 ·simp
 ·show (vJ _ _ _ _).length ≤ _
  rw [xB]; omega
theorem zgb {y : SY} {tx : List Nat} (ht : ∀ b ∈ tx, b < 256) : ∀ b ∈ (yA y tx).2.2, b < 256 := by
 unfold yA
 split
 ·simp
 split
 ·split
  ·simp
  ·exact ht
 split
 ·simp
 split
 ·simp
 split
 ·simp
 split
 ·exact z3H _ _ _ _ _
 ·simp
theorem V5 (y : SY) (tx : List Nat) : (yA y tx).2.2.length ≤ tx.length := by
 unfold yA
 split
 ·simp
 split
 ·split <;> simp
 split
 ·simp
 split
 ·simp
 split
 ·simp
 split
 ·show (XD _ _ _).length ≤ _
  rw [vU]; omega
 ·simp
theorem zbK {y : SY} {b : List Nat} (hb : yW y ≤ b.length) (h : (yA y (b.take (yW y))).1 = 0) : (yA y (b.take (yW y))).2.2.length = 32 := by
 obtain ⟨c, hc⟩ : ∃ c, c = b.take (yW y) := ⟨_, rfl⟩
 have hl : c.length = yW y := by rw [hc, List.length_take]; omega
 rw [← hc] at h ⊢
 revert h
 unfold yA
 split
 ·intro h; exact absurd h (show ¬ 9 = 0 by decide)
 split
 ·rename_i hf
  rw [yW, hf, if_neg (by decide)] at hl
  split
  ·intro h; exact absurd h (show ¬ 1 = 0 by decide)
  ·intro _; exact hl
 split
 ·intro h; exact absurd h (show ¬ 11 = 0 by decide)
 split
 ·intro h; exact absurd h (show ¬ 1 = 0 by decide)
 split
 ·intro h; exact absurd h (show ¬ 4 = 0 by decide)
 split
 ·rename_i hf _ _ _ _
  intro _
  show (XD _ _ _).length = _
  rw [vU, hl, yW]
  cases hy : y.1 with
  | false => exact absurd hy hf
  | true => rfl
 ·intro h; exact absurd h (show ¬ 10 = 0 by decide)
theorem z5I {fi : Bool} {ow : Nat → Nat} {ps : List (Nat → Nat)} {t : Nat} {s : SS} (h : okS s) : okS (xe fi ow ps t s).2 := by
 unfold xe
 split
 ·split
  ·exact h
  ·exact ⟨ziu _ _, h.2⟩
 split
 ·exact h
 split
 ·exact h
 ·exact ⟨z9Z h.1 _, h.2⟩
theorem z0s {fi : Bool} {ow : Nat → Nat} {ps : List (Nat → Nat)} {sc : Nat → Nat} {t : Nat} {s : SS} (h : okS s) (hs : B32 sc) : okS (vw fi ow ps sc t s).2.1 := by
 unfold vw
 split
 ·exact ⟨Xq h.1 _ _, hs, h.2.2⟩
 split
 ·exact ⟨z67 h.1 _, h.2⟩
 ·exact z5I h
theorem z1G {b : List Nat} (hb : ∀ x ∈ b, x < 256) : B32 (fun j => b.getD j 0) := fun j _ => Zm hb j
theorem z1C {fi : Bool} {ow : Nat → Nat} {ps : List (Nat → Nat)} {t : Nat} {s : SS} {b : List Nat} (h : okS s) (hb : ∀ x ∈ b, x < 256) : okS (v8 fi ow ps t s b).2.1 := by
 unfold v8
 split
 ·split
  ·exact h
  ·exact ⟨Xq h.1 _ _, h.2.1, h.2.2.1, z1G hb⟩
 split
 ·split
  ·exact h
  split
  ·exact ⟨z20 h.1 _, h.2.1, z1G (zgb fun x hx => hb x (List.mem_of_mem_take hx)), h.2.2.2⟩
  ·exact ⟨z20 h.1 _, h.2⟩
 ·exact z5I h
theorem zjH {fi : Bool} {ow : Nat → Nat} {ps : List (Nat → Nat)} {sc : Nat → Nat} {t : Nat} {s : SS} : ∀ x ∈ (vw fi ow ps sc t s).2.2, x < 256 := by
 unfold vw
 split
 ·exact ZE (wo _)
 split
 ·exact z6h (ZE (wo _))
 ·simp
theorem z6n {fi : Bool} {ow : Nat → Nat} {ps : List (Nat → Nat)} {sc : Nat → Nat} {t : Nat} {s : SS} : (vw fi ow ps sc t s).2.2.length ≤ 48 := by
 unfold vw
 split
 ·show (ky _).length ≤ _
  rw [z1s]; decide
 split
 ·have := ZJ s.1 (ky (zN ow))
  rw [z1s] at this
  exact this
 ·simp
theorem z8W {fi : Bool} {ow : Nat → Nat} {ps : List (Nat → Nat)} {t : Nat} {s : SS} {b : List Nat} (hb : ∀ x ∈ b, x < 256) : ∀ x ∈ (v8 fi ow ps t s b).2.2, x < 256 := by
 unfold v8
 split
 ·split
  ·simp
  ·exact fun x hx => hb x (List.mem_of_mem_drop hx)
 split
 ·split
  ·simp
  split
  ·exact fun x hx => hb x (List.mem_of_mem_drop hx)
  ·simp
 ·exact hb
theorem z4F {fi : Bool} {ow : Nat → Nat} {ps : List (Nat → Nat)} {t : Nat} {s : SS} {b : List Nat} : (v8 fi ow ps t s b).2.2.length ≤ b.length := by
 unfold v8
 split
 ·split
  ·simp
  ·show (b.drop 32).length ≤ _
   simp
 split
 ·split
  ·simp
  split
  ·show (b.drop _).length ≤ _
   rw [List.length_drop]; omega
  ·simp
 ·exact Nat.le_refl _
abbrev shP (b : List Nat) (l : Bool) (vp v0 v1 vt : Value) (fi : Bool) (tn : Int) (dd : Bool) (y : SY) (ow : Nat → Nat) (r : RS) (vk : Value) (us : Int) : List y7 :=
 [pV (sv b), pV (.bool l), pV vp, pV v0, pV v1, pV vt, pV (.bool fi), pV (.int .i64 tn), pV (.bool dd), pV (.bool y.1), pI .u8 32 y.2.1, pV (u y.2.2.1), pI .u8 32 y.2.2.2.1, pI .u8 32 y.2.2.2.2, pI .u8 32 ow, pI .u8 32 r.1, pV (.bool r.2.1), pI .u8 32 r.2.2.1, pV (.bool r.2.2.2.1), pI .u8 32 r.2.2.2.2.1, pV (.bool r.2.2.2.2.2), pV vk, pV (.int .i64 us)]
abbrev shC (b : List Nat) (l : Bool) (vp v0 v1 vt : Value) (fi : Bool) (tn : Int) (dd : Bool) (y : SY) (ow : Nat → Nat) (r : RS) (vk : Value) (us : Int) : Array Value := zr 240 (shP b l vp v0 v1 vt fi tn dd y ow r vk us)
abbrev zgT (f : Nat → Nat) : List Value := (ky f).map by8
theorem Ze (f : Nat → Nat) : (zgT f).length = 32 := by simp
abbrev psC (ps : List (Nat → Nat)) : List Value := ps.flatMap zgT
theorem zlC {ps : List (Nat → Nat)} {i : Nat} (h : i < ps.length) : ((psC ps).drop (i * 32)).take 32 = zgT (Yu ps i) := by
 rw [z29 Ze ps i h, Yu, List.getD_eq_getElem?_getD, List.getElem?_eq_getElem h]; rfl
theorem z6M (f : Nat → Nat) : (zgT f).toArray = arr .u8 32 f := by
 apply Array.ext'
 simp [zgT, ky, arr]
end Go.Proofs.YtacflmjoigffpaaGreatDoor
namespace Go.Proofs.YtacflmjoigffpaaGreatDoor
open Go Go.RowKit
section
variable {P : Program} {G : Mem} {R : Reg} {ops : Array Oper} {K : Act → Mem → Prop} {rest : List Oper} {a : Act} {m : Mem}
variable {d : Option Nat} {ty : TypeId} {pos : String} {aft : Array Edge} {T T' : TypeId} {x y : Operand}
theorem zcg {p q : Int} (hx : a.eval x = .int .i64 p) (hy : a.eval y = .int .i64 q) (h : zd P G R ops K rest (a.put d (.int .i64 (IntKind.i64.wrap (p + q)))) m) :
  zd P G R ops K (⟨d, .binOp .add T x y T', ty, pos, aft, none⟩ :: rest) a m :=
 zI (fun w => by simp [hx, hy, eqGuard, binOp, Op.intArith]) h
theorem z7g {k : IntKind} {dk : TypeDesc} {z : Int} (hv : wj R T T' = 1) (hs : P.underlying T = some dk) (ht : P.underlying T' = some (.int .u32)) (hx : a.eval x = .int k z)
  (h : zd P G R ops K rest (a.put d (uw (z % 4294967296).toNat)) m) : zd P G R ops K (⟨d, .convert T T' x, ty, pos, aft, none⟩ :: rest) a m :=
 Yi hv (v := uw (z % 4294967296).toNat) (fun w _ _ => by
  have e : (((z % 4294967296).toNat : Nat) : Int) = z % 4294967296 := by omega
  simp only [execOp, convert, underlying, program, hx]
  simp [Sem.run, hs, ht, Conv.intToInt, vv, e]) h
end
section
variable {P : Program} {G : Mem} {R : Reg} {ops : Array Oper} {n : Nat} {K : Env → Mm → Prop} {rest : List Oper} {E : Env} {M : Mm} {d : Nat} {ty : TypeId} {pos : String} {aft : Array Edge}
variable {T T' : TypeId} {x y : Operand}
theorem zej {p q : Int} (hx : rd E x = some (.int .i64 p)) (hy : rd E y = some (.int .i64 q)) (hd : Nat.blt d n = true) (h : z4 P G R ops n K rest ((d, .int .i64 (IntKind.i64.wrap (p + q))) :: E) M) :
  z4 P G R ops n K (⟨some d, .binOp .add T x y T', ty, pos, aft, none⟩ :: rest) E M := fun _ _ ha hM => zcg (ha.rd hx) (ha.rd hy) (h _ _ (ha.put hd _) hM)
theorem zc4 {k : IntKind} {dk : TypeDesc} {z : Int} (hs : P.underlying T = some dk) (ht : P.underlying T' = some (.int .u32)) (hx : rd E x = some (.int k z)) (hd : Nat.blt d n = true) (hv : wj R T T' = 1)
  (h : z4 P G R ops n K rest ((d, uw (z % 4294967296).toNat) :: E) M) : z4 P G R ops n K (⟨some d, .convert T T' x, ty, pos, aft, none⟩ :: rest) E M := fun _ _ ha hM => z7g hv hs ht (ha.rd hx) (h _ _ (ha.put hd _) hM)
end
def z84 (z : Int) (i : Nat) : Nat := ((z % 4294967296).toNat / 2 ^ (i % 4 * 8) % 256 + i * i % 256) % 256
theorem ziD (z : Int) : B32 (z84 z) := fun _ _ => Nat.mod_lt _ (by decide)
def psN (z : Int) (n : Nat) : List (Nat → Nat) := (List.range n).map fun (i : Nat) => z84 (IntKind.i64.wrap (z + (i : Int)))
theorem vj (z : Int) (n : Nat) : (psN z n).length = n := by simp [psN]
theorem zfb (z : Int) (i : Nat) : psC (psN z i) ++ (arr .u8 32 (z84 (IntKind.i64.wrap (z + (i : Int))))).toList = psC (psN z (i + 1)) := by
 unfold psN psC
 rw [List.range_succ, List.map_append, List.flatMap_append]
 rw [← z6M]
 simp
theorem zbz (z : Int) (n : Nat) : (psC (psN z n)).length = n * 32 := by
 rw [xH Ze, vj]
theorem zed {k : IntKind} {n : Nat} (f : Nat → Nat) : ∀ u ∈ (arr k n f).toList, u.oneCell' = true := fun u hu => by
 simp only [arr, List.mem_map] at hu
 obtain ⟨j, _, rfl⟩ := hu
 rfl
end Go.Proofs.YtacflmjoigffpaaGreatDoor
namespace Go.Proofs.YtacflmjoigffpaaGreatDoor
open Go Go.RowKit
theorem ZC (es : List Ev) (e : Ev) (who tok : Int) : hap (es ++ [e]) who tok = (hap es who tok || hit who tok e) := by simp [hap]
def stE (es : List Ev) (i : Nat) : Bool := if i < 6 then (decide (i % 3 ≠ 0) && hap es ((i / 3 : Nat) : Int) ((i % 3 : Nat) : Int)) else (decide (9 ≤ i) && hap es (-1) ((i - 6 : Nat) : Int))
abbrev kst (s : Nat → Bool) : Array Value := zO 14 (fun i => .bool (s i))
theorem zip (i : Nat) : stE [] i = false := by unfold stE; split <;> simp [hap]
theorem W1 {es : List Ev} {w k : Nat} (hk : k = 1 ∨ k = 2) (hw : w < 2) : stE es (3 * w + k) = hap es (w : Int) (k : Int) := by
 have h1 : (3 * w + k) / 3 = w ∧ (3 * w + k) % 3 = k := by omega
 rw [stE, if_pos (by omega), h1.1, h1.2, decide_eq_true (by omega)]; rfl
theorem ZO {es : List Ev} {t : Nat} (h3 : 3 ≤ t) : stE es (6 + t) = hap es (-1) (t : Int) := by
 rw [stE, if_neg (by omega), decide_eq_true (by omega), show 6 + t - 6 = t by omega]; rfl
theorem z3Z {es : List Ev} {w k : Nat} (hk : k = 1 ∨ k = 2) (hw : w < 2) (j : Nat) : stE (es ++ [(w, k)]) j = (stE es j || decide (j = 3 * w + k)) := by
 unfold stE
 by_cases h6 : j < 6
 ·rw [if_pos h6, if_pos h6, ZC]
  have e : hit ((j / 3 : Nat) : Int) ((j % 3 : Nat) : Int) (w, k) = decide (j = 3 * w + k) := by
   unfold hit
   rw [Bool.eq_iff_iff]
   simp only [Bool.and_eq_true, Bool.or_eq_true, decide_eq_true_eq]
   omega
  rw [e]
  by_cases h0 : j % 3 = 0
  ·have h1 : ¬ j = 3 * w + k := by omega
   simp [h0, h1]
  ·simp [h0]
 ·rw [if_neg h6, if_neg h6, ZC]
  have e : hit (-1) ((j - 6 : Nat) : Int) (w, k) = decide (k = j - 6) := by
   unfold hit
   rw [Bool.eq_iff_iff]
   simp only [Bool.and_eq_true, Bool.or_eq_true, decide_eq_true_eq]
   omega
  rw [e]
  have h1 : ¬ j = 3 * w + k := by omega
  by_cases h9 : 9 ≤ j
  ·have h2 : ¬ k = j - 6 := by omega
   simp [h1, h2]
  ·simp [h1, h9]
theorem z4h {es : List Ev} {w t : Nat} (h3 : 3 ≤ t) (h7 : t ≤ 7) (j : Nat) : stE (es ++ [(w, t)]) j = (stE es j || decide (j = 6 + t)) := by
 unfold stE
 by_cases h6 : j < 6
 ·rw [if_pos h6, if_pos h6, ZC]
  have e : hit ((j / 3 : Nat) : Int) ((j % 3 : Nat) : Int) (w, t) = false := by
   unfold hit
   rw [decide_eq_false (by show ¬ ((t : Int) = _); omega)]; rfl
  have h1 : ¬ j = 6 + t := by omega
  rw [e]; simp [h1]
 ·rw [if_neg h6, if_neg h6, ZC]
  have e : hit (-1) ((j - 6 : Nat) : Int) (w, t) = decide (j = 6 + t) := by
   unfold hit
   rw [Bool.eq_iff_iff]
   simp only [Bool.and_eq_true, Bool.or_eq_true, decide_eq_true_eq]
   omega
  rw [e]
  by_cases h9 : 9 ≤ j
  ·simp [h9]
  ·have h1 : ¬ j = 6 + t := by omega
   simp [h1, h9]
theorem z2m {es : List Ev} {w : Nat} (j : Nat) : stE (es ++ [(w, 0)]) j = stE es j := by
 unfold stE
 by_cases h6 : j < 6
 ·rw [if_pos h6, if_pos h6, ZC]
  by_cases h0 : j % 3 = 0
  ·simp [h0]
  ·have e : hit ((j / 3 : Nat) : Int) ((j % 3 : Nat) : Int) (w, 0) = false := by
    unfold hit
    rw [decide_eq_false (by show ¬ (((0 : Nat) : Int) = _); omega)]; rfl
   rw [e]; simp
 ·rw [if_neg h6, if_neg h6, ZC]
  by_cases h9 : 9 ≤ j
  ·have e : hit (-1) ((j - 6 : Nat) : Int) (w, 0) = false := by
    unfold hit
    rw [decide_eq_false (by show ¬ (((0 : Nat) : Int) = _); omega)]; rfl
   rw [e]; simp
  ·simp [h9]
theorem zgw {es : List Ev} {w : Nat} : kst (stE (es ++ [(w, 0)])) = kst (stE es) := yq fun j _ => by rw [z2m]
theorem zai {es : List Ev} {w k : Nat} (hk : k = 1 ∨ k = 2) (hw : w < 2) : zO 14 (Yb (fun i => .bool (stE es i)) (3 * w + k) (.bool true)) = kst (stE (es ++ [(w, k)])) := yq fun j _ => by
 rw [z3Z hk hw, Yb]
 by_cases e : j = 3 * w + k
 ·rw [if_pos e, decide_eq_true e, Bool.or_true]
 ·rw [if_neg e, decide_eq_false e, Bool.or_false]
theorem Yn {es : List Ev} {w t : Nat} (h3 : 3 ≤ t) (h7 : t ≤ 7) : zO 14 (Yb (fun i => .bool (stE es i)) (6 + t) (.bool true)) = kst (stE (es ++ [(w, t)])) := yq fun j _ => by
 rw [z4h h3 h7, Yb]
 by_cases e : j = 6 + t
 ·rw [if_pos e, decide_eq_true e, Bool.or_true]
 ·rw [if_neg e, decide_eq_false e, Bool.or_false]
def mlS (s : Nat → Bool) (w : Nat) : Bool := !(s 13 && !(s (3 * w + 1))) && (!(s (6 + XQ w) && !(s 9)) && (!(s 12) || s (6 + Xz w)))
theorem za8 {es : List Ev} {w : Nat} (hw : w < 2) : mlS (stE es) w = (!(Vr es) || mlock es w) := by
 have a13 : stE es 13 = hap es (-1) 7 := ZO (es := es) (t := 7) (by decide)
 have a9 : stE es 9 = hap es (-1) 3 := ZO (es := es) (t := 3) (by decide)
 have a12 : stE es 12 = hap es (-1) 6 := ZO (es := es) (t := 6) (by decide)
 have a10 : stE es (6 + 4) = hap es (-1) 4 := ZO (es := es) (t := 4) (by decide)
 have a11 : stE es (6 + 5) = hap es (-1) 5 := ZO (es := es) (t := 5) (by decide)
 have hw2 : w = 0 ∨ w = 1 := by omega
 rcases hw2 with rfl | rfl
 ·have ak : stE es (3 * 0 + 1) = hap es 0 1 := W1 (es := es) (w := 0) (k := 1) (.inl rfl) (by decide)
  have m1 : XQ ((0 : Nat) : Int) = 5 := rfl
  have m2 : Xz ((0 : Nat) : Int) = 4 := rfl
  rw [mlS, m1, m2, a13, a9, a12, a10, a11, ak, mlock, m1, m2, Vr]
  show _ = (!_ || (!(hap es (-1) 7 && !(hap es 0 1)) && ((!(hap es (-1) 5) || hap es (-1) 3) && (!(hap es (-1) 6) || hap es (-1) 4))))
  generalize hap es (-1) 7 = x7
  generalize hap es (-1) 3 = x3
  generalize hap es (-1) 4 = x4
  generalize hap es (-1) 5 = x5
  generalize hap es (-1) 6 = x6
  generalize hap es 0 1 = x1
  cases x7 <;> cases x3 <;> cases x4 <;> cases x5 <;> cases x6 <;> cases x1 <;> rfl
 ·have ak : stE es (3 * 1 + 1) = hap es 1 1 := W1 (es := es) (w := 1) (k := 1) (.inl rfl) (by decide)
  have m1 : XQ ((1 : Nat) : Int) = 4 := rfl
  have m2 : Xz ((1 : Nat) : Int) = 5 := rfl
  rw [mlS, m1, m2, a13, a9, a12, a10, a11, ak, mlock, m1, m2, Vr]
  show _ = (!_ || (!(hap es (-1) 7 && !(hap es 1 1)) && ((!(hap es (-1) 4) || hap es (-1) 3) && (!(hap es (-1) 6) || hap es (-1) 5))))
  generalize hap es (-1) 7 = x7
  generalize hap es (-1) 3 = x3
  generalize hap es (-1) 4 = x4
  generalize hap es (-1) 5 = x5
  generalize hap es (-1) 6 = x6
  generalize hap es 1 1 = x1
  cases x7 <;> cases x3 <;> cases x4 <;> cases x5 <;> cases x6 <;> cases x1 <;> rfl
def ltr (t : Nat) : Nat → Nat := fun j => if t = 3 then 1 else if t = 4 then (if j = 0 then 1 else 2) else if t = 5 then (if j = 0 then 2 else 1) else 2
theorem z41 (t j : Nat) : ltr t j = 1 ∨ ltr t j = 2 := by
 unfold ltr
 repeat' split
 all_goals omega
def zcB (s : Nat → Bool) (t : Nat) : Bool := s (6 + t) || !(s (ltr t 0)) || !(s (3 + ltr t 1))
theorem zdd {es : List Ev} {w t : Nat} (h3 : 3 ≤ t) (h6 : t ≤ 6) : zcB (stE es) t = !(okT es w t) := by
 have k0 : stE es (ltr t 0) = hap es 0 (ltr t 0 : Nat) := by
  have := W1 (es := es) (w := 0) (z41 t 0) (by decide)
  simpa using this
 have k1 : stE es (3 + ltr t 1) = hap es 1 (ltr t 1 : Nat) := by
  have := W1 (es := es) (w := 1) (z41 t 1) (by decide)
  simpa using this
 rw [zcB, ZO h3, k0, k1]
 have ht : t = 3 ∨ t = 4 ∨ t = 5 ∨ t = 6 := by omega
 have b3 : ∀ a b c : Bool, (a || !b || !c) = !((b && c) && !a) := by decide
 rcases ht with rfl | rfl | rfl | rfl
 ·exact b3 _ _ _
 ·exact b3 _ _ _
 ·exact b3 _ _ _
 ·exact b3 _ _ _
theorem vi (es : List Ev) (w : Nat) : okT es w 1 = !(hap es w 1) := rfl
theorem yD {es : List Ev} {w : Nat} (hw : w < 2) : okT es w 2 = (mlS (stE es) w && !(hap es w 2)) := by
 rw [za8 hw]
 show (!(hap es w 2) && (!(Vr es) || mlock es w)) = _
 rw [Bool.and_comm]
theorem z5a {es : List Ev} {w : Nat} (hw : w < 2) : okT es w 0 = mlS (stE es) w := by rw [za8 hw]; rfl
theorem ZS {es : List Ev} {a x : Nat} : ZH es (a, x) = (decide (x ≤ 2) && !(hap es a x)) := by
 unfold ZH
 by_cases h : x ≤ 2
 ·have h2 : decide (2 < ((x : Nat) : Int)) = false := decide_eq_false (by omega)
  show (!(decide (2 < ((x : Nat) : Int)) || _)) = _
  rw [h2, decide_eq_true h]; rfl
 ·have h2 : decide (2 < ((x : Nat) : Int)) = true := decide_eq_true (by omega)
  show (!(decide (2 < ((x : Nat) : Int)) || _)) = _
  rw [h2, decide_eq_false h]; rfl
theorem z61 {ls : List (List Nat)} (h : yk (ls.map ci) = 0) : ∀ q ∈ ls, q.length ≤ 6 ∧ ∀ x ∈ q, 1 ≤ x ∧ x ≤ 7 := fun q hq => by
 obtain ⟨h1, h2⟩ := YU h (ci q) (List.mem_map.2 ⟨q, hq, rfl⟩)
 refine ⟨by simpa using h1, fun x hx => ?_⟩
 rw [List.any_eq_false] at h2
 have := h2 (x : Int) (List.mem_map.2 ⟨x, hx, rfl⟩)
 simp [wu] at this
 omega
theorem Y2 (p0 p1 : List Int) (ts : List (List Int)) : yk (p0 :: p1 :: ts) = if yk [p0, p1] = 0 then yk ts else yk [p0, p1] := by
 simp only [yk]
 repeat' split
 all_goals first | rfl | contradiction
abbrev yv (w : Nat) (l : List Nat) : List Ev := l.map fun x => (w, x)
def z50 (es : List Ev) (a : Nat) (l : List Nat) : Bool := (List.range l.length).all fun j => ZH (es ++ (yv a l).take j) (a, l.getD j 0)
def z4o (es : List Ev) (w : Nat) (l : List Nat) : Bool := (List.range (l.length + 1)).all fun j => okT (es ++ (yv w (l ++ [0])).take j) w ((l ++ [0]).getD j 0)
theorem WO {es : List Ev} {w j : Nat} {l : List Nat} (h : j < l.length) : es ++ (yv w l).take (j + 1) = (es ++ (yv w l).take j) ++ [(w, l.getD j 0)] := by
 rw [List.take_add_one, List.append_assoc, List.getElem?_map, List.getElem?_eq_getElem h, List.getD_eq_getElem?_getD, List.getElem?_eq_getElem h]; rfl
theorem z3k {es : List Ev} {w : Nat} {l : List Nat} : es ++ (yv w l).take 0 = es := by simp
theorem Z8 {es : List Ev} {w : Nat} {l : List Nat} : es ++ (yv w l).take l.length = es ++ yv w l := by
 rw [List.take_of_length_le (by simp)]
theorem z5F {n : Nat} {f : Nat → Bool} (h : ∀ j, j < n → f j = true) : (List.range n).all f = true := by
 rw [List.all_eq_true]; exact fun j hj => h j (by simpa using hj)
theorem V4 {n j : Nat} {f : Nat → Bool} (hj : j < n) (h : f j = false) : (List.range n).all f = false := by
 rw [List.all_eq_false]; exact ⟨j, by simpa using hj, by rw [h]; decide⟩
theorem zdG {n : Nat} {f : Nat → Bool} (h : (List.range n).all f = true) : ∀ j, j < n → f j = true := fun j hj => by
 rw [List.all_eq_true] at h; exact h j (by simpa using hj)
theorem z9r {n : Nat} {f : Nat → Bool} (h : (List.range n).all f = false) : ∃ j, j < n ∧ f j = false := by
 rw [List.all_eq_false] at h
 obtain ⟨j, h1, h2⟩ := h
 exact ⟨j, by simpa using h1, by simpa using h2⟩
theorem z3a {w j : Nat} {l : List Nat} (h : j ≤ l.length) : (yv w (l ++ [0])).take j = (yv w l).take j := by
 rw [yv, List.map_append, List.take_append_of_le_length (by simpa using h)]
theorem zjv {j : Nat} {l : List Nat} (h : j < l.length) : (l ++ [0]).getD j 0 = l.getD j 0 := by
 rw [List.getD_eq_getElem?_getD, List.getElem?_append_left h, ← List.getD_eq_getElem?_getD]
theorem zh2 {l : List Nat} : (l ++ [0]).getD l.length 0 = 0 := by
 rw [List.getD_eq_getElem?_getD, List.getElem?_append_right (Nat.le_refl _), Nat.sub_self]; rfl
theorem z2B {es : List Ev} {w j : Nat} {l : List Nat} (h : j < l.length) : okT (es ++ (yv w (l ++ [0])).take j) w ((l ++ [0]).getD j 0) = okT (es ++ (yv w l).take j) w (l.getD j 0) := by
 rw [z3a (by omega), zjv h]
theorem z2T {es : List Ev} {w : Nat} {l : List Nat} : okT (es ++ (yv w (l ++ [0])).take l.length) w ((l ++ [0]).getD l.length 0) = okT (es ++ yv w l) w 0 := by
 rw [z3a (Nat.le_refl _), zh2, Z8]
theorem zhc {es : List Ev} {w j : Nat} {l : List Nat} (h : j < l.length) (hf : okT (es ++ (yv w l).take j) w (l.getD j 0) = false) : z4o es w l = false :=
 V4 (j := j) (by omega) (by rw [z2B h]; exact hf)
theorem z59 {es : List Ev} {w : Nat} {l : List Nat} (h : ∀ j, j < l.length → okT (es ++ (yv w l).take j) w (l.getD j 0) = true) : z4o es w l = okT (es ++ yv w l) w 0 := by
 cases hz : okT (es ++ yv w l) w 0 with
 | true =>
  refine z5F fun j hj => ?_
  by_cases e : j = l.length
  ·subst e; rw [z2T]; exact hz
  ·rw [z2B (by omega)]; exact h j (by omega)
 | false => exact V4 (j := l.length) (by omega) (by rw [z2T]; exact hz)
theorem z6I {es : List Ev} {w : Nat} {l : List Nat} : kst (stE (es ++ yv w l)) = kst (stE (es ++ yv w (l ++ [0]))) := by
 rw [show es ++ yv w (l ++ [0]) = (es ++ yv w l) ++ [(w, 0)] by simp [yv], zgw]
theorem z0S {es : List Ev} {a j : Nat} {l : List Nat} (h : j < l.length) (hf : ZH (es ++ (yv a l).take j) (a, l.getD j 0) = false) : z50 es a l = false := V4 h hf
theorem z0o {es : List Ev} {a : Nat} {l : List Nat} (h : ∀ j, j < l.length → ZH (es ++ (yv a l).take j) (a, l.getD j 0) = true) : z50 es a l = true := z5F h
theorem XS (L : List (List Ev)) (i j : Nat) : xm L i j = xm L i 0 ++ (L.getD i []).take j := by simp [xm]
theorem z9b {L : List (List Ev)} {a : Nat} {q : List Nat} (ha : a < 2) (hq : L.getD a [] = yv a q) {j : Nat} (hj : j < q.length) : V7 L a j = ZH (xm L a 0 ++ (yv a q).take j) (a, q.getD j 0) := by
 rw [V7, if_pos ha, XS, hq, zh9 hj]
theorem z6v {L : List (List Ev)} {i w : Nat} {u : List Nat} (hq : L.getD (2 + i) [] = yv w (u ++ [0])) {j : Nat} (hj : j < u.length + 1) : V7 L (2 + i) j = okT (xm L (2 + i) 0 ++ (yv w (u ++ [0])).take j) w ((u ++ [0]).getD j 0) := by
 rw [V7, if_neg (by omega), XS, hq, zh9 (by simpa using hj)]; rfl
theorem ziQ {L : List (List Ev)} {a : Nat} {q : List Nat} (hL : 2 ≤ L.length) (ha : a < 2) (hq : L.getD a [] = yv a q) (h : z50 (xm L a 0) a q = false) : z3M L = 3 := by
 obtain ⟨j, hj, hf⟩ := z9r h
 exact z5B (i := a) (j := j) (by omega) (by rw [hq]; simpa using hj) (by rw [z9b ha hq hj]; exact hf)
theorem zm7 {L : List (List Ev)} {a : Nat} {q : List Nat} (ha : a < 2) (hq : L.getD a [] = yv a q) (h : z50 (xm L a 0) a q = true) : ∀ t, t < (L.getD a []).length → V7 L a t = true := fun t ht => by
 have ht : t < q.length := by rw [hq] at ht; simpa using ht
 rw [z9b ha hq ht]; exact zdG h t ht
theorem ze2 {L : List (List Ev)} {i w : Nat} {u : List Nat} (hL : 2 + i < L.length) (hq : L.getD (2 + i) [] = yv w (u ++ [0])) (h : z4o (xm L (2 + i) 0) w u = false) : z3M L = 3 := by
 obtain ⟨j, hj, hf⟩ := z9r h
 exact z5B (i := 2 + i) (j := j) hL (by rw [hq]; simpa using hj) (by rw [z6v hq hj]; exact hf)
theorem zjb {L : List (List Ev)} {i w : Nat} {u : List Nat} (hq : L.getD (2 + i) [] = yv w (u ++ [0])) (h : z4o (xm L (2 + i) 0) w u = true) : ∀ t, t < (L.getD (2 + i) []).length → V7 L (2 + i) t = true := fun t ht => by
 have ht : t < u.length + 1 := by rw [hq] at ht; simpa using ht
 rw [z6v hq ht]; exact zdG h t ht
theorem z4Q {L : List (List Ev)} {i : Nat} (hi : i < L.length) : xm L i 0 ++ L.getD i [] = xm L (i + 1) 0 := by
 rw [← zbB hi, XS L i (L.getD i []).length, List.take_length]
theorem zjc (late : Bool) (i : Nat) : Xw late i < 2 := by unfold Xw; split <;> omega
theorem zch (late : Bool) (i : Nat) : 1 - Xw late i = Xw late (i + 1) := by
 unfold Xw
 split <;> omega
theorem W2 {r : Nat} {t : TypeId} {b c d v0 v1 e : Value} : Shows [(⟨r, zr 6 [pV b, pV c, pV d, pV v0, pV v1, pV e], t⟩ : Blk)] 1 (.slice (some ⟨r, 3, none⟩) 2 2) [v0, v1].length [v0, v1] :=
 .inr ⟨r, 3, 2, zr 6 [pV b, pV c, pV d, pV v0, pV v1, pV e], t, rfl, Nat.le_refl _, List.mem_singleton.2 rfl, rfl, by rw [z3]; exact (by decide : 3 + 2 * 1 ≤ 6), fun j u hj => by
  match j, hj with
  | 0, hj => exact hj
  | 1, hj => exact hj
  | j + 2, hj => simp at hj⟩
theorem z1a {B : Mem} {v0 v1 : Value} {vs : List Value} {p0 p1 : List Int} {ts : List (List Int)} (h : zF B (v0 :: v1 :: vs) (p0 :: p1 :: ts)) : zF B [v0, v1] [p0, p1] := ⟨rfl, fun i hi => by
 match i, hi with
 | 0, _ => exact h.2 0 (by simp)
 | 1, _ => exact h.2 1 (by simp)
 | i + 2, hi => exact absurd hi (by simp)⟩
theorem yF {m a b : Mem} (h1 : FreshM m a) (h2 : FreshM (m ++ a) b) : FreshM m (a ++ b) := by
 refine ⟨?_, fun x hx y hy => ?_⟩
 ·rw [List.map_append, List.nodup_append]
  refine ⟨h1.1, h2.1, fun p hp q hq e => ?_⟩
  obtain ⟨x, hx, rfl⟩ := List.mem_map.1 hp
  obtain ⟨y, hy, rfl⟩ := List.mem_map.1 hq
  exact h2.2 y hy x (List.mem_append_right _ hx) e
 ·rcases List.mem_append.1 hx with h | h
  ·exact h1.2 x h y hy
  ·exact h2.2 x h y (List.mem_append_left _ hy)
theorem Ve (m : Mem) : FreshM m [] := ⟨by simp, fun x hx => by simp at hx⟩
theorem wc (m : Mem) (xs : List Value) : ∃ v nw, Shows nw 1 v xs.length xs ∧ FreshM m nw := by
 obtain ⟨r, hr⟩ := xX m
 refine ⟨.slice (some ⟨r, 0, none⟩) xs.length xs.length, [⟨r, xs.toArray, 0⟩], .inr ⟨r, 0, xs.length, xs.toArray, 0, rfl, Nat.le_refl _, List.mem_singleton.2 rfl, by omega, by simp, fun j u hj => by simpa using hj⟩, by simp, fun x hx y hy => ?_⟩
 simp at hx; subst hx; exact hr y hy
theorem VB (m : Mem) : ∀ ls : List (List Int), ∃ vs nw, zF nw vs ls ∧ FreshM m nw
 | [] => ⟨[], [], ⟨rfl, fun i hi => absurd hi (Nat.not_lt_zero i)⟩, Ve m⟩
 | l :: ls => by
  obtain ⟨vs, nw, h1, h2⟩ := VB m ls
  obtain ⟨v, nw', h3, h4⟩ := wc (m ++ nw) (l.map iv)
  rw [List.length_map] at h3
  refine ⟨v :: vs, nw ++ nw', ⟨by simp [h1.1], fun i hi => ?_⟩, yF h2 h4⟩
  cases i with
  | zero => exact h3.mono fun x hx => List.mem_append_right _ hx
  | succ i => exact (h1.2 i (by simpa using hi)).mono fun x hx => List.mem_append_left _ hx
theorem z2N (base : List Nat) (late : Bool) (vp : Value) (q0 q1 : List Nat) (us : List (List Nat)) (m : Mem) : ∃ w nw, z5T base late vp q0 q1 us w nw ∧ FreshM m nw := by
 obtain ⟨va, n0, h0, f0⟩ := wc m ((ci q0).map iv)
 obtain ⟨vb, n1, h1, f1⟩ := wc (m ++ n0) ((ci q1).map iv)
 obtain ⟨tvs, n2, h2, f2⟩ := VB (m ++ (n0 ++ n1)) (us.map ci)
 obtain ⟨vt, n3, h3, f3⟩ := wc (m ++ (n0 ++ n1 ++ n2)) tvs
 have hl : tvs.length = us.length := by rw [h2.1, List.length_map]
 have e0 : ((ci q0).map iv).length = q0.length := by simp [ci]
 have e1 : ((ci q1).map iv).length = q1.length := by simp [ci]
 rw [e0] at h0
 rw [e1] at h1
 rw [hl] at h3
 refine ⟨_, n0 ++ n1 ++ n2 ++ n3, ⟨va, vb, vt, tvs, rfl, h0.mono ?_, h1.mono ?_, h3.mono ?_, hl, yR h2 ?_⟩, yF (yF (yF f0 f1) f2) f3⟩
 ·exact fun x hx => List.mem_append_left _ (List.mem_append_left _ (List.mem_append_left _ hx))
 ·exact fun x hx => List.mem_append_left _ (List.mem_append_left _ (List.mem_append_right _ hx))
 ·exact fun x hx => List.mem_append_right _ hx
 ·exact fun x hx => List.mem_append_left _ (List.mem_append_right _ hx)
theorem zl2 {B : Mem} {vp va vb : Value} {ps : List Int} {q0 q1 : List Nat} {us : List (List Nat)} {tvs : List Value} (hp : Shows B 1 vp ps.length (ps.map iv)) (h0 : Shows B 1 va q0.length ((ci q0).map iv)) (h1 : Shows B 1 vb q1.length ((ci q1).map iv)) (h : zF B tvs (us.map ci)) : zF B (vp :: va :: vb :: tvs) (ps :: ci q0 :: ci q1 :: us.map ci) := by
 refine ⟨by simp [h.1], fun i hi => ?_⟩
 match i with
 | 0 => exact hp
 | 1 => rw [show q0.length = (ci q0).length by simp [ci]] at h0; exact h0
 | 2 => rw [show q1.length = (ci q1).length by simp [ci]] at h1; exact h1
 | i + 3 => exact h.2 i (by simpa using hi)
abbrev hdN : List Nat := [78, 111, 105, 115, 101, 95]
abbrev tlN : List Nat := [95, 50, 53, 53, 49, 57, 95, 67, 104, 97, 67, 104, 97, 80, 111, 108, 121, 95, 66, 76, 65, 75, 69, 50, 115]
def zjB (z : Int) : Nat := (48 + (z % 256).toNat) % 256
def pmd (ps : List Int) : Nat → List Nat
 | 0 => []
 | i + 1 => pmd ps i ++ ((if 0 < i then [43] else []) ++ [112, 115, 107, zjB (ps.getD i 0)])
def XF (base : List Nat) (ps : List Int) : List Nat := hdN ++ base ++ pmd ps ps.length ++ tlN
theorem z0c (ps : List Int) : ∀ i, (pmd ps i).length ≤ 5 * i
 | 0 => Nat.le_refl _
 | i + 1 => by
  have := z0c ps i
  rw [pmd]
  by_cases h : 0 < i
  ·rw [if_pos h]; simp; omega
  ·rw [if_neg h]; simp; omega
theorem YY {n : List Nat} {ps : List Int} (h : (wP n ps).1 = 0) : Za n ≠ [] ∧ ps.length ≤ 4 ∧ n.length ≤ 10 := by
 unfold wP at h
 by_cases h0 : Za n = []
 ·rw [if_pos h0] at h; cases h
 ·rw [if_neg h0] at h
  by_cases h1 : 4 < ps.length
  ·rw [if_pos h1] at h; cases h
  ·refine ⟨h0, by omega, ?_⟩
   rcases X3 h0 with rfl | rfl | rfl | rfl | rfl | rfl | rfl <;> decide
abbrev wq (n : List Nat) (ps : List Int) (i : Nat) : List Nat := Yx ((wP n ps).2.getD i [])
abbrev wt (n : List Nat) (ps : List Int) : List (List Nat) := ((wP n ps).2.drop 2).map Yx
abbrev PSK : List Nat := [112, 115, 107]
abbrev oc (l : List Nat) (i : Nat) : Prop := (l.drop i).take 3 = PSK
def ixp : List Nat → Option Nat
 | [] => none
 | b :: l => if (b :: l).take 3 = PSK then some 0 else (ixp l).map (· + 1)
theorem z0C {l : List Nat} {i : Nat} (h : oc l i) : i + 3 ≤ l.length := by
 have := congrArg List.length h
 simp at this
 omega
theorem ZN : ∀ {l : List Nat} {i : Nat}, oc l i → (∀ j, j < i → ¬ oc l j) → ixp l = some i
 | [], i, h, _ => by have := z0C h; simp at this
 | b :: l, 0, h, _ => by rw [ixp, if_pos (show (b :: l).take 3 = PSK from h)]
 | b :: l, i + 1, h, hn => by
  rw [ixp, if_neg (show ¬ (b :: l).take 3 = PSK from hn 0 (Nat.succ_pos i)), ZN (l := l) (i := i) h (fun j hj => hn (j + 1) (Nat.succ_lt_succ hj))]; rfl
theorem YS : ∀ {l : List Nat}, (∀ j, ¬ oc l j) → ixp l = none
 | [], _ => rfl
 | b :: l, hn => by rw [ixp, if_neg (show ¬ (b :: l).take 3 = PSK from hn 0), YS (l := l) (fun j => hn (j + 1))]; rfl
theorem wz : ∀ {l : List Nat} {i : Nat}, i ≤ l.length → (∀ j, j < i → ¬ oc l j) → ixp l = (ixp (l.drop i)).map (· + i)
 | l, 0, _, _ => by simp
 | [], i + 1, h, _ => by simp at h
 | b :: l, i + 1, h, hn => by
  rw [ixp, if_neg (show ¬ (b :: l).take 3 = PSK from hn 0 (Nat.succ_pos i)), wz (l := l) (i := i) (by simpa using h) (fun j hj => hn (j + 1) (Nat.succ_lt_succ hj)), List.drop_succ_cons]
  cases ixp (l.drop i) with
  | none => rfl
  | some k => simp; omega
theorem zhY (l : List Nat) (hl : ∀ b ∈ l, b < 256) : (PSK.map UInt8.ofNat).isPrefixOf (l.map UInt8.ofNat) = decide (l.take 3 = PSK) := by
 match l with
 | [] => rfl
 | [a] => simp [List.isPrefixOf]
 | [a, b] => simp [List.isPrefixOf]
 | a :: b :: c :: r =>
  have h1 := hl a (by simp)
  have h2 := hl b (by simp)
  have h3 := hl c (by simp)
  simp only [List.map_cons, List.isPrefixOf, List.map_nil, List.take_succ_cons, List.take_zero]
  rw [z8T (by decide) h1, z8T (by decide) h2, z8T (by decide) h3]
  simp only [Bool.and_true]
  by_cases e1 : a = 112
  ·by_cases e2 : b = 115
   ·by_cases e3 : c = 107
    ·simp [e1, e2, e3]
    ·have : ¬ 107 = c := fun h => e3 h.symm
     simp [e3, this]
   ·have : ¬ 115 = b := fun h => e2 h.symm
    simp [e2, this]
  ·have : ¬ 112 = a := fun h => e1 h.symm
   simp [e1, this]
theorem za6 : ∀ {l : List Nat}, (∀ b ∈ l, b < 256) → Value.int .i64 (Lib.index (l.map UInt8.ofNat) (PSK.map UInt8.ofNat)) = ixv (ixp l)
 | [], _ => rfl
 | b :: l, hl => by
  have ih := za6 (l := l) (fun x hx => hl x (List.mem_cons_of_mem _ hx))
  have hp : (PSK.map UInt8.ofNat).isPrefixOf (UInt8.ofNat b :: l.map UInt8.ofNat) = decide ((b :: l).take 3 = PSK) := zhY (b :: l) hl
  show Value.int .i64 (Lib.index (UInt8.ofNat b :: l.map UInt8.ofNat) (PSK.map UInt8.ofNat)) = _
  rw [Lib.index, hp]
  by_cases e : (b :: l).take 3 = PSK
  ·rw [decide_eq_true e, ixp, if_pos e]; rfl
  ·rw [decide_eq_false e, ixp, if_neg e]
   cases h : ixp l with
   | none =>
    rw [h] at ih
    have : Lib.index (l.map UInt8.ofNat) (PSK.map UInt8.ofNat) = -1 := by injection ih
    rw [this]; rfl
   | some i =>
    rw [h] at ih
    have : Lib.index (l.map UInt8.ofNat) (PSK.map UInt8.ofNat) = (i : Int) := by injection ih
    rw [this]
    have h1 : (((i : Int)) == -1) = false := by simp
    rw [h1]
    simp [ixv]
def hW (l : List Nat) (k : Nat) : Nat := (l.getD k 0 * 637696617 + l.getD (k + 1) 0 * 16777619 + l.getD (k + 2) 0) % 4294967296
def VN (l : List Nat) (i : Nat) : Nat := if i = 0 then 0 else if i = 1 then l.getD 0 0 else if i = 2 then (l.getD 0 0 * 16777619 % 4294967296 + l.getD 1 0) % 4294967296 else ((l.getD 0 0 * 16777619 % 4294967296 + l.getD 1 0) % 4294967296 * 16777619 % 4294967296 + l.getD 2 0) % 4294967296
theorem zar {l : List Nat} {i : Nat} (hi : i < 3) (hl : ∀ b ∈ l, b < 256) : (VN l i * 16777619 % 4294967296 + l.getD i 0) % 4294967296 = VN l (i + 1) := by
 have h0 := xC hl 0
 rcases (by omega : i = 0 ∨ i = 1 ∨ i = 2) with rfl | rfl | rfl
 ·rw [VN, if_pos rfl, VN, if_neg (by decide), if_pos (by decide), Nat.zero_mul, Nat.zero_mod, Nat.zero_add, Nat.mod_eq_of_lt (show l.getD 0 0 < 4294967296 by omega)]
 ·rw [VN, if_neg (by decide), if_pos rfl, VN, if_neg (by decide), if_neg (by decide), if_pos (by decide)]
 ·rw [VN, if_neg (by decide), if_neg (by decide), if_pos rfl, VN, if_neg (by decide), if_neg (by decide), if_neg (by decide)]
theorem z4X (x p c : Nat) : (x % 4294967296 * p % 4294967296 + c) % 4294967296 = (x * p + c) % 4294967296 := by
 rw [Nat.mod_mul_mod, Nat.mod_add_mod]
theorem ze4 (l : List Nat) : VN l 3 = hW l 0 := by
 rw [VN, if_neg (by decide), if_neg (by decide), if_neg (by decide), hW]
 simp only [Nat.zero_add]
 generalize l.getD 0 0 = a
 generalize l.getD 1 0 = b
 generalize l.getD 2 0 = c
 have h : (a * 16777619 % 4294967296 + b) * 16777619 % 4294967296 = (a * 16777619 + b) * 16777619 % 4294967296 := by rw [Nat.mul_mod, Nat.mod_add_mod, ← Nat.mul_mod]
 rw [z4X, Nat.add_mod, h, ← Nat.add_mod]
 rw [show (a * 16777619 + b) * 16777619 + c = a * 637696617 + b * 16777619 + c + 4294967296 * (65539 * a) by omega, Nat.add_mul_mod_self_left]
theorem zfM (W Z : Nat) : ((W + Z) % 4294967296 + 4294967296 - Z % 4294967296) % 4294967296 = W % 4294967296 := by omega
theorem ziZ {l : List Nat} {i : Nat} (hi : 3 ≤ i) : ((hW l (i - 3) * 16777619 % 4294967296 + l.getD i 0) % 4294967296 + 4294967296 - 1055306571 * l.getD (i - 3) 0 % 4294967296) % 4294967296 = hW l (i + 1 - 3) := by
 obtain ⟨k, rfl⟩ : ∃ k, i = k + 3 := ⟨i - 3, by omega⟩
 rw [show k + 3 - 3 = k by omega, show k + 3 + 1 - 3 = k + 1 by omega]
 unfold hW
 simp only [show k + 1 + 1 = k + 2 from rfl, show k + 1 + 2 = k + 3 from rfl]
 generalize l.getD k 0 = a
 generalize l.getD (k + 1) 0 = b
 generalize l.getD (k + 2) 0 = c
 generalize l.getD (k + 3) 0 = e
 rw [z4X, show (a * 637696617 + b * 16777619 + c) * 16777619 + e = b * 637696617 + c * 16777619 + e + 1055306571 * a + 4294967296 * (2491062 * a + 65539 * b) by omega, Nat.add_mul_mod_self_left, zfM]
theorem z0K {l : List Nat} {i : Nat} (h : oc l i) : l.getD i 0 = 112 ∧ l.getD (i + 1) 0 = 115 ∧ l.getD (i + 2) 0 = 107 := by
 have at_ : ∀ j, j < 3 → l.getD (i + j) 0 = PSK.getD j 0 := fun j hj => by
  rw [← h]
  rw [List.getD_eq_getElem?_getD, List.getD_eq_getElem?_getD, List.getElem?_take_of_lt hj, List.getElem?_drop]
 exact ⟨at_ 0 (by decide), at_ 1 (by decide), at_ 2 (by decide)⟩
theorem z0e {l : List Nat} {i : Nat} (h : oc l i) : hW l i = 337003364 := by
 obtain ⟨h1, h2, h3⟩ := z0K h
 unfold hW
 rw [h1, h2, h3]
theorem zeg {l : List Nat} {i : Nat} (h : l.getD i 0 ≠ 112) : ¬ oc l i := fun e => h (z0K e).1
theorem zjF {l : List Nat} {i o t : Nat} (h0 : l.getD i 0 ≠ 112) (hb : ∀ j, j < i → ¬ oc l j) (ho : ixb ((l.drop (i + 1)).take (t - (i + 1))) 112 = some o) : ∀ j, j < i + o + 1 → ¬ oc l j := by
 have key : ∀ (L : List Nat) (o : Nat), ixb L 112 = some o → ∀ k, k < o → L.getD k 0 ≠ 112 ∧ k < L.length := by
  intro L
  induction L with
  | nil => intro o h; simp [ixb] at h
  | cons b L ih =>
   intro o h k hk
   by_cases e : b = 112
   ·rw [ixb, if_pos e] at h; injection h with h; omega
   ·rw [ixb, if_neg e] at h
    cases h1 : ixb L 112 with
    | none => rw [h1] at h; simp at h
    | some q =>
     rw [h1] at h
     have : o = q + 1 := by simpa using h.symm
     cases k with
     | zero => exact ⟨by simpa using e, by simp⟩
     | succ k => have := ih q h1 k (by omega); exact ⟨by simpa using this.1, by simp; omega⟩
 intro j hj
 rcases (by omega : j < i ∨ j = i ∨ i < j) with h | rfl | h
 ·exact hb j h
 ·exact zeg h0
 ·obtain ⟨k, rfl⟩ : ∃ k, j = i + 1 + k := ⟨j - (i + 1), by omega⟩
  obtain ⟨h1, h2⟩ := key _ o ho k (by omega)
  refine zeg fun e => h1 ?_
  have hk : k < t - (i + 1) := by simp at h2; omega
  rw [List.getD_eq_getElem?_getD, List.getElem?_take_of_lt hk, List.getElem?_drop, ← List.getD_eq_getElem?_getD]; exact e
theorem Vq : ∀ {L : List Nat} {c o : Nat}, ixb L c = some o → o < L.length ∧ L.getD o 0 = c
 | [], _, _, h => by simp [ixb] at h
 | b :: L, c, o, h => by
  by_cases e : b = c
  ·rw [ixb, if_pos e] at h; injection h with h; subst h; exact ⟨by simp, by simpa using e⟩
  ·rw [ixb, if_neg e] at h
   cases h1 : ixb L c with
   | none => rw [h1] at h; simp at h
   | some q =>
    rw [h1] at h
    have : o = q + 1 := by simpa using h.symm
    subst this
    have := Vq h1
    exact ⟨by simp; omega, by simpa using this.2⟩
theorem zlZ {l : List Nat} {i t : Nat} (ht : t = l.length - 3 + 1) (h0 : l.getD i 0 ≠ 112) (hb : ∀ j, j < i → ¬ oc l j) (ho : ixb ((l.drop (i + 1)).take (t - (i + 1))) 112 = none) : ∀ j, ¬ oc l j := by
 have key : ∀ (L : List Nat), ixb L 112 = none → ∀ k, k < L.length → L.getD k 0 ≠ 112 := by
  intro L
  induction L with
  | nil => intro _ k hk; simp at hk
  | cons b L ih =>
   intro h k hk
   by_cases e : b = 112
   ·rw [ixb, if_pos e] at h; cases h
   ·rw [ixb, if_neg e] at h
    cases k with
    | zero => simpa using e
    | succ k => exact by simpa using ih (by cases h1 : ixb L 112 with | none => rfl | some q => rw [h1] at h; simp at h) k (by simpa using hk)
 intro j hoc
 have hl := z0C hoc
 rcases (by omega : j < i ∨ j = i ∨ i < j) with h | rfl | h
 ·exact hb j h hoc
 ·exact zeg h0 hoc
 ·obtain ⟨k, rfl⟩ : ∃ k, j = i + 1 + k := ⟨j - (i + 1), by omega⟩
  refine key _ ho k (by simp; omega) ?_
  rw [List.getD_eq_getElem?_getD, List.getElem?_take_of_lt (by omega), List.getElem?_drop, ← List.getD_eq_getElem?_getD]
  exact (z0K hoc).1
theorem zfI {l : List Nat} (h : l.length ≤ 3) (hn : PSK ≠ l) : ∀ j, ¬ oc l j := fun j e => by
 have := z0C e
 obtain rfl : j = 0 := by omega
 have e : l.take 3 = PSK := e
 rw [List.take_of_length_le (by omega)] at e
 exact hn e.symm
theorem zmh {l : List Nat} (h : PSK = l) : ixp l = some 0 := by subst h; rfl
theorem zo8 (l : List Nat) (i t : Nat) : l.getD i 0 = 112 ∨ (l.getD i 0 ≠ 112 ∧ ixb ((l.drop (i + 1)).take (t - (i + 1))) 112 = none) ∨ ∃ o, l.getD i 0 ≠ 112 ∧ ixb ((l.drop (i + 1)).take (t - (i + 1))) 112 = some o := by
 by_cases h : l.getD i 0 = 112
 ·exact .inl h
 ·cases e : ixb ((l.drop (i + 1)).take (t - (i + 1))) 112 with
  | none => exact .inr (.inl ⟨h, rfl⟩)
  | some o => exact .inr (.inr ⟨o, h, rfl⟩)
theorem Xe (l : List Nat) : ixp l = none ∨ ∃ r, ixp l = some r := by
 cases ixp l with
 | none => exact .inl rfl
 | some r => exact .inr ⟨r, rfl⟩
theorem XT : ∀ {l : List Nat} {r : Nat}, ixp l = some r → r < l.length
 | [], r, h => by simp [ixp] at h
 | b :: l, r, h => by
  rw [ixp] at h
  by_cases e : (b :: l).take 3 = PSK
  ·rw [if_pos e] at h; injection h with h; subst h; simp
  ·rw [if_neg e] at h
   cases h1 : ixp l with
   | none => rw [h1] at h; simp at h
   | some q =>
    rw [h1] at h
    have := XT h1
    have : r = q + 1 := by simpa using h.symm
    simp; omega
theorem z8O {l : List Nat} {e : Nat} (h : ∀ j, j < e → ¬ oc l j) (hn : ¬ oc l e) : ∀ j, j < e + 1 → ¬ oc l j := fun j hj => by
 rcases (by omega : j < e ∨ j = e) with h1 | rfl
 ·exact h j h1
 ·exact hn
theorem z3c {p q r : Prop} [Decidable p] [Decidable q] [Decidable r] (h : (decide p && decide q && decide r) = true) : p ∧ q ∧ r := by
 rw [Bool.and_eq_true, Bool.and_eq_true, decide_eq_true_iff, decide_eq_true_iff, decide_eq_true_iff] at h
 exact ⟨h.1.1, h.1.2, h.2⟩
theorem V3 {p q : Prop} [Decidable p] [Decidable q] (h : (decide p && decide q) = true) : p ∧ q := by
 rw [Bool.and_eq_true, decide_eq_true_iff, decide_eq_true_iff] at h
 exact h
def Xx (n : List Nat) : Bool := decide ((n.length : Int) < 6) || decide (n.take 6 ≠ hdN) || decide ((n.length : Int) < 31) || decide (n.drop (n.length - 25) ≠ tlN)
def zQ (n : List Nat) : List Nat := (n.drop 6).take (n.length - 25 - 6)
def z17 (ds : List Nat) (o : Option (List Nat)) : Option (List Nat) := o.map (ds ++ ·)
theorem z66 (o : Option (List Nat)) : o = z17 [] o := by cases o <;> rfl
def YM (base : List Nat) (late : Bool) (ps q0 q1 : List Nat) (us : List (List Nat)) (w : Value) (B : Mem) : Prop := ∃ vp, Shows B 1 vp ps.length ((ci ps).map iv) ∧ z5T base late vp q0 q1 us w B
theorem z1w {base : List Nat} {late : Bool} {vp : Value} {q0 q1 : List Nat} {us : List (List Nat)} {w : Value} {B B' : Mem} (h : z5T base late vp q0 q1 us w B) (hs : ∀ x ∈ B, x ∈ B') : z5T base late vp q0 q1 us w B' := by
 obtain ⟨va, vb, vt, tvs, h1, h2, h3, h4, h5, h6⟩ := h
 exact ⟨va, vb, vt, tvs, h1, h2.mono hs, h3.mono hs, h4.mono hs, h5, yR h6 hs⟩
theorem zc8 (base : List Nat) (late : Bool) (ps q0 q1 : List Nat) (us : List (List Nat)) (m : Mem) : ∃ v nw, (∃ w', v = Value.tuple #[w', ii 0] ∧ YM base late ps q0 q1 us w' nw) ∧ FreshM m nw := by
 obtain ⟨vp, n0, h0, f0⟩ := wc m ((ci ps).map iv)
 obtain ⟨w, nw, h1, h2⟩ := z2N base late vp q0 q1 us (m ++ n0)
 rw [show ((ci ps).map iv).length = ps.length by simp [ci]] at h0
 exact ⟨_, n0 ++ nw, ⟨w, rfl, vp, h0.mono fun x hx => List.mem_append_left _ hx, z1w h1 fun x hx => List.mem_append_right _ hx⟩, yF f0 h2⟩
end Go.Proofs.YtacflmjoigffpaaGreatDoor
namespace Go.Proofs.YtacflmjoigffpaaGreatDoor
open Go Go.RowKit
def z1o (m i : Nat) : List Nat := (List.range i).filter (fun n => decide (m / 2 ^ n % 2 = 1))
abbrev plc (t m : Nat) : List Nat := z1o m (t + 1)
theorem Wn {m i : Nat} (h : m / 2 ^ i % 2 = 1) : z1o m (i + 1) = z1o m i ++ [i] := by
 unfold z1o
 rw [List.range_succ, List.filter_append, List.filter_cons, if_pos (decide_eq_true h)]; rfl
theorem z0h {m i : Nat} (h : ¬ m / 2 ^ i % 2 = 1) : z1o m (i + 1) = z1o m i := by
 unfold z1o
 rw [List.range_succ, List.filter_append, List.filter_cons, if_neg (by simpa using h)]; simp
theorem z6t (m i : Nat) : (z1o m i).length ≤ i := by
 unfold z1o
 exact Nat.le_trans (List.length_filter_le _ _) (by simp)
theorem z8X (t m : Nat) : (plc t m).length ≤ t + 1 := z6t m (t + 1)
abbrev nm6 : List (List Nat) := [nNN, nNK, nXX, nIK, nXK, nKK]
def nmK (k : Nat) : List Nat := nm6.getD k []
def tnK (k : Nat) : Nat := (wt (nmK k) []).length
def psK (k m : Nat) : List Nat := plc (tnK k) m
theorem zjR (k m : Nat) : (psK k m).length ≤ tnK k + 1 := z8X _ _
theorem zhp : ∀ k, k < 6 → (wP (nmK k) []).1 = 0 ∧ 2 ≤ tnK k ∧ tnK k ≤ 3 ∧ ∀ b ∈ nmK k, b < 256 := by decide +kernel
theorem ze0 : ∀ k, k < 6 → ∀ m, m < 16 → (wP (nmK k) (ci (psK k m))).1 = 0 := by decide +kernel
theorem zkG {k : Nat} (h : k < 6) : ((nm6.map sv).toArray : Array Value)[k]? = some (sv (nmK k)) := by
 rw [List.getElem?_toArray]; exact zez h
section
variable {P : Program} {G : Mem} {R : Reg} {M : Mm}
theorem z4O {A : Mem} (h : ∀ x ∈ A, x ∈ G) : SeenE G R M A := fun z hz => .inl (h z hz)
end
theorem zbJ (base : List Nat) (late : Bool) (ps q0 q1 : List Nat) (us : List (List Nat)) (u : Value) (m : Mem) : ∃ v nw, (∃ w', v = Value.tuple #[w', u] ∧ YM base late ps q0 q1 us w' nw) ∧ FreshM m nw := by
 obtain ⟨v, nw, ⟨w, _, h⟩, hf⟩ := zc8 base late ps q0 q1 us m
 exact ⟨_, nw, ⟨w, rfl, h⟩, hf⟩
end Go.Proofs.YtacflmjoigffpaaGreatDoor
namespace Go.Proofs.YtacflmjoigffpaaGreatDoor
open Go Go.RowKit
def pck (t : Nat) (last : Int) : List Int → Nat
 | [] => 0
 | n :: r => if n < 0 ∨ (t : Int) < n then 6 else if n ≤ last then 3 else pck t n r
theorem z3y : ∀ (ps : List Int) (L : List (List Nat)) (last : Int), (XG L last ps).1 = pck (L.length - 2) last ps
 | [], _, _ => rfl
 | n :: r, L, last => by
  rw [XG, pck]
  by_cases h : n < 0 ∨ ((L.length - 2 : Nat) : Int) < n
  ·rw [if_pos h, if_pos h]
  ·rw [if_neg h, if_neg h]
   by_cases h2 : n ≤ last
   ·rw [if_pos h2, if_pos h2]
   ·rw [if_neg h2, if_neg h2, z3y r (z0L L n) n, z6a]
def z10 (t : Nat) (ps : List Int) : Nat := if 4 < ps.length then 1 else pck t (-1) ps
theorem z1J {n : List Nat} {ps : List Int} (h : Za n ≠ []) : (wP n ps).1 = z10 ((YQ n).length - 2) ps := by
 rw [wP, if_neg h, z10]
 by_cases h4 : 4 < ps.length
 ·rw [if_pos h4, if_pos h4]
 ·rw [if_neg h4, if_neg h4, z3y]
theorem z2v : ∀ {ps : List Int} {t : Nat} {last : Int}, pck t last ps = 0 → ∀ n ∈ ps, 0 ≤ n ∧ n ≤ (t : Int)
 | [], _, _, _, n, hn => by simp at hn
 | m :: r, t, last, h, n, hn => by
  rw [pck] at h
  by_cases h1 : m < 0 ∨ (t : Int) < m
  ·rw [if_pos h1] at h; cases h
  ·rw [if_neg h1] at h
   by_cases h2 : m ≤ last
   ·rw [if_pos h2] at h; cases h
   ·rw [if_neg h2] at h
    rcases List.mem_cons.1 hn with rfl | hn
    ·omega
    ·exact z2v h n hn
theorem z2b {ps : List Int} {t : Nat} (h : z10 t ps = 0) : ps.length ≤ 4 ∧ ∀ i, i < ps.length → 0 ≤ ps.getD i 0 ∧ ps.getD i 0 ≤ (t : Int) := by
 rw [z10] at h
 by_cases h4 : 4 < ps.length
 ·rw [if_pos h4] at h; cases h
 ·rw [if_neg h4] at h
  refine ⟨by omega, fun i hi => z2v h _ ?_⟩
  rw [List.getD_eq_getElem?_getD, List.getElem?_eq_getElem hi]; exact List.getElem_mem hi
theorem zbR {t : Nat} {last : Int} {ps : List Int} {i : Nat} (h : i < ps.length) (hx : ps.getD i 0 < 0 ∨ (t : Int) < ps.getD i 0) : pck t last (ps.drop i) = 6 := by
 rw [z1r h, pck, if_pos hx]
theorem zd3 {t : Nat} {last : Int} {ps : List Int} {i : Nat} (h : i < ps.length) (hx : ¬ (ps.getD i 0 < 0 ∨ (t : Int) < ps.getD i 0)) (hl : ps.getD i 0 ≤ last) : pck t last (ps.drop i) = 3 := by
 rw [z1r h, pck, if_neg hx, if_pos hl]
theorem zdB {t : Nat} {last : Int} {ps : List Int} {i : Nat} (h : i < ps.length) (hx : ¬ (ps.getD i 0 < 0 ∨ (t : Int) < ps.getD i 0)) (hl : ¬ ps.getD i 0 ≤ last) : pck t last (ps.drop i) = pck t (ps.getD i 0) (ps.drop (i + 1)) := by
 rw [z1r h, pck, if_neg hx, if_neg hl]
theorem z0k {t : Nat} {last : Int} {ps : List Int} {i : Nat} (h : i = ps.length) : pck t last (ps.drop i) = 0 := by
 rw [h, List.drop_length, pck]
def z0R (ps : List Int) (i : Nat) : Int := if i = 0 then -1 else ps.getD (i - 1) 0
theorem zcV {ps : List Int} {i : Nat} (h : (decide ((0 : Int) < (i : Int)) && decide (ps.getD i 0 ≤ ps.getD (i - 1) 0)) = true) : ps.getD i 0 ≤ z0R ps i := by
 rw [Bool.and_eq_true, decide_eq_true_eq, decide_eq_true_eq] at h
 rw [z0R, if_neg (by omega)]; exact h.2
theorem zi8 {ps : List Int} {i t : Nat} (hx : ¬ (ps.getD i 0 < 0 ∨ (t : Int) < ps.getD i 0)) (h : (decide ((0 : Int) < (i : Int)) && decide (ps.getD i 0 ≤ ps.getD (i - 1) 0)) = false) : ¬ ps.getD i 0 ≤ z0R ps i := by
 by_cases e : i = 0
 ·rw [z0R, if_pos e]; omega
 ·rw [z0R, if_neg e]
  rw [decide_eq_true (by omega), Bool.true_and, decide_eq_false_iff_not] at h
  exact h
def wn (us : List (List Nat)) (n : Int) : List (List Nat) := if n = 0 then us.set 0 (7 :: us.getD 0 []) else us.set (n.toNat - 1) (us.getD (n.toNat - 1) [] ++ [7])
theorem zde (us : List (List Nat)) (n : Int) : (wn us n).length = us.length := by unfold wn; split <;> simp
theorem z3x {us : List (List Nat)} {n : Int} (h : n = 0) : wn us n = us.set 0 (7 :: us.getD 0 []) := if_pos h
theorem z2W {us : List (List Nat)} {n : Int} {k : Nat} (h : n ≠ 0) (hk : n = (k : Int)) : wn us n = us.set (k - 1) (us.getD (k - 1) [] ++ [7]) := by
 subst hk; rw [wn, if_neg h]; rfl
theorem zg4 : ∀ b ∈ ([112, 115, 107] : List Nat), asp b = 0 := by decide
theorem zaq (w : List Nat) : Yx ([112, 115, 107, 32] ++ w) = 7 :: Yx w := by
 have h : Z6 [] ([112, 115, 107] ++ (32 :: w)) = [112, 115, 107] :: Z6 [] w := by
  rw [za9 [112, 115, 107] [] (32 :: w) zg4]
  simp [Z6, asp]
 unfold Yx z3V
 rw [show ([112, 115, 107, 32] ++ w : List Nat) = [112, 115, 107] ++ (32 :: w) from rfl, h, List.flatMap_cons]
 rfl
theorem z26 : ∀ (w cur : List Nat), Z6 cur (w ++ [32, 112, 115, 107]) = Z6 cur w ++ [[112, 115, 107]]
 | [], cur => by
  by_cases h : cur = [] <;> simp [Z6, asp, h]
 | b :: w, cur => by
  rw [List.cons_append, Z6, Z6]
  by_cases h : asp b = 0
  ·rw [if_pos h, if_pos h]
   exact z26 w (cur ++ [b])
  ·rw [if_neg h, if_neg h, z26 w []]
   split <;> rfl
theorem zb9 (w : List Nat) : Yx (w ++ [32, 112, 115, 107]) = Yx w ++ [7] := by
 unfold Yx z3V
 rw [z26, List.flatMap_append]
 rfl
theorem WE {L : List (List Nat)} {j : Nat} {w : List Nat} (f : List Nat → List Nat) (h : 2 ≤ j) : ((L.set j w).drop 2).map f = ((L.drop 2).map f).set (j - 2) (f w) := by
 rw [List.drop_set, if_neg (by omega), List.map_set]
theorem z4N {L : List (List Nat)} {j : Nat} (f : List Nat → List Nat) (h : j + 2 < L.length) : ((L.drop 2).map f).getD j [] = f (L.getD (j + 2) []) := by
 have h2 : j < (L.drop 2).length := by rw [List.length_drop]; omega
 rw [List.getD_eq_getElem?_getD, List.getElem?_map, List.getElem?_drop, Nat.add_comm 2 j, List.getD_eq_getElem?_getD, List.getElem?_eq_getElem h]
 rfl
theorem zbf {L : List (List Nat)} {n : Int} (h3 : 3 ≤ L.length) (h0 : 0 ≤ n) (hn : n ≤ ((L.length - 2 : Nat) : Int)) :
  ((z0L L n).drop 2).map Yx = wn ((L.drop 2).map Yx) n ∧ (z0L L n).getD 0 [] = L.getD 0 [] ∧ (z0L L n).getD 1 [] = L.getD 1 [] := by
 have other : ∀ {j k : Nat} {w : List Nat}, j ≠ k → (L.set j w).getD k [] = L.getD k [] := fun {j k w} hj => by
  rw [List.getD_eq_getElem?_getD, List.getElem?_set_ne hj, ← List.getD_eq_getElem?_getD]
 by_cases e : n = 0
 ·rw [zc0 e, z3x e]
  refine ⟨?_, other (by omega), other (by omega)⟩
  rw [WE Yx (Nat.le_refl 2), zaq, z4N Yx (by omega)]
 ·obtain ⟨k, rfl⟩ : ∃ k : Nat, n = (k : Int) := ⟨n.toNat, by omega⟩
  rw [zbl e rfl, z2W e rfl]
  refine ⟨?_, other (by omega), other (by omega)⟩
  rw [WE Yx (by omega), zb9, show 1 + k - 2 = k - 1 by omega, z4N Yx (by omega), show k - 1 + 2 = 1 + k by omega]
theorem z1D : ∀ (ps : List Int) (L : List (List Nat)) (last : Int), 3 ≤ L.length → (XG L last ps).1 = 0 →
  ((XG L last ps).2.drop 2).map Yx = ps.foldl wn ((L.drop 2).map Yx) ∧ (XG L last ps).2.getD 0 [] = L.getD 0 [] ∧ (XG L last ps).2.getD 1 [] = L.getD 1 []
 | [], L, _, _, _ => ⟨rfl, rfl, rfl⟩
 | n :: r, L, last, h3, h => by
  rw [XG] at h ⊢
  by_cases h1 : n < 0 ∨ ((L.length - 2 : Nat) : Int) < n
  ·rw [if_pos h1] at h; cases h
  ·rw [if_neg h1] at h ⊢
   by_cases h2 : n ≤ last
   ·rw [if_pos h2] at h; cases h
   ·rw [if_neg h2] at h ⊢
    obtain ⟨a1, a2, a3⟩ := zbf (L := L) (n := n) h3 (by omega) (by omega)
    obtain ⟨b1, b2, b3⟩ := z1D r (z0L L n) n (by rw [z6a]; exact h3) h
    rw [List.foldl_cons, b1, b2, b3, a1, a2, a3]
    exact ⟨rfl, rfl, rfl⟩
def bU (n : List Nat) : List (List Nat) := ((YQ n).drop 2).map Yx
def bQ (n : List Nat) (i : Nat) : List Nat := Yx ((YQ n).getD i [])
theorem zbg {n : List Nat} {ps : List Int} (h : (wP n ps).1 = 0) : wt n ps = ps.foldl wn (bU n) ∧ wq n ps 0 = bQ n 0 ∧ wq n ps 1 = bQ n 1 := by
 obtain ⟨h0, h4, _⟩ := YY h
 obtain ⟨hb1, _⟩ := z4T h0
 have e : wP n ps = XG (YQ n) (-1) ps := by rw [wP, if_neg h0, if_neg (by omega)]
 rw [e] at h
 obtain ⟨a1, a2, a3⟩ := z1D ps (YQ n) (-1) (by omega) h
 refine ⟨by unfold wt bU; rw [e]; exact a1, by unfold wq bQ; rw [e, a2], by unfold wq bQ; rw [e, a3]⟩
theorem z1X {n : List Nat} (h : Za n ≠ []) : (bU n).length = (YQ n).length - 2 ∧ 2 ≤ (bU n).length ∧ (bU n).length ≤ 3 ∧ ∀ q ∈ bU n, q.length ≤ 4 := by
 rcases X3 h with rfl | rfl | rfl | rfl | rfl | rfl | rfl <;> decide +kernel
theorem Xk (ps : List Int) : ∀ us : List (List Nat), (ps.foldl wn us).length = us.length := by
 induction ps with
 | nil => intro us; rfl
 | cons n r ih => intro us; rw [List.foldl_cons, ih, zde]
theorem vT {us : List (List Nat)} {ps : List Int} {i : Nat} (h : i < ps.length) : (ps.take (i + 1)).foldl wn us = wn ((ps.take i).foldl wn us) (ps.getD i 0) := by
 rw [List.take_add_one, List.getElem?_eq_getElem h, List.foldl_append, List.getD_eq_getElem?_getD, List.getElem?_eq_getElem h]; rfl
theorem z0U {us : List (List Nat)} {n : Int} {k : Nat} (h : ∀ q ∈ us, q.length ≤ k) : ∀ q ∈ wn us n, q.length ≤ k + 1 := by
 have at_ : ∀ j, (us.getD j []).length ≤ k := fun j => by
  by_cases hj : j < us.length
  ·rw [List.getD_eq_getElem?_getD, List.getElem?_eq_getElem hj]; exact h _ (List.getElem_mem hj)
  ·rw [List.getD_eq_getElem?_getD, List.getElem?_eq_none (by omega)]; exact Nat.zero_le _
 intro q hq
 unfold wn at hq
 split at hq
 ·rcases List.mem_or_eq_of_mem_set hq with h1 | rfl
  ·have := h q h1; omega
  ·have := at_ 0; simp only [List.length_cons]; omega
 ·rcases List.mem_or_eq_of_mem_set hq with h1 | rfl
  ·have := h q h1; omega
  ·have := at_ (n.toNat - 1); simp only [List.length_append, List.length_cons, List.length_nil]; omega
def ZK (l p : List Nat) : Bool := decide ((p.length : Int) ≤ l.length) && decide (l.take p.length = p)
def xD (l p : List Nat) : List Nat := if ZK l p = true then l.drop p.length else l
def WL (l p : List Nat) : Bool := decide ((p.length : Int) ≤ l.length) && decide (l.drop (l.length - p.length) = p)
def z4Z (l p : List Nat) : List Nat := if WL l p = true then l.take (l.length - p.length) else l
theorem z5v {l p : List Nat} (h : ZK l p = true) : p.length ≤ l.length ∧ l.take p.length = p := by
 simp only [ZK, Bool.and_eq_true, decide_eq_true_eq] at h
 exact ⟨by omega, h.2⟩
theorem zhe {l p : List Nat} (h : WL l p = true) : p.length ≤ l.length ∧ l.drop (l.length - p.length) = p := by
 simp only [WL, Bool.and_eq_true, decide_eq_true_eq] at h
 exact ⟨by omega, h.2⟩
theorem ZQ (l p : List Nat) : (xD l p).length ≤ l.length := by unfold xD; split <;> simp
theorem X8 {l p : List Nat} {b : Nat} (h : b ∈ xD l p) : b ∈ l := by
 unfold xD at h
 split at h
 ·exact List.mem_of_mem_drop h
 ·exact h
theorem wr (n : List Nat) : Xx n = (!(ZK n hdN) || !(WL (xD n hdN) tlN)) := by
 have e6 : hdN.length = 6 := rfl
 have e25 : tlN.length = 25 := rfl
 cases h : ZK n hdN with
 | false =>
  simp only [ZK, Bool.and_eq_false_iff, decide_eq_false_iff_not, e6] at h
  rcases h with h | h
  ·have : decide ((n.length : Int) < 6) = true := decide_eq_true (by omega)
   rw [Xx, this]; simp
  ·have : decide (n.take 6 ≠ hdN) = true := decide_eq_true h
   rw [Xx, this]; simp
 | true =>
  obtain ⟨h1, h2⟩ := z5v h
  rw [e6] at h1 h2
  have c : xD n hdN = n.drop 6 := by rw [xD, if_pos h]; rfl
  have q1 : decide ((n.length : Int) < 6) = false := decide_eq_false (by omega)
  have q2 : decide (n.take 6 ≠ hdN) = false := decide_eq_false (fun x => x h2)
  rw [Xx, q1, q2, c, WL, e25]
  have l1 : (n.drop 6).length = n.length - 6 := List.length_drop
  by_cases h31 : n.length < 31
  ·have q3 : decide ((n.length : Int) < 31) = true := decide_eq_true (by omega)
   have q4 : decide (((25 : Nat) : Int) ≤ ((n.drop 6).length : Int)) = false := decide_eq_false (by omega)
   rw [q3, q4]; rfl
  ·have q3 : decide ((n.length : Int) < 31) = false := decide_eq_false (by omega)
   have q4 : decide (((25 : Nat) : Int) ≤ ((n.drop 6).length : Int)) = true := decide_eq_true (by omega)
   have e : (n.drop 6).drop ((n.drop 6).length - 25) = n.drop (n.length - 25) := by
    rw [List.drop_drop, l1]; congr 1; omega
   rw [q3, q4, e]
   by_cases ht : n.drop (n.length - 25) = tlN
   ·rw [decide_eq_true ht, decide_eq_false (fun x => x ht)]; rfl
   ·rw [decide_eq_false ht, decide_eq_true ht]; rfl
theorem Zq {n : List Nat} (h : Xx n = false) : z4Z (xD n hdN) tlN = zQ n := by
 rw [wr] at h
 simp only [Bool.or_eq_false_iff, Bool.not_eq_false'] at h
 rw [z4Z, if_pos h.2, xD, if_pos h.1, zQ, show hdN.length = 6 from rfl, show tlN.length = 25 from rfl, List.length_drop, show n.length - 6 - 25 = n.length - 25 - 6 by omega]
def xI (l : List Nat) (c : Nat) : List Nat := match ixb l c with | some i => l.take i | none => l
def XP (l : List Nat) (c : Nat) : List Nat := match ixb l c with | some i => l.drop (i + 1) | none => []
theorem z8g : ∀ {l : List Nat} {c : Nat}, ixb l c = none → l.count c = 0
 | [], _, _ => rfl
 | b :: l, c, h => by
  rw [ixb] at h
  by_cases e : b = c
  ·rw [if_pos e] at h; cases h
  ·rw [if_neg e] at h
   rw [List.count_cons_of_ne (by simpa using e)]
   refine z8g (l := l) ?_
   cases h2 : ixb l c with
   | none => rfl
   | some j => rw [h2] at h; cases h
def wK (w : List Nat) : Bool := !(ZK w PSK) || decide (((xD w PSK).length : Int) ≠ 1) || decide (((xD w PSK).getD 0 0 : Int) < 48) || decide ((57 : Int) < ((xD w PSK).getD 0 0 : Int))
def plD (w : List Nat) : Nat := (xD w PSK).getD 0 0 - 48
def xx : List (List Nat) → Option (List Nat)
 | [] => some []
 | w :: r => if wK w = true then none else (xx r).map (plD w :: ·)
theorem ziv {all : Option (List Nat)} {pre S : List Nat} {i : Nat} (h : all = z17 pre (xx (yl S 43))) (hi : ixb S 43 = some i) (hb : wK (S.take i) = false) : all = z17 (pre ++ [plD (S.take i)]) (xx (yl (S.drop (i + 1)) 43)) := by
 rw [h, YT hi, xx, if_neg (by rw [hb]; decide)]
 cases xx (yl (S.drop (i + 1)) 43) with
 | none => rfl
 | some x => simp [z17]
theorem zhV {all : Option (List Nat)} {pre S : List Nat} (h : all = z17 pre (xx (yl S 43))) (hi : ixb S 43 = none) (hb : wK S = false) : all = some (pre ++ [plD S]) := by
 rw [h, X7 (z8g hi), xx, if_neg (by rw [hb]; decide), xx]
 rfl
theorem zmg {all : Option (List Nat)} {pre S : List Nat} (h : all = z17 pre (xx (yl S 43))) (hb : wK (xI S 43) = true) : all = none := by
 cases hi : ixb S 43 with
 | none =>
  rw [xI, hi] at hb
  rw [h, X7 (z8g hi), xx, if_pos hb]; rfl
 | some i =>
  rw [xI, hi] at hb
  rw [h, YT hi, xx, if_pos hb]; rfl
theorem VW {all : Option (List Nat)} {pre S : List Nat} (h : all = z17 pre (xx (yl S 43))) (hs : (ixb S 43).isSome = true) (hb : wK (xI S 43) = false) : all = z17 (pre ++ [plD (xI S 43)]) (xx (yl (XP S 43) 43)) ∧ (XP S 43).length < S.length := by
 cases hi : ixb S 43 with
 | none => rw [hi] at hs; cases hs
 | some i =>
  have hl := (Vq hi).1
  rw [xI, hi] at hb
  rw [xI, XP, hi]
  exact ⟨ziv h hi hb, by rw [List.length_drop]; omega⟩
theorem z3F {all : Option (List Nat)} {pre S : List Nat} (h : all = z17 pre (xx (yl S 43))) (hs : (ixb S 43).isSome = false) (hb : wK (xI S 43) = false) : all = some (pre ++ [plD (xI S 43)]) := by
 cases hi : ixb S 43 with
 | some i => rw [hi] at hs; cases hs
 | none =>
  rw [xI, hi] at hb
  rw [xI, hi]
  exact zhV h hi hb
theorem z4V {S : List Nat} {c b : Nat} (h : b ∈ xI S c) : b ∈ S := by
 unfold xI at h
 split at h
 ·exact List.mem_of_mem_take h
 ·exact h
theorem WD {S : List Nat} {c b : Nat} (h : b ∈ XP S c) : b ∈ S := by
 unfold XP at h
 split at h
 ·exact List.mem_of_mem_drop h
 ·simp at h
theorem zmD {w : List Nat} (h : wK w = false) : (xD w PSK).length = 1 ∧ 48 ≤ (xD w PSK).getD 0 0 ∧ (xD w PSK).getD 0 0 ≤ 57 := by
 simp only [wK, Bool.or_eq_false_iff, Bool.not_eq_false', decide_eq_false_iff_not] at h
 obtain ⟨⟨⟨_, h2⟩, h3⟩, h4⟩ := h
 omega
theorem Yt {pre : List Nat} {x : Nat} (h : ¬ (pre.take 5).length ≤ 4) : (pre ++ [x]).take 5 = pre.take 5 := by
 have : 5 ≤ pre.length := by rw [List.length_take] at h; omega
 rw [List.take_append_of_le_length this]
theorem yI {pre : List Nat} {x : Nat} (h : (pre.take 5).length ≤ 4) : (pre ++ [x]).take 5 = pre.take 5 ++ [x] := by
 have : pre.length ≤ 4 := by rw [List.length_take] at h; omega
 rw [List.take_of_length_le (by simp; omega), List.take_of_length_le (by omega)]
theorem zdW {b ds : List Nat} (h : (wP b (ci ds)).1 = 0) : ds.take 5 = ds := by
 have := (YY h).2.1
 exact List.take_of_length_le (by simp only [ci, List.length_map] at this; omega)
def Yo (c : Nat) : List (List Nat) → List Nat
 | [] => []
 | w :: r => w ++ r.flatMap (c :: ·)
def ZT (n : Int) : List Nat := [112, 115, 107, zjB n]
theorem z5m (ps : List Int) : ∀ i, i ≤ ps.length → Yo 43 ((ps.take i).map ZT) = pmd ps i
 | 0, _ => by simp [Yo, pmd]
 | i + 1, h => by
  rw [pmd, ← z5m ps i (by omega)]
  have e : (ps.take (i + 1)).map ZT = (ps.take i).map ZT ++ [ZT (ps.getD i 0)] := by
   rw [List.take_add_one, List.getElem?_eq_getElem (by omega), List.map_append, List.getD_eq_getElem?_getD, List.getElem?_eq_getElem (by omega)]; rfl
  rw [e]
  cases i with
  | zero => simp [Yo, ZT]
  | succ i =>
   rw [if_pos (by omega)]
   cases hw : (ps.take (i + 1)).map ZT with
   | nil =>
    have := congrArg List.length hw
    rw [List.length_map, List.length_take, List.length_nil] at this
    omega
   | cons w r => simp [Yo, List.append_assoc, ZT]
theorem z5L (ps : List Int) : Yo 43 (ps.map ZT) = pmd ps ps.length := by
 rw [← z5m ps ps.length (Nat.le_refl _), List.take_length]
theorem z6q {ps : List Int} {i : Nat} (h : i < ps.length) : (ps.take (i + 1)).map ZT = (ps.take i).map ZT ++ [ZT (ps.getD i 0)] := by
 rw [List.take_add_one, List.getElem?_eq_getElem h, List.map_append, List.getD_eq_getElem?_getD, List.getElem?_eq_getElem h]; rfl
theorem zlQ {z : Nat} (h : z ≤ 9) : (([48, 49, 50, 51, 52, 53, 54, 55, 56, 57, 97, 98, 99, 100, 101, 102, 103, 104, 105, 106, 107, 108, 109, 110, 111, 112, 113, 114, 115, 116, 117, 118, 119, 120, 121, 122] : List Nat).drop z).take (z + 1 - z) = [48 + z] := by
 have : z = 0 ∨ z = 1 ∨ z = 2 ∨ z = 3 ∨ z = 4 ∨ z = 5 ∨ z = 6 ∨ z = 7 ∨ z = 8 ∨ z = 9 := by omega
 rcases this with rfl | rfl | rfl | rfl | rfl | rfl | rfl | rfl | rfl | rfl <;> rfl
theorem zaP : ∀ ws : List (List Nat), Lib.join (ws.map fun w => w.map UInt8.ofNat) [43] = (Yo 43 ws).map UInt8.ofNat
 | [] => rfl
 | w :: r => by
  rw [List.map_cons, Lib.join_cons, Yo, List.map_append]
  congr 1
  induction r with
  | nil => rfl
  | cons x r ih =>
   rw [Lib.joinTail] at ih ⊢
   rw [List.map_cons, List.map_cons, List.flatten_cons, ih, List.flatMap_cons, List.map_append, List.map_cons]
   rfl
theorem z6X {n : Int} (h0 : 0 ≤ n) (h9 : n ≤ 9) : zjB n = 48 + n.toNat := by
 unfold zjB; omega
end Go.Proofs.YtacflmjoigffpaaGreatDoor
