import Derived.Test.YtacflmjoigffpaaGreatDoorKX1
import Derived.Laws.BytesArg
import Derived.Laws.MakeOwn
import Derived.Laws.AppendOwn
import Derived.Laws.Concat
import Derived.Laws.Strings
import Derived.Laws.CopyRow
namespace Go.Proofs.YtacflmjoigffpaaGreatDoor
theorem zen (x : Nat) : (x &&& 4294967295) % 18446744073709551616 = x % 4294967296 := by
 rw [show (4294967295 : Nat) = 2 ^ 32 - 1 by decide, Nat.and_two_pow_sub_one_eq_mod]
 omega
theorem zgv (x y : Nat) (hx : x < 18446744073709551616) (hy : y < 18446744073709551616) :
  ((x / 2 ^ 32 * (y / 2 ^ 32) % 18446744073709551616 + (x / 2 ^ 32 * ((y &&& 4294967295) % 18446744073709551616) % 18446744073709551616 + ((x &&& 4294967295) % 18446744073709551616 * ((y &&& 4294967295) % 18446744073709551616) % 18446744073709551616) / 2 ^ 32) % 18446744073709551616 / 2 ^ 32) % 18446744073709551616
   + ((((x / 2 ^ 32 * ((y &&& 4294967295) % 18446744073709551616) % 18446744073709551616 + ((x &&& 4294967295) % 18446744073709551616 * ((y &&& 4294967295) % 18446744073709551616) % 18446744073709551616) / 2 ^ 32) % 18446744073709551616 &&& 4294967295) % 18446744073709551616 + (x &&& 4294967295) % 18446744073709551616 * (y / 2 ^ 32) % 18446744073709551616) % 18446744073709551616) / 2 ^ 32) % 18446744073709551616
  = x * y / 18446744073709551616 := by
 rw [zen x, zen y, zen]
 have hx0 : x % 4294967296 ≤ 4294967295 := by omega
 have hy0 : y % 4294967296 ≤ 4294967295 := by omega
 have hx1 : x / 2 ^ 32 ≤ 4294967295 := by omega
 have hy1 : y / 2 ^ 32 ≤ 4294967295 := by omega
 have ex : x = x / 2 ^ 32 * 4294967296 + x % 4294967296 := by omega
 have ey : y = y / 2 ^ 32 * 4294967296 + y % 4294967296 := by omega
 generalize x / 2 ^ 32 = x1 at *
 generalize x % 4294967296 = x0 at *
 generalize y / 2 ^ 32 = y1 at *
 generalize y % 4294967296 = y0 at *
 have exy : x * y = x1 * y1 * 18446744073709551616 + (x1 * y0 + x0 * y1) * 4294967296 + x0 * y0 := by
  rw [ex, ey]
  rw [Nat.add_mul, Nat.mul_add, Nat.mul_add, Nat.add_mul]
  have e1 : x1 * 4294967296 * (y1 * 4294967296) = x1 * y1 * 18446744073709551616 := by
   rw [Nat.mul_assoc, Nat.mul_left_comm 4294967296, ← Nat.mul_assoc, ← Nat.mul_assoc, Nat.mul_assoc (x1 * y1)]
  have e2 : x1 * 4294967296 * y0 = x1 * y0 * 4294967296 := by rw [Nat.mul_assoc, Nat.mul_comm 4294967296, ← Nat.mul_assoc]
  have e3 : x0 * (y1 * 4294967296) = x0 * y1 * 4294967296 := by rw [Nat.mul_assoc]
  omega
 have p11 := Nat.mul_le_mul hx1 hy1
 have p10 := Nat.mul_le_mul hx1 hy0
 have p01 := Nat.mul_le_mul hx0 hy1
 have p00 := Nat.mul_le_mul hx0 hy0
 rw [exy]
 clear exy ex ey hx hy hx0 hx1 hy0 hy1
 generalize x1 * y1 = a at *
 generalize x1 * y0 = b at *
 generalize x0 * y1 = c at *
 generalize x0 * y0 = d at *
 omega
theorem z3N {a b : Nat} (ha : a < 18446744073709551616) (hb : b < 18446744073709551616) : a * b ≤ 340282366920938463426481119284349108225 :=
 Nat.mul_le_mul (show a ≤ 18446744073709551615 by omega) (show b ≤ 18446744073709551615 by omega)
theorem za5 (p c d : Nat) : ((p % 18446744073709551616 + c + 0) % 18446744073709551616 + d + 0) % 18446744073709551616 = (p + c + d) % 18446744073709551616 := by omega
theorem za3 (p c d : Nat) (hp : p ≤ 340282366920938463426481119284349108225) (hc : c < 18446744073709551616) (hd : d < 18446744073709551616) :
  ((p / 18446744073709551616 + (p % 18446744073709551616 + c + 0) / 18446744073709551616) % 18446744073709551616 + ((p % 18446744073709551616 + c + 0) % 18446744073709551616 + d + 0) / 18446744073709551616) % 18446744073709551616 = (p + c + d) / 18446744073709551616 := by omega
theorem zkH (x k t : Nat) (h : t < k) : wd (x % 2 ^ (64 * k)) t = wd x t := by
 have e : x = x % 2 ^ (64 * k) + x / 2 ^ (64 * k) * 2 ^ (64 * k) := by
  have := Nat.div_add_mod x (2 ^ (64 * k))
  rw [Nat.mul_comm] at this
  omega
 conv => rhs; rw [e]
 rw [Yd _ _ t k h]
theorem Zn {x t : Nat} (h : x < 2 ^ (64 * t)) : wd x t = 0 := by unfold wd; rw [Nat.div_eq_of_lt h]
def wS (a b k j : Nat) : Nat := (a % 2 ^ (64 * k) * b) % 2 ^ (64 * (k + j)) + wd a k * (b % 2 ^ (64 * j)) * 2 ^ (64 * k)
def wO (a b k j : Nat) : Nat := wS a b k j / 2 ^ (64 * (k + j))
theorem z4v (a b k : Nat) : wO a b k 0 = 0 := by
 unfold wO wS
 simp only [Nat.mul_zero, Nat.pow_zero, Nat.mod_one, Nat.mul_zero, Nat.zero_mul, Nat.add_zero]
 exact Nat.div_eq_of_lt (Nat.mod_lt _ (zJ k))
theorem z8H (a b k t : Nat) (h : t < k) : wd (wS a b k 0) t = wd (a % 2 ^ (64 * k) * b) t := by
 unfold wS
 simp only [Nat.mul_zero, Nat.pow_zero, Nat.mod_one, Nat.mul_zero, Nat.zero_mul, Nat.add_zero]
 exact zkH _ _ _ h
theorem z46 (a b k j : Nat) : wS a b k (j + 1) = wS a b k j + (wd (a % 2 ^ (64 * k) * b) (k + j) + wd a k * wd b j) * 2 ^ (64 * (k + j)) := by
 unfold wS
 rw [show k + (j + 1) = k + j + 1 by omega, xv, xv b]
 have e : wd a k * (b % 2 ^ (64 * j) + wd b j * 2 ^ (64 * j)) * 2 ^ (64 * k) = wd a k * (b % 2 ^ (64 * j)) * 2 ^ (64 * k) + wd a k * wd b j * 2 ^ (64 * (k + j)) := by
  rw [Nat.mul_add, Nat.add_mul]
  congr 1
  rw [show 64 * (k + j) = 64 * j + 64 * k by omega, Nat.pow_add]
  simp only [Nat.mul_assoc]
 rw [e, Nat.add_mul]
 omega
theorem zjP (a b k j : Nat) : (wd a k * wd b j + wd (a % 2 ^ (64 * k) * b) (k + j) + wO a b k j) % 18446744073709551616 = wd (wS a b k (j + 1)) (k + j) := by
 rw [z46, z2u]
 unfold wO
 congr 1; omega
theorem z4x (a b k j : Nat) : (wd a k * wd b j + wd (a % 2 ^ (64 * k) * b) (k + j) + wO a b k j) / 18446744073709551616 = wO a b k (j + 1) := by
 unfold wO
 rw [z46, show k + (j + 1) = k + j + 1 by omega, Wj]
 congr 1; omega
theorem zbL (a b k j t : Nat) (h : t < k + j) : wd (wS a b k (j + 1)) t = wd (wS a b k j) t := by
 rw [z46, Yd _ _ t _ h]
theorem zkf (a b k j : Nat) (hj : j ≤ 4) : wO a b k j < 18446744073709551616 := by
 induction j with
 | zero => rw [z4v]; decide
 | succ j ih =>
  rw [← z4x]
  have h1 := z3N (xE a k) (xE b j)
  have h2 := xE (a % 2 ^ (64 * k) * b) (k + j)
  have h3 := ih (by omega)
  omega
theorem z32 {a b k j : Nat} {s : Nat → Nat} (h1 : ∀ t, t < k + j → s t = wd (wS a b k j) t) : ∀ t, t < k + (j + 1) →
  upd s (k + j) ((wd a k * wd b j + wd (a % 2 ^ (64 * k) * b) (k + j) + wO a b k j) % 18446744073709551616) t = wd (wS a b k (j + 1)) t := fun t ht => by
 unfold upd
 split
 ·rename_i h; subst h; exact zjP a b k j
 ·rw [zbL a b k j t (by omega)]; exact h1 t (by omega)
theorem zcQ {a b k : Nat} {s : Nat → Nat} (hb : b < 2 ^ 256) (h1 : ∀ t, t < k + 4 → s t = wd (wS a b k 4) t) (h2 : ∀ t, k + 4 ≤ t → t < 8 → s t = wd (a % 2 ^ (64 * k) * b) t) :
  ∀ t, t < 8 → upd s (k + 4) (wO a b k 4) t = wd (a % 2 ^ (64 * (k + 1)) * b) t := fun t ht => by
 have hA : a % 2 ^ (64 * k) * b < 2 ^ (64 * (k + 4)) := by
  have := Nat.mod_lt a (zJ k)
  rw [show 64 * (k + 4) = 64 * k + 256 by omega, Nat.pow_add]
  exact Nat.lt_of_le_of_lt (Nat.mul_le_mul_left _ (Nat.le_of_lt hb)) ((Nat.mul_lt_mul_right (by decide)).2 this)
 have hA' : a % 2 ^ (64 * (k + 1)) * b < 2 ^ (64 * (k + 5)) := by
  have := Nat.mod_lt a (zJ (k + 1))
  rw [show 64 * (k + 5) = 64 * (k + 1) + 256 by omega, Nat.pow_add]
  exact Nat.lt_of_le_of_lt (Nat.mul_le_mul_left _ (Nat.le_of_lt hb)) ((Nat.mul_lt_mul_right (by decide)).2 this)
 have e : wS a b k 4 = a % 2 ^ (64 * (k + 1)) * b := by
  unfold wS
  rw [Nat.mod_eq_of_lt hA, Nat.mod_eq_of_lt (show b < 2 ^ (64 * 4) from hb), xv, Nat.add_mul]
  congr 1
  rw [Nat.mul_assoc, Nat.mul_assoc, Nat.mul_comm b]
 unfold upd
 split
 ·rename_i h; subst h
  unfold wO wd
  rw [e]
  refine (Nat.mod_eq_of_lt ?_).symm
  rw [Nat.div_lt_iff_lt_mul (zJ _), Nat.mul_comm 18446744073709551616, ← ZW]
  exact hA'
 ·rename_i h
  by_cases h3 : t < k + 4
  ·rw [h1 t h3, e]
  ·rw [h2 t (by omega) ht, Zn (Nat.lt_of_lt_of_le hA (Nat.pow_le_pow_right (by decide) (by omega))), Zn (Nat.lt_of_lt_of_le hA' (Nat.pow_le_pow_right (by decide) (by omega)))]
def pS (x k : Nat) : Nat := x % 2 ^ (64 * k) + 38 * (x / 2 ^ 256 % 2 ^ (64 * k))
theorem zo9 (x k : Nat) : wd x (k + 4) = wd (x / 2 ^ 256) k := by
 unfold wd
 rw [Nat.div_div_eq_div_mul, ← Nat.pow_add, show 256 + 64 * k = 64 * (k + 4) by omega]
theorem z3S (x k : Nat) : pS x (k + 1) = pS x k + (wd x (k + 4) * 38 + wd x k) * 2 ^ (64 * k) := by
 unfold pS
 rw [xv, xv (x / 2 ^ 256), zo9, Nat.add_mul, Nat.mul_add, Nat.mul_comm _ 38, Nat.mul_assoc 38]
 omega
theorem zob (x k : Nat) : (wd x (k + 4) * 38 + wd x k + pS x k / 2 ^ (64 * k)) % 18446744073709551616 = wd (pS x (k + 1)) k := by
 rw [z3S, z2u]; congr 1; omega
theorem znE (x k : Nat) : (wd x (k + 4) * 38 + wd x k + pS x k / 2 ^ (64 * k)) / 18446744073709551616 = pS x (k + 1) / 2 ^ (64 * (k + 1)) := by
 rw [z3S, Wj]; congr 1; omega
theorem zhD (x : Nat) : pS x 0 / 2 ^ (64 * 0) = 0 := by simp [pS, Nat.mod_one]
theorem znb (x k : Nat) : pS x k / 2 ^ (64 * k) < 39 := by
 rw [Nat.div_lt_iff_lt_mul (zJ k)]
 unfold pS
 have h1 := Nat.mod_lt x (zJ k)
 have h2 := Nat.mod_lt (x / 2 ^ 256) (zJ k)
 omega
theorem zkK {x k : Nat} {s : Nat → Nat} (h : ∀ t, t < k → s t = wd (pS x k) t) : ∀ t, t < k + 1 → upd s k ((wd x (k + 4) * 38 + wd x k + pS x k / 2 ^ (64 * k)) % 18446744073709551616) t = wd (pS x (k + 1)) t := fun t ht => by
 unfold upd
 split
 ·rename_i e; subst e; exact zob x t
 ·rw [z3S, Yd _ _ t k (by omega)]; exact h t (by omega)
theorem zmy (x : Nat) (hx : x < 2 ^ 256 * 2 ^ 256) : (pS x 4 % 2 ^ 256 + pS x 4 / 2 ^ (64 * 4) * 2 ^ 256) % PP = x % PP := by
 have e1 : pS x 4 % 2 ^ 256 + pS x 4 / 2 ^ (64 * 4) * 2 ^ 256 = pS x 4 := by
  have := Nat.div_add_mod (pS x 4) (2 ^ 256)
  rw [Nat.mul_comm] at this
  show pS x 4 % 2 ^ 256 + pS x 4 / 2 ^ 256 * 2 ^ 256 = _
  omega
 rw [e1]
 unfold pS
 have h1 : x / 2 ^ 256 < 2 ^ 256 := by
  rw [Nat.div_lt_iff_lt_mul (Nat.pow_pos (by decide))]; exact hx
 rw [Nat.mod_eq_of_lt (show x / 2 ^ 256 < 2 ^ (64 * 4) from h1)]
 have e2 := Nat.div_add_mod x (2 ^ 256)
 show (x % 2 ^ 256 + 38 * (x / 2 ^ 256)) % PP = x % PP
 generalize x / 2 ^ 256 = h at *
 generalize x % 2 ^ 256 = l at *
 have e3 : x = l + 38 * h + PP * (2 * h) := by unfold PP; omega
 rw [e3, Nat.add_mul_mod_self_left]
theorem zc2 {a b : Nat} (ha : a < 2 ^ 256) (hb : b < 2 ^ 256) : a * b < 2 ^ 256 * 2 ^ 256 := Nat.mul_lt_mul_of_lt_of_le ha (Nat.le_of_lt hb) (by decide)
abbrev EE : Nat := 57896044618658097711785492504343953926634992332820282019728792003956564819947
theorem z9f : ∀ k, k < 255 → EE / 2 ^ (255 - (k + 1)) = 2 * (EE / 2 ^ (255 - k)) + (if k = 252 ∨ k = 250 then 0 else 1) := by
 have h : (List.range 255).all (fun k => EE / 2 ^ (255 - (k + 1)) == 2 * (EE / 2 ^ (255 - k)) + (if k = 252 ∨ k = 250 then 0 else 1)) = true := by decide +kernel
 intro k hk
 have := (List.all_eq_true.1 h) k (by simpa using hk)
 simpa using this
theorem zd7 (a e : Nat) : (a ^ e % PP) * (a ^ e % PP) % PP = a ^ (2 * e) % PP := by
 rw [← Nat.mul_mod, ← Nat.pow_add, Nat.two_mul]
theorem z4t (a e : Nat) : (a ^ e % PP) * a % PP = a ^ (e + 1) % PP := by
 rw [Nat.pow_succ, Nat.mul_mod, Nat.mod_mod, ← Nat.mul_mod]
theorem z6J (a k pw : Nat) (hk : k < 255) (h : k = 252 ∨ k = 250) (hp : pw = a ^ (EE / 2 ^ (255 - k)) % PP) : pw * pw % PP = a ^ (EE / 2 ^ (255 - (k + 1))) % PP := by
 rw [z9f k hk, if_pos h, hp, zd7, Nat.add_zero]
theorem zfr (a k pw : Nat) (hk : k < 255) (h : ¬ (k = 252 ∨ k = 250)) (hp : pw = a ^ (EE / 2 ^ (255 - k)) % PP) : (pw * pw % PP) * a % PP = a ^ (EE / 2 ^ (255 - (k + 1))) % PP := by
 rw [z9f k hk, if_neg h, hp, zd7, z4t]
theorem zbv (a : Nat) : 1 = a ^ (EE / 2 ^ (255 - 0)) % PP := by
 rw [show EE / 2 ^ (255 - 0) = 0 by decide, Nat.pow_zero]; decide
theorem zdU (a : Nat) : a ^ (EE / 2 ^ (255 - 255)) = a ^ EE := by
 rw [show EE / 2 ^ (255 - 255) = EE by decide]
theorem zis (a b : Nat) (ha : a < PP) (hb : b < PP) : ((a + 2 ^ 256 - b) % 2 ^ 256 + PP * (if a < b then 1 else 0)) % 2 ^ 256 = (a + PP - b) % PP := by
 unfold PP at *
 split <;> omega
end Go.Proofs.YtacflmjoigffpaaGreatDoor
namespace Go.Proofs.YtacflmjoigffpaaGreatDoor
theorem Vg (a b : Nat) (hb : b < PP) : (a + (PP - b) % PP) % PP = (a + PP - b) % PP := by
 rw [Nat.add_mod, Nat.mod_mod, ← Nat.add_mod]
 congr 1; omega
end Go.Proofs.YtacflmjoigffpaaGreatDoor
namespace Go.Proofs.YtacflmjoigffpaaGreatDoor
open Go Go.RowKit
variable {P : Program} {G : Mem} {R : Reg} {ops : Array Oper} {n : Nat} {K : Env → Mm → Prop} {rest : List Oper} {E : Env} {M : Mm} {d : Nat} {ty : TypeId} {pos : String} {aft : Array Edge}
variable {T T' : TypeId} {x y : Operand}
theorem zdl (k : IntKind) (N o l : Nat) (f : Nat → Nat) (h : o + l ≤ N) : (arr k N f).extract o (o + l) = arr k l (fun t => f (o + t)) := by
 apply Array.ext
 ·simp [arr]; omega
 ·intro i h1 h2
  simp [arr]
theorem zhC {b i o l N : Nat} {k : IntKind} {f : Nat → Nat} {t : TypeId} {td : TypeDesc} (hT : P.underlying T = some td) (hn : zE td = true) (hs : (P.info? T).map (·.size) = some l)
  (hx : rd E x = some (.pointer (some ⟨b, o, none⟩))) (hm : lkM M i = some ⟨b, arr k N f, t⟩) (ho : o + l ≤ N) (hd : Nat.blt d n = true) (hX : ∃ js, Zb M i js R) (h : z4 P G R ops n K rest ((d, .agg (arr k l (fun t => f (o + t)))) :: E) M) :
  z4 P G R ops n K (⟨some d, .load T x, ty, pos, aft, none⟩ :: rest) E M :=
 fun _ _ ha hM => by
  obtain ⟨j, hj⟩ := hM.at hm
  exact z5t hT hn hs (ha.rd hx) hj (by obtain ⟨js, hjs⟩ := hX; exact YJ hM hm hjs) (by rw [zH]; exact ho) (by rw [zdl k N o l f ho]; exact h _ _ (ha.put hd _) hM)
theorem yn {z : Value} {fs : Array Field} {places : Array (Nat × Nat)} {parts : Array (Nat × Operand)} {pv : List (Nat × Value)} (c : Array Value) (hz : (P.info? T).bind (·.zero) = some z) (hT : P.underlying T = some (.struct fs))
  (hpl : ∀ w, (fs.mapM fun f => do pure (f.offset, ← sizeOf f.type) : Sem (Array (Nat × Nat))).run P w = .ok places w)
  (hp : rdp E parts.toList = some pv) (hf : Instr.fill (places[·]?) z.cells pv = some c) (hd : Nat.blt d n = true)
  (h : z4 P G R ops n K rest ((d, .agg c) :: E) M) : z4 P G R ops n K (⟨some d, .build T parts, ty, pos, aft, none⟩ :: rest) E M :=
 fun _ _ ha hM => zaU hz hT hpl (ha.rdp hp) hf (h _ _ (ha.put hd _) hM)
end Go.Proofs.YtacflmjoigffpaaGreatDoor
namespace Go.Proofs.YtacflmjoigffpaaGreatDoor
open Go Go.RowKit
variable {P : Program} {G : Mem} {R : Reg} {ops : Array Oper} {K : Act → Mem → Prop} {rest : List Oper} {a : Act} {m : Mem} {d : Option Tmp} {ty : TypeId} {pos : String} {aft : Array Edge}
variable {T T' : TypeId} {x y : Operand}
theorem zeO (p q : Nat) : IntKind.u64.wrap ((BitVec.ofNat 64 p ^^^ BitVec.ofNat 64 q).toNat : Int) = ((p ^^^ q : Nat) : Int) % 18446744073709551616 := by
 rw [xG]
 rw [BitVec.toNat_xor, BitVec.toNat_ofNat, BitVec.toNat_ofNat, ← Nat.xor_mod_two_pow]
 omega
theorem zf9 {p q : Nat} (hx : a.eval x = u p) (hy : a.eval y = u q) (h : zd P G R ops K rest (a.put d (u ((p ^^^ q) % 18446744073709551616))) m) :
  zd P G R ops K (⟨d, .binOp .xor T x y T', ty, pos, aft, none⟩ :: rest) a m :=
 zI (fun w => by
  have := zeO p q
  simp only [hx, hy, eqGuard, binOp, Op.intBits, IntKind.bits]
  simp
  exact this) h
theorem zau (p q : Nat) : IntKind.u8.wrap ((BitVec.ofNat 8 p &&& BitVec.ofNat 8 q).toNat : Int) = ((p &&& q : Nat) : Int) % 256 := by
 rw [Xl]
 rw [BitVec.toNat_and, BitVec.toNat_ofNat, BitVec.toNat_ofNat, ← Nat.and_mod_two_pow]
 omega
theorem zeS (p q : Nat) : IntKind.u8.wrap ((BitVec.ofNat 8 p ||| BitVec.ofNat 8 q).toNat : Int) = ((p ||| q : Nat) : Int) % 256 := by
 rw [Xl]
 rw [BitVec.toNat_or, BitVec.toNat_ofNat, BitVec.toNat_ofNat, ← Nat.or_mod_two_pow]
 omega
theorem zap (p q : Nat) : IntKind.u8.wrap ((BitVec.ofNat 8 p ^^^ BitVec.ofNat 8 q).toNat : Int) = ((p ^^^ q : Nat) : Int) % 256 := by
 rw [Xl]
 rw [BitVec.toNat_xor, BitVec.toNat_ofNat, BitVec.toNat_ofNat, ← Nat.xor_mod_two_pow]
 omega
theorem zfU {p q : Nat} (hx : a.eval x = by8 p) (hy : a.eval y = by8 q) (h : zd P G R ops K rest (a.put d (by8 ((p &&& q) % 256))) m) :
  zd P G R ops K (⟨d, .binOp .and T x y T', ty, pos, aft, none⟩ :: rest) a m :=
 zI (fun w => by
  have := zau p q
  simp only [hx, hy, eqGuard, binOp, Op.intBits, IntKind.bits]
  simp
  exact this) h
theorem zih {p q : Nat} (hx : a.eval x = by8 p) (hy : a.eval y = by8 q) (h : zd P G R ops K rest (a.put d (by8 ((p ||| q) % 256))) m) :
  zd P G R ops K (⟨d, .binOp .or T x y T', ty, pos, aft, none⟩ :: rest) a m :=
 zI (fun w => by
  have := zeS p q
  simp only [hx, hy, eqGuard, binOp, Op.intBits, IntKind.bits]
  simp
  exact this) h
theorem zh4 {p q : Nat} (hx : a.eval x = by8 p) (hy : a.eval y = by8 q) (h : zd P G R ops K rest (a.put d (by8 ((p ^^^ q) % 256))) m) :
  zd P G R ops K (⟨d, .binOp .xor T x y T', ty, pos, aft, none⟩ :: rest) a m :=
 zI (fun w => by
  have := zap p q
  simp only [hx, hy, eqGuard, binOp, Op.intBits, IntKind.bits]
  simp
  exact this) h
theorem zfm {p q : Nat} (hx : a.eval x = by8 p) (hy : a.eval y = by8 q) (h : zd P G R ops K rest (a.put d (by8 ((p + q) % 256))) m) :
  zd P G R ops K (⟨d, .binOp .add T x y T', ty, pos, aft, none⟩ :: rest) a m :=
 zI (fun w => by simp [hx, hy, eqGuard, binOp, Op.intArith, Xl]) h
theorem zgI {p q : Nat} (hx : a.eval x = by8 p) (hy : a.eval y = by8 q) (hq : q ≤ 256) (h : zd P G R ops K rest (a.put d (by8 ((p + 256 - q) % 256))) m) :
  zd P G R ops K (⟨d, .binOp .sub T x y T', ty, pos, aft, none⟩ :: rest) a m :=
 zI (fun w => by simp [hx, hy, eqGuard, binOp, Op.intArith, Xl]; omega) h
theorem zf6 {k' : IntKind} {p s : Nat} (hx : a.eval x = by8 p) (hy : a.eval y = .int k' (s : Int)) (hs : s ≤ 8) (h : zd P G R ops K rest (a.put d (by8 (p / 2 ^ s))) m) :
  zd P G R ops K (⟨d, .binOp .shr T x y T', ty, pos, aft, none⟩ :: rest) a m :=
 zI (fun w => by
  have h0 : ¬ ((s : Int) < 0) := by omega
  have h1 : min ((s : Int).toNat) (IntKind.u8.bits) = s := by simp [IntKind.bits]; omega
  simp only [hx, hy, eqGuard, binOp, Op.shift, h0, if_false, h1]
  have e : (p : Int).fdiv (2 ^ s) = ((p / 2 ^ s : Nat) : Int) := by
   rw [Int.fdiv_eq_ediv_of_nonneg _ (by exact Int.le_of_lt (Int.pow_pos (by decide)))]
   simp
  simp [e]) h
theorem zb0 {b o j n z : Nat} {k : IntKind} {e : TypeId} (hT : P.underlying T = some (.array n e)) (hs : (P.info? e).map (·.size) = some (z + 1)) (hx : a.eval x = .pointer (some ⟨b, o, none⟩)) (hy : a.eval y = .int k (j : Int)) (hj : j < n)
  (h : zd P G R ops K rest (a.put d (.pointer (some ⟨b, o + j * (z + 1), none⟩))) m) : zd P G R ops K (⟨d, .indexAddr T x y, ty, pos, aft, none⟩ :: rest) a m :=
 zP (v := .pointer (some ⟨b, o + j * (z + 1), none⟩)) rfl rfl (fun w => by
  cases hi : P.info? e with
  | none => simp [hi] at hs
  | some i =>
   have hsz : i.size = z + 1 := by simpa [hi] using hs
   have h0 : (0 : Int) ≤ j ∧ (j : Int) < n := by omega
   simp only [execOp, Instr.indexAt, hx, hy, asIntOf, underlying, program, sizeOf, typeInfo, Instr.sureAddr]
   simp [Sem.run, hT, hi, hsz, h0, ve, hj]) h
theorem zaz {zv : Value} {l z : Nat} {e : TypeId} {parts : Array (Nat × Operand)} {pv : List (Nat × Value)} {c : Array Value} (hz : (P.info? T).bind (·.zero) = some zv) (hT : P.underlying T = some (.array l e)) (hs : (P.info? e).map (·.size) = some z)
  (hp : parts.toList.map (fun p => (p.1, a.eval p.2)) = pv) (hf : Instr.fill (fun i => some (i * z, z)) zv.cells pv = some c)
  (h : zd P G R ops K rest (a.put d (.agg c)) m) : zd P G R ops K (⟨d, .build T parts, ty, pos, aft, none⟩ :: rest) a m :=
 zP (v := .agg c) rfl rfl (fun w => by
  cases hi : P.info? T with
  | none => simp [hi] at hz
  | some i =>
   have hz' : i.zero = some zv := by simpa [hi] using hz
   cases he : P.info? e with
   | none => simp [he] at hs
   | some j =>
    have hsz : j.size = z := by simpa [he] using hs
    have hp' : (parts.map fun (i, x) => (i, a.eval x)).toList = pv := by rw [← hp]; simp
    simp only [execOp, Instr.build, zeroValue, typeInfo, underlying, program, sizeOf]
    simp only [hp']
    simp only [Sem.run_bind, Sem.run, Sem.run_pure, Result.andThen_ok, hi, hz', hT, he, hsz, hf]) h
theorem wZ {fs : Array Field} {l : List (Nat × Nat)} (h : (fs.toList.mapM fun f => (P.info? f.type).map fun i => (f.offset, i.size)) = some l) (w : World) :
  ((fs.mapM fun f => do pure (f.offset, ← sizeOf f.type) : Sem (Array (Nat × Nat)))).run P w = .ok l.toArray w := by
 have key : ∀ (fs : List Field) (l : List (Nat × Nat)), (fs.mapM fun f => (P.info? f.type).map fun i => (f.offset, i.size)) = some l →
   ((fs.mapM fun f => do pure (f.offset, ← sizeOf f.type) : Sem (List (Nat × Nat)))).run P w = .ok l w := by
  intro fs
  induction fs with
  | nil => intro l h; simp at h; subst h; rfl
  | cons f fs ih =>
   intro l h
   rw [List.mapM_cons] at h ⊢
   cases hi : P.info? f.type with
   | none => simp [hi] at h
   | some i =>
    cases hr : (fs.mapM fun f => (P.info? f.type).map fun i => (f.offset, i.size)) with
    | none => rw [hi, hr] at h; simp at h
    | some r =>
     rw [hi, hr] at h
     simp at h
     subst h
     have := ih r hr
     have h1 : (do pure (f.offset, ← sizeOf f.type) : Sem (Nat × Nat)).run P w = .ok (f.offset, i.size) w := by simp [sizeOf, typeInfo, hi]
     rw [Sem.run_bind, h1, Result.andThen_ok, Sem.run_bind, this]
     rfl
 rw [Array.mapM_eq_mapM_toList]
 have := key fs.toList l h
 rw [map_eq_pure_bind, Sem.run_bind, this]
 rfl
end Go.Proofs.YtacflmjoigffpaaGreatDoor
namespace Go.Proofs.YtacflmjoigffpaaGreatDoor
open Go Go.RowKit
variable {P : Program} {G : Mem} {R : Reg} {ops : Array Oper} {n : Nat} {K : Env → Mm → Prop} {rest : List Oper} {E : Env} {M : Mm} {d : Nat} {ty : TypeId} {pos : String} {aft : Array Edge}
variable {T T' : TypeId} {x y : Operand}
theorem z3Q {p q : Nat} (hx : rd E x = some (u p)) (hy : rd E y = some (u q)) (hd : Nat.blt d n = true) (h : z4 P G R ops n K rest ((d, u ((p ^^^ q) % 18446744073709551616)) :: E) M) :
  z4 P G R ops n K (⟨some d, .binOp .xor T x y T', ty, pos, aft, none⟩ :: rest) E M := fun _ _ ha hM => zf9 (ha.rd hx) (ha.rd hy) (h _ _ (ha.put hd _) hM)
theorem z8S {p q : Nat} (hx : rd E x = some (by8 p)) (hy : rd E y = some (by8 q)) (hd : Nat.blt d n = true) (h : z4 P G R ops n K rest ((d, by8 ((p &&& q) % 256)) :: E) M) :
  z4 P G R ops n K (⟨some d, .binOp .and T x y T', ty, pos, aft, none⟩ :: rest) E M := fun _ _ ha hM => zfU (ha.rd hx) (ha.rd hy) (h _ _ (ha.put hd _) hM)
theorem z7M {p q : Nat} (hx : rd E x = some (by8 p)) (hy : rd E y = some (by8 q)) (hd : Nat.blt d n = true) (h : z4 P G R ops n K rest ((d, by8 ((p ||| q) % 256)) :: E) M) :
  z4 P G R ops n K (⟨some d, .binOp .or T x y T', ty, pos, aft, none⟩ :: rest) E M := fun _ _ ha hM => zih (ha.rd hx) (ha.rd hy) (h _ _ (ha.put hd _) hM)
theorem z05 {p q : Nat} (hx : rd E x = some (by8 p)) (hy : rd E y = some (by8 q)) (hd : Nat.blt d n = true) (h : z4 P G R ops n K rest ((d, by8 ((p ^^^ q) % 256)) :: E) M) :
  z4 P G R ops n K (⟨some d, .binOp .xor T x y T', ty, pos, aft, none⟩ :: rest) E M := fun _ _ ha hM => zh4 (ha.rd hx) (ha.rd hy) (h _ _ (ha.put hd _) hM)
theorem zk0 {p q : Nat} (hx : rd E x = some (by8 p)) (hy : rd E y = some (by8 q)) (hd : Nat.blt d n = true) (h : z4 P G R ops n K rest ((d, by8 ((p + q) % 256)) :: E) M) :
  z4 P G R ops n K (⟨some d, .binOp .add T x y T', ty, pos, aft, none⟩ :: rest) E M := fun _ _ ha hM => zfm (ha.rd hx) (ha.rd hy) (h _ _ (ha.put hd _) hM)
theorem ziz {p q : Nat} (hx : rd E x = some (by8 p)) (hy : rd E y = some (by8 q)) (hd : Nat.blt d n = true) (hq : q ≤ 256) (h : z4 P G R ops n K rest ((d, by8 ((p + 256 - q) % 256)) :: E) M) :
  z4 P G R ops n K (⟨some d, .binOp .sub T x y T', ty, pos, aft, none⟩ :: rest) E M := fun _ _ ha hM => zgI (ha.rd hx) (ha.rd hy) hq (h _ _ (ha.put hd _) hM)
theorem zi5 {k : IntKind} {p s : Nat} (hx : rd E x = some (by8 p)) (hy : rd E y = some (.int k (s : Int))) (hd : Nat.blt d n = true) (hs : s ≤ 8) (h : z4 P G R ops n K rest ((d, by8 (p / 2 ^ s)) :: E) M) :
  z4 P G R ops n K (⟨some d, .binOp .shr T x y T', ty, pos, aft, none⟩ :: rest) E M := fun _ _ ha hM => zf6 (ha.rd hx) (ha.rd hy) hs (h _ _ (ha.put hd _) hM)
theorem zlV (o' : Nat) {b o j l z : Nat} {k : IntKind} {e : TypeId} (hT : P.underlying T = some (.array l e)) (hs : (P.info? e).map (·.size) = some (z + 1)) (hx : rd E x = some (.pointer (some ⟨b, o, none⟩))) (hy : rd E y = some (.int k (j : Int))) (hj : j < l) (ho : o + j * (z + 1) = o')
  (hd : Nat.blt d n = true) (h : z4 P G R ops n K rest ((d, .pointer (some ⟨b, o', none⟩)) :: E) M) : z4 P G R ops n K (⟨some d, .indexAddr T x y, ty, pos, aft, none⟩ :: rest) E M :=
 fun _ _ ha hM => zb0 hT hs (ha.rd hx) (ha.rd hy) hj (by rw [ho]; exact h _ _ (ha.put hd _) hM)
theorem znB (o' : Nat) {b o f sz : Nat} {fs : Array Field} {fd : Field} (hT : P.underlying T = some (.struct fs)) (hf : fs[f]? = some fd) (hs : (P.info? fd.type).map (·.size) = some (sz + 1)) (hx : rd E x = some (.pointer (some ⟨b, o, none⟩)))
  (ho : o + fd.offset = o') (hd : Nat.blt d n = true) (h : z4 P G R ops n K rest ((d, .pointer (some ⟨b, o', none⟩)) :: E) M) : z4 P G R ops n K (⟨some d, .fieldAddr T x f, ty, pos, aft, none⟩ :: rest) E M :=
 fun _ _ ha hM => zhm hT hf hs (ha.rd hx) (by rw [ho]; exact h _ _ (ha.put hd _) hM)
theorem wC {zv : Value} {l z : Nat} {e : TypeId} {parts : Array (Nat × Operand)} {pv : List (Nat × Value)} (c : Array Value) (hz : (P.info? T).bind (·.zero) = some zv) (hT : P.underlying T = some (.array l e)) (hs : (P.info? e).map (·.size) = some z)
  (hp : rdp E parts.toList = some pv) (hf : Instr.fill (fun i => some (i * z, z)) zv.cells pv = some c) (hd : Nat.blt d n = true)
  (h : z4 P G R ops n K rest ((d, .agg c) :: E) M) : z4 P G R ops n K (⟨some d, .build T parts, ty, pos, aft, none⟩ :: rest) E M :=
 fun _ _ ha hM => zaz hz hT hs (ha.rdp hp) hf (h _ _ (ha.put hd _) hM)
end Go.Proofs.YtacflmjoigffpaaGreatDoor
namespace Go.Proofs.YtacflmjoigffpaaGreatDoor
open Go Go.RowKit
variable {P : Program} {G : Mem} {R : Reg} {ops : Array Oper} {K : Act → Mem → Prop} {rest : List Oper} {a : Act} {m : Mem} {d : Option Tmp} {ty : TypeId} {pos : String} {aft : Array Edge}
variable {T T' : TypeId} {x y : Operand}
theorem zhk {p q : Int} (hx : a.eval x = .int .i64 p) (hy : a.eval y = .int .i64 q) (hq : q ≠ 0) (h : zd P G R ops K rest (a.put d (.int .i64 (p.tmod q))) m) :
  zd P G R ops K (⟨d, .binOp .rem T x y T', ty, pos, aft, none⟩ :: rest) a m :=
 zI (fun w => by
  simp only [hx, hy, eqGuard, binOp, Op.intDiv, hq, if_false]
  simp) h
theorem zdO {p q : Int} (hx : a.eval x = .int .i64 p) (hy : a.eval y = .int .i64 q) (h0 : -9223372036854775808 ≤ p + q) (h1 : p + q < 9223372036854775808) (h : zd P G R ops K rest (a.put d (.int .i64 (p + q))) m) :
  zd P G R ops K (⟨d, .binOp .add T x y T', ty, pos, aft, none⟩ :: rest) a m :=
 zI (fun w => by simp [hx, hy, eqGuard, binOp, Op.intArith, ZI h0 h1]) h
theorem z8u {zv : Value} {len z : Nat} {e : TypeId} {parts : Array (Nat × Operand)} {pv : List (Nat × Value)} {c : Array Value} (hT : P.underlying T = some (.slice e)) (hs : (P.info? e).map (·.size) = some z) (hz : (P.info? e).bind (·.zero) = some zv)
  (h0 : len * z ≠ 0) (h1 : len * z ≤ 16777216) (hp : parts.toList.map (fun p => (p.1, a.eval p.2)) = pv) (hf : Instr.fill (fun i => some (i * z, z)) ((Array.range (len * z)).map (zv.cells[· % zv.cells.size]!)) pv = some c)
  (h : ∀ r, (∀ x ∈ m, x.b ≠ r) → zd P G R ops K rest (a.put d (.slice (some ⟨r, 0, none⟩) len len)) (m ++ [⟨r, c, e⟩])) : zd P G R ops K (⟨d, .buildSlice T len parts, ty, pos, aft, none⟩ :: rest) a m :=
 .inr ⟨rfl, c, e, fun r => .slice (some ⟨r, 0, none⟩) len len, fun w => by
  cases hi : P.info? e with
  | none => simp [hi] at hz
  | some j =>
   have hz' : j.zero = some zv := by simpa [hi] using hz
   have hsz : j.size = z := by simpa [hi] using hs
   have hp' : (parts.map fun (i, x) => (i, a.eval x)).toList = pv := by rw [← hp]; simp
   have h2 : ¬ len * z > 2 ^ 24 := by omega
   simp only [execOp, Instr.buildSlice, zeroValue, typeInfo, underlying, program, sizeOf, newRow, newObj]
   simp only [hp']
   simp [Sem.run, hT, hi, hz', hsz, h0, h2, hf], h⟩
theorem z7C {b o j len cap z : Nat} {k : IntKind} {e : TypeId} (hT : P.underlying T = some (.slice e)) (hs : (P.info? e).map (·.size) = some (z + 1)) (hx : a.eval x = .slice (some ⟨b, o, none⟩) len cap) (hy : a.eval y = .int k (j : Int)) (hj : j < len)
  (h : zd P G R ops K rest (a.put d (.pointer (some ⟨b, o + j * (z + 1), none⟩))) m) : zd P G R ops K (⟨d, .indexAddr T x y, ty, pos, aft, none⟩ :: rest) a m :=
 zP (v := .pointer (some ⟨b, o + j * (z + 1), none⟩)) rfl rfl (fun w => by
  cases hi : P.info? e with
  | none => simp [hi] at hs
  | some i =>
   have hsz : i.size = z + 1 := by simpa [hi] using hs
   have h0 : (0 : Int) ≤ j ∧ (j : Int) < len := by omega
   simp only [execOp, Instr.indexAt, hx, hy, asIntOf, underlying, program, sizeOf, typeInfo]
   simp [Sem.run, hT, hi, hsz, ve, hj]) h
def isB : Option Value → Nat → Nat → Prop
 | none, l, dflt => l = dflt
 | some v, l, _ => ∃ k, v = .int k (l : Int)
theorem ZZ {isS : Bool} {len cap l h : Nat} {lo hi : Option Value} (hl : isB lo l 0) (hh : isB hi h len) (h1 : l ≤ h) (h2 : h ≤ cap) (w : World) : (Instr.sliceBounds isS len cap lo hi none).run P w = .ok (l, h, cap) w := by
 have hb : ∀ (k : IntKind) (n y : Nat) (code : BoundsCode), n ≤ y → (Instr.sliceBound (.int k (n : Int)) y code).run P w = .ok n w := fun k n y code hn => by
  have h0 : (0 : Int) ≤ n ∧ (n : Int) ≤ y := by omega
  simp [Instr.sliceBound, asIntOf, hn]
 unfold Instr.sliceBounds
 cases lo with
 | none =>
  cases hi with
  | none => simp only [isB] at hl hh; subst hl hh; simp
  | some v => obtain ⟨k, rfl⟩ := hh; simp only [isB] at hl; subst hl; simp [hb k h cap _ h2]
 | some u =>
  obtain ⟨k', rfl⟩ := hl
  cases hi with
  | none => simp only [isB] at hh; subst hh; simp [hb k' l _ _ h1]
  | some v => obtain ⟨k, rfl⟩ := hh; simp [hb k h cap _ h2, hb k' l _ _ h1]
theorem zaX {b o N l h z : Nat} {e : TypeId} {lo hi : Option Operand} (hT : P.underlying T = some (.array N e)) (hs : (P.info? e).map (·.size) = some z) (hx : a.eval x = .pointer (some ⟨b, o, none⟩)) (hl : isB (lo.map a.eval) l 0) (hh : isB (hi.map a.eval) h N) (h1 : l ≤ h) (h2 : h ≤ N) (h3 : l < N)
  (hK : zd P G R ops K rest (a.put d (.slice (some ⟨b, o + l * z, none⟩) (h - l) (N - l))) m) : zd P G R ops K (⟨d, .slice T x lo hi none, ty, pos, aft, none⟩ :: rest) a m :=
 zP (v := .slice (some ⟨b, o + l * z, none⟩) (h - l) (N - l)) rfl rfl (fun w => by
  cases hi' : P.info? e with
  | none => simp [hi'] at hs
  | some i =>
   have hsz : i.size = z := by simpa [hi'] using hs
   have hb := ZZ (P := P) (isS := false) hl hh h1 h2 w
   have hne : ¬ N = l := by omega
   simp only [execOp, Instr.sliceAt, hx, underlying, program, sizeOf, typeInfo, Instr.sureAddr, Option.map_none]
   simp only [Sem.run_bind, Sem.run, Sem.run_pure, Result.andThen_ok, hT, hb, hi', hsz, hne, if_false, ve]) hK
theorem zbC {b o len cap l h z : Nat} {e : TypeId} {lo hi : Option Operand} (hT : P.underlying T = some (.slice e)) (hs : (P.info? e).map (·.size) = some z) (hx : a.eval x = .slice (some ⟨b, o, none⟩) len cap) (hl : isB (lo.map a.eval) l 0) (hh : isB (hi.map a.eval) h len) (h1 : l ≤ h) (h2 : h ≤ cap)
  (hK : zd P G R ops K rest (a.put d (.slice (some (if cap = l then ⟨b, o, none⟩ else ⟨b, o + l * z, none⟩)) (h - l) (cap - l))) m) : zd P G R ops K (⟨d, .slice T x lo hi none, ty, pos, aft, none⟩ :: rest) a m :=
 zP (v := .slice (some (if cap = l then ⟨b, o, none⟩ else ⟨b, o + l * z, none⟩)) (h - l) (cap - l)) rfl rfl (fun w => by
  cases hi' : P.info? e with
  | none => simp [hi'] at hs
  | some i =>
   have hsz : i.size = z := by simpa [hi'] using hs
   have hb := ZZ (P := P) (isS := true) hl hh h1 h2 w
   simp only [execOp, Instr.sliceAt, Instr.slice, hx, underlying, program, sizeOf, typeInfo, Option.map_none]
   simp only [Sem.run_bind, Sem.run, Sem.run_pure, Result.andThen_ok, hT, hb, hi', hsz]
   by_cases hc : cap = l
   ·simp [hc]
   ·simp [hc, ve]) hK
theorem zmp {p q : ByteArray} (hx : a.eval x = .string p) (hy : a.eval y = .string q) (h : zd P G R ops K rest (a.put d (.bool (p.toList == q.toList))) m) :
  zd P G R ops K (⟨d, .binOp .eql T x y T', ty, pos, aft, none⟩ :: rest) a m :=
 zI (fun w => by simp [hx, hy, eqGuard, binOp, Op.stringOp]) h
end Go.Proofs.YtacflmjoigffpaaGreatDoor
namespace Go.Proofs.YtacflmjoigffpaaGreatDoor
open Go Go.RowKit
variable {P : Program} {G : Mem} {R : Reg} {ops : Array Oper} {n : Nat} {K : Env → Mm → Prop} {rest : List Oper} {E : Env} {M : Mm} {d : Nat} {ty : TypeId} {pos : String} {aft : Array Edge}
variable {T T' : TypeId} {x y : Operand}
theorem ziR {p q : Int} (hx : rd E x = some (.int .i64 p)) (hy : rd E y = some (.int .i64 q)) (hd : Nat.blt d n = true) (hq : q ≠ 0) (h : z4 P G R ops n K rest ((d, .int .i64 (p.tmod q)) :: E) M) :
  z4 P G R ops n K (⟨some d, .binOp .rem T x y T', ty, pos, aft, none⟩ :: rest) E M := fun _ _ ha hM => zhk (ha.rd hx) (ha.rd hy) hq (h _ _ (ha.put hd _) hM)
theorem zjL {p q : Int} (hx : rd E x = some (.int .i64 p)) (hy : rd E y = some (.int .i64 q)) (hd : Nat.blt d n = true) (h0 : -9223372036854775808 ≤ p + q) (h1 : p + q < 9223372036854775808) (h : z4 P G R ops n K rest ((d, .int .i64 (p + q)) :: E) M) :
  z4 P G R ops n K (⟨some d, .binOp .add T x y T', ty, pos, aft, none⟩ :: rest) E M := fun _ _ ha hM => zdO (ha.rd hx) (ha.rd hy) h0 h1 (h _ _ (ha.put hd _) hM)
theorem zu (i : Nat) {zv : Value} {len z : Nat} {e : TypeId} {parts : Array (Nat × Operand)} {pv : List (Nat × Value)} (c : Array Value) (hT : P.underlying T = some (.slice e)) (hs : (P.info? e).map (·.size) = some z) (hz : (P.info? e).bind (·.zero) = some zv)
  (h0 : len * z ≠ 0) (h1 : len * z ≤ 16777216) (hp : rdp E parts.toList = some pv) (hf : Instr.fill (fun i => some (i * z, z)) ((Array.range (len * z)).map (zv.cells[· % zv.cells.size]!)) pv = some c) (hd : Nat.blt d n = true)
  (h : ∀ r, z4 P G R ops n K rest ((d, .slice (some ⟨r, 0, none⟩) len len) :: E) ((i, some ⟨r, c, e⟩) :: M)) : z4 P G R ops n K (⟨some d, .buildSlice T len parts, ty, pos, aft, none⟩ :: rest) E M :=
 fun _ _ ha hM => z8u hT hs hz h0 h1 (ha.rdp hp) hf fun r hr => h r _ _ (ha.put hd _) (hM.alloc i ⟨r, c, e⟩ hr)
theorem Zy (o' : Nat) {b o j len cap z : Nat} {k : IntKind} {e : TypeId} (hT : P.underlying T = some (.slice e)) (hs : (P.info? e).map (·.size) = some (z + 1)) (hx : rd E x = some (.slice (some ⟨b, o, none⟩) len cap)) (hy : rd E y = some (.int k (j : Int))) (hj : j < len) (ho : o + j * (z + 1) = o')
  (hd : Nat.blt d n = true) (h : z4 P G R ops n K rest ((d, .pointer (some ⟨b, o', none⟩)) :: E) M) : z4 P G R ops n K (⟨some d, .indexAddr T x y, ty, pos, aft, none⟩ :: rest) E M :=
 fun _ _ ha hM => z7C hT hs (ha.rd hx) (ha.rd hy) hj (by rw [ho]; exact h _ _ (ha.put hd _) hM)
def rdo (E : Env) : Option Operand → Option (Option Value)
 | none => some none
 | some x => (rd E x).map some
theorem Fits.rdo {a : Act} (h : Fits n E a) {o : Option Operand} {v : Option Value} (ho : YtacflmjoigffpaaGreatDoor.rdo E o = some v) : o.map a.eval = v := by
 cases o with
 | none => simpa [YtacflmjoigffpaaGreatDoor.rdo] using ho
 | some x =>
  cases hx : YtacflmjoigffpaaGreatDoor.rd E x with
  | none => simp [YtacflmjoigffpaaGreatDoor.rdo, hx] at ho
  | some u => simp [YtacflmjoigffpaaGreatDoor.rdo, hx] at ho; subst ho; simp [h.rd hx]
theorem Z4 (l h : Nat) {b o N z : Nat} {e : TypeId} {lo hi : Option Operand} {vl vh : Option Value} (hT : P.underlying T = some (.array N e)) (hs : (P.info? e).map (·.size) = some z) (hx : rd E x = some (.pointer (some ⟨b, o, none⟩))) (hlo : rdo E lo = some vl) (hhi : rdo E hi = some vh) (hl : isB vl l 0) (hh : isB vh h N)
  (h1 : l ≤ h) (h2 : h ≤ N) (h3 : l < N) (hd : Nat.blt d n = true) (hK : z4 P G R ops n K rest ((d, .slice (some ⟨b, o + l * z, none⟩) (h - l) (N - l)) :: E) M) : z4 P G R ops n K (⟨some d, .slice T x lo hi none, ty, pos, aft, none⟩ :: rest) E M :=
 fun _ _ ha hM => zaX hT hs (ha.rd hx) (by rw [ha.rdo hlo]; exact hl) (by rw [ha.rdo hhi]; exact hh) h1 h2 h3 (hK _ _ (ha.put hd _) hM)
end Go.Proofs.YtacflmjoigffpaaGreatDoor
namespace Go.Proofs.YtacflmjoigffpaaGreatDoor
open Go Go.RowKit
variable {P : Program} {G : Mem} {R : Reg} {ops : Array Oper} {K : Act → Mem → Prop} {rest : List Oper} {a : Act} {m : Mem} {d : Option Tmp} {ty : TypeId} {pos : String} {aft : Array Edge}
variable {T T' : TypeId} {x y : Operand}
abbrev uw (p : Nat) : Value := .int .u32 (p : Int)
theorem vv (z : Int) : IntKind.u32.wrap z = z % 4294967296 := by
 simp [IntKind.wrap, IntKind.signed, IntKind.bits]
theorem zb1 (p q : Nat) : IntKind.u32.wrap ((BitVec.ofNat 32 p ||| BitVec.ofNat 32 q).toNat : Int) = ((p ||| q : Nat) : Int) % 4294967296 := by
 rw [vv]
 rw [BitVec.toNat_or, BitVec.toNat_ofNat, BitVec.toNat_ofNat, ← Nat.or_mod_two_pow]
 omega
theorem z1l (p q : Nat) : IntKind.u32.wrap ((BitVec.ofNat 32 p ^^^ BitVec.ofNat 32 q).toNat : Int) = ((p ^^^ q : Nat) : Int) % 4294967296 := by
 rw [vv]
 rw [BitVec.toNat_xor, BitVec.toNat_ofNat, BitVec.toNat_ofNat, ← Nat.xor_mod_two_pow]
 omega
theorem zfP {p q : Nat} (hx : a.eval x = uw p) (hy : a.eval y = uw q) (h : zd P G R ops K rest (a.put d (uw ((p + q) % 4294967296))) m) :
  zd P G R ops K (⟨d, .binOp .add T x y T', ty, pos, aft, none⟩ :: rest) a m :=
 zI (fun w => by simp [hx, hy, eqGuard, binOp, Op.intArith, vv]) h
theorem zgU {p q : Nat} (hx : a.eval x = uw p) (hy : a.eval y = uw q) (hq : q ≤ 4294967296) (h : zd P G R ops K rest (a.put d (uw ((p + 4294967296 - q) % 4294967296))) m) :
  zd P G R ops K (⟨d, .binOp .sub T x y T', ty, pos, aft, none⟩ :: rest) a m :=
 zI (fun w => by simp [hx, hy, eqGuard, binOp, Op.intArith, vv]; omega) h
theorem zje {p q : Nat} (hx : a.eval x = uw p) (hy : a.eval y = uw q) (h : zd P G R ops K rest (a.put d (uw ((p ||| q) % 4294967296))) m) :
  zd P G R ops K (⟨d, .binOp .or T x y T', ty, pos, aft, none⟩ :: rest) a m :=
 zI (fun w => by
  have := zb1 p q
  simp only [hx, hy, eqGuard, binOp, Op.intBits, IntKind.bits]
  simp
  exact this) h
theorem zhi {p q : Nat} (hx : a.eval x = uw p) (hy : a.eval y = uw q) (h : zd P G R ops K rest (a.put d (uw ((p ^^^ q) % 4294967296))) m) :
  zd P G R ops K (⟨d, .binOp .xor T x y T', ty, pos, aft, none⟩ :: rest) a m :=
 zI (fun w => by
  have := z1l p q
  simp only [hx, hy, eqGuard, binOp, Op.intBits, IntKind.bits]
  simp
  exact this) h
theorem zfD {k' : IntKind} {p s : Nat} (hx : a.eval x = uw p) (hy : a.eval y = .int k' (s : Int)) (hs : s ≤ 32) (h : zd P G R ops K rest (a.put d (uw ((p * 2 ^ s) % 4294967296))) m) :
  zd P G R ops K (⟨d, .binOp .shl T x y T', ty, pos, aft, none⟩ :: rest) a m :=
 zI (fun w => by
  have h0 : ¬ ((s : Int) < 0) := by omega
  have h1 : min ((s : Int).toNat) (IntKind.u32.bits) = s := by simp [IntKind.bits]; omega
  simp only [hx, hy, eqGuard, binOp, Op.shift, h0, if_false, h1, vv]
  simp) h
theorem zf3 {k' : IntKind} {p s : Nat} (hx : a.eval x = uw p) (hy : a.eval y = .int k' (s : Int)) (hs : s ≤ 32) (h : zd P G R ops K rest (a.put d (uw (p / 2 ^ s))) m) :
  zd P G R ops K (⟨d, .binOp .shr T x y T', ty, pos, aft, none⟩ :: rest) a m :=
 zI (fun w => by
  have h0 : ¬ ((s : Int) < 0) := by omega
  have h1 : min ((s : Int).toNat) (IntKind.u32.bits) = s := by simp [IntKind.bits]; omega
  simp only [hx, hy, eqGuard, binOp, Op.shift, h0, if_false, h1]
  have e : (p : Int).fdiv (2 ^ s) = ((p / 2 ^ s : Nat) : Int) := by
   rw [Int.fdiv_eq_ediv_of_nonneg _ (by exact Int.le_of_lt (Int.pow_pos (by decide)))]
   simp
  simp [e]) h
theorem zb6 {k : IntKind} {dk : TypeDesc} {p : Nat} (hv : wj R T T' = 1) (hs : P.underlying T = some dk) (ht : P.underlying T' = some (.int .u32)) (hx : a.eval x = .int k (p : Int))
  (h : zd P G R ops K rest (a.put d (uw (p % 4294967296))) m) : zd P G R ops K (⟨d, .convert T T' x, ty, pos, aft, none⟩ :: rest) a m :=
 Yi hv (v := uw (p % 4294967296)) (fun w _ _ => by
  simp only [execOp, convert, underlying, program, hx]
  simp [Sem.run, hs, ht, Conv.intToInt, vv]) h
theorem zbe {k : IntKind} {dk : TypeDesc} {p : Nat} (hv : wj R T T' = 1) (hs : P.underlying T = some dk) (ht : P.underlying T' = some (.int .i64)) (hx : a.eval x = .int k (p : Int)) (hp : p < 9223372036854775808)
  (h : zd P G R ops K rest (a.put d (ii p)) m) : zd P G R ops K (⟨d, .convert T T' x, ty, pos, aft, none⟩ :: rest) a m :=
 Yi hv (v := ii p) (fun w _ _ => by
  have := ZI (z := (p : Int)) (by omega) (by omega)
  simp only [execOp, convert, underlying, program, hx]
  simp [Sem.run, hs, ht, Conv.intToInt, this]) h
def y5 (l : List Nat) : ByteArray := ⟨(l.map UInt8.ofNat).toArray⟩
abbrev sv (l : List Nat) : Value := .string (y5 l)
theorem wl (l : List Nat) : (y5 l).size = l.length := by simp [y5, ByteArray.size]
theorem zgG (l k : List Nat) : y5 l ++ y5 k = y5 (l ++ k) := by
 apply ByteArray.ext
 simp [y5, ByteArray.data_append]
theorem zgA (l : List Nat) : strOfNums (l.map fun n : Nat => (n : Int)) = y5 l := by
 unfold strOfNums y5
 rw [List.map_map]
 have : l.map ((fun n : Int => UInt8.ofNat n.toNat) ∘ fun n : Nat => (n : Int)) = l.map UInt8.ofNat := List.map_congr_left fun n _ => rfl
 rw [this]
theorem zhL {l k : List Nat} (hx : a.eval x = sv l) (hy : a.eval y = sv k) (hl : l.length + k.length ≤ 9223372036854775807) (h : zd P G R ops K rest (a.put d (sv (l ++ k))) m) :
  zd P G R ops K (⟨d, .binOp .add T x y T', ty, pos, aft, none⟩ :: rest) a m :=
 zI (fun w => by
  have := run_string_add_sum (P := P) (w := w) (y5 l) (y5 k) (by rw [wl, wl]; exact hl)
  rw [hx, hy]
  simp only [Sem.run_bind, eqGuard, binOp]
  rw [zgG] at this
  simp [this]) h
theorem z6b (l : List Nat) (i j : Nat) : (y5 l).extract i j = y5 ((l.drop i).take (j - i)) := by
 apply ByteArray.ext
 rw [ByteArray.data_extract]
 unfold y5
 simp only
 apply Array.ext'
 simp [List.map_drop, List.map_take, List.extract_eq_take_drop]
theorem z69 {l : List Nat} {i j : Nat} {lo hi : Option Operand} (hT : P.underlying T = some .string) (hx : a.eval x = sv l) (hl : isB (lo.map a.eval) i 0) (hh : isB (hi.map a.eval) j l.length) (h1 : i ≤ j) (h2 : j ≤ l.length)
  (hK : zd P G R ops K rest (a.put d (sv ((l.drop i).take (j - i)))) m) : zd P G R ops K (⟨d, .slice T x lo hi none, ty, pos, aft, none⟩ :: rest) a m :=
 zP (v := sv ((l.drop i).take (j - i))) rfl rfl (fun w => by
  have hb := ZZ (P := P) (isS := false) (len := (y5 l).size) (cap := (y5 l).size) hl (by rw [wl]; exact hh) h1 (by rw [wl]; exact h2) w
  simp only [execOp, Instr.sliceAt, Instr.slice, hx, Option.map_none]
  simp [run_underlying hT, hb, z6b]) hK
theorem zbW {l : List Nat} {j b : Nat} {k : IntKind} (hT : P.underlying T = some .string) (hx : a.eval x = sv l) (hy : a.eval y = .int k (j : Int)) (hj : l[j]? = some b) (hb : b < 256)
  (h : zd P G R ops K rest (a.put d (by8 b)) m) : zd P G R ops K (⟨d, .index T x y, ty, pos, aft, none⟩ :: rest) a m :=
 zP (v := by8 b) rfl rfl (fun w => by
  have hlt : j < l.length := (List.getElem?_eq_some_iff.1 hj).1
  have hg : l[j] = b := (List.getElem?_eq_some_iff.1 hj).2
  have hsz : j < (y5 l).size := by rw [wl]; exact hlt
  have h0 : (0 : Int) ≤ j ∧ (j : Int) < ((y5 l).size : Nat) := by omega
  have hb2 : ((y5 l)[j]'hsz).toNat = b := by
   show ((y5 l).data[j]).toNat = b
   simp [y5, hg]
   omega
  have hb3 : (y5 l)[j]? = some ((y5 l)[j]'hsz) := getElem?_pos (y5 l) j hsz
  simp only [execOp, Instr.index, hx, hy, asIntOf, underlying, program]
  simp [Sem.run, hT, hb3, hb2]) h
theorem zdD {l k : List Nat} (hl : ∀ b ∈ l, b < 256) (hk : ∀ b ∈ k, b < 256) (hx : a.eval x = sv l) (hy : a.eval y = sv k) (h : zd P G R ops K rest (a.put d (.bool (decide (l = k)))) m) :
  zd P G R ops K (⟨d, .binOp .eql T x y T', ty, pos, aft, none⟩ :: rest) a m :=
 zmp hx hy (by
  have key : ((y5 l).toList == (y5 k).toList) = decide (l = k) := by
   have e : ∀ r : List Nat, (y5 r).toList = r.map UInt8.ofNat := fun r => by
    rw [ByteArray.toList_eq]
    simp [y5]
   rw [e, e]
   by_cases hlk : l = k
   ·subst hlk; simp
   ·have : l.map UInt8.ofNat ≠ k.map UInt8.ofNat := fun he => hlk (by
     have e2 := congrArg (List.map UInt8.toNat) he
     rw [List.map_map, List.map_map] at e2
     have f : ∀ r : List Nat, (∀ b ∈ r, b < 256) → r.map (UInt8.toNat ∘ UInt8.ofNat) = r := fun r hr => by
      conv => rhs; rw [← List.map_id r]
      exact List.map_congr_left fun b hb => by
       have := hr b hb
       simp
       omega
     rw [f l hl, f k hk] at e2
     exact e2)
    simp [hlk, this]
  rw [key]; exact h)
end Go.Proofs.YtacflmjoigffpaaGreatDoor
namespace Go.Proofs.YtacflmjoigffpaaGreatDoor
open Go Go.RowKit
variable {P : Program} {G : Mem} {R : Reg} {ops : Array Oper} {K : Act → Mem → Prop} {rest : List Oper} {a : Act} {m : Mem} {d : Option Tmp} {ty : TypeId} {pos : String} {aft : Array Edge}
variable {T T' : TypeId} {x y : Operand}
abbrev zV : Value := .slice none 0 0
def Shows (B : Mem) (z : Nat) (v : Value) (n : Nat) (xs : List Value) : Prop :=
 (n = 0 ∧ xs = [] ∧ ∃ oa cap, v = .slice oa 0 cap ∧ (oa = none → cap = 0)) ∨ ∃ b o cap c t, v = .slice (some ⟨b, o, none⟩) n cap ∧ n ≤ cap ∧ (⟨b, c, t⟩ : Blk) ∈ B ∧ xs.length = n * z ∧ o + n * z ≤ c.size ∧ ∀ j u, xs[j]? = some u → c[o + j]? = some u
def we (v : Value) (j : Nat) : Value := match v with
 | .slice (some ⟨b, o, s⟩) _ _ => .pointer (some ⟨b, o + j, s⟩)
 | _ => undef
def yU (z : Nat) (v : Value) (i j : Nat) : Value := match v with
 | .slice (some ⟨b, o, s⟩) _ cap => .slice (some (if cap = i then ⟨b, o, s⟩ else ⟨b, o + i * z, s⟩)) (j - i) (cap - i)
 | v => v
theorem Shows.len {B : Mem} {z n : Nat} {v : Value} {xs : List Value} (h : Shows B z v n xs) : xs.length = n * z := by
 rcases h with ⟨rfl, rfl, _⟩ | ⟨b, o, cap, c, t, _, _, _, h, _⟩
 ·simp
 ·exact h
theorem Shows.part {B : Mem} {z n i j : Nat} {v : Value} {xs : List Value} (h : Shows B z v n xs) (h1 : i ≤ j) (h2 : j ≤ n) : Shows B z (yU z v i j) (j - i) ((xs.drop (i * z)).take ((j - i) * z)) := by
 rcases h with ⟨rfl, rfl, oa, cap, rfl, hoa⟩ | ⟨b, o, cap, c, t, rfl, hc, hB, hl, ho, hx⟩
 ·left
  have e1 : i = 0 := by omega
  have e2 : j = 0 := by omega
  subst e1 e2
  refine ⟨rfl, by simp, ?_⟩
  cases oa with
  | none => exact ⟨none, cap, rfl, hoa⟩
  | some a => exact ⟨some (if cap = 0 then ⟨a.block, a.off, a.spot⟩ else ⟨a.block, a.off + 0 * z, a.spot⟩), cap - 0, rfl, fun h => by cases h⟩
 ·right
  have hm1 : i * z + (j - i) * z = j * z := by rw [← Nat.add_mul]; congr 1; omega
  have hm2 : j * z ≤ n * z := Nat.mul_le_mul_right _ h2
  refine ⟨b, if cap = i then o else o + i * z, cap - i, c, t, ?_, by omega, hB, ?_, ?_, fun k u hk => ?_⟩
  ·show Value.slice (some (if cap = i then ⟨b, o, none⟩ else ⟨b, o + i * z, none⟩)) (j - i) (cap - i) = _
   split <;> rfl
  ·simp [hl]; omega
  ·split <;> omega
  ·rw [List.getElem?_take] at hk
   split at hk
   ·rename_i hlt
    rw [List.getElem?_drop] at hk
    have := hx _ _ hk
    by_cases e : cap = i
    ·have : j - i = 0 := by omega
     rw [this] at hlt; omega
    ·rw [if_neg e, Nat.add_assoc]; exact this
   ·cases hk
theorem Shows.mono {B B' : Mem} {z n : Nat} {v : Value} {xs : List Value} (h : Shows B z v n xs) (hs : ∀ x ∈ B, x ∈ B') : Shows B' z v n xs := by
 rcases h with h | ⟨b, o, cap, c, t, h1, h2, h3, h4⟩
 ·exact .inl h
 ·exact .inr ⟨b, o, cap, c, t, h1, h2, hs _ h3, h4⟩
def Seen (G : Mem) (R : Reg) (m B : Mem) : Prop := ∀ z ∈ B, z ∈ G ∨ (z ∈ m ∧ z.b ∉ R.X ∧ inL R.L z.b)
theorem Seen.rin {B : Mem} (h : Seen G R m B) {w : World} (hG : MemR G w) (hm : vis R m w) {z : Blk} (hz : z ∈ B) : RIn w z := by
 rcases h z hz with h1 | ⟨h1, h2⟩
 ·exact hG z h1
 ·exact (hm z h1 h2).read
theorem YE {b : Builtin} {args : Array Operand} {tys : Array TypeId} {v : Value} (hc : cls R ⟨d, .call ⟨.builtin b, args, tys⟩, ty, pos, aft, none⟩ = 0) (_hR : yJ R = true) (hr : ∀ w, (execOp a.eval ⟨d, .call ⟨.builtin b, args, tys⟩, ty, pos, aft, none⟩).run P w = .ok (.value v) w) (h : zd P G R ops K rest (a.put d v) m) :
  zd P G R ops K (⟨d, .call ⟨.builtin b, args, tys⟩, ty, pos, aft, none⟩ :: rest) a m :=
 .inr ⟨rfl, by rw [hc]; exact ⟨v, hr, h⟩⟩
theorem zhK {e : TypeId} {v : Value} {B : Mem} {z n : Nat} {xs : List Value} (hR : yJ R = true) (hT : P.underlying T = some (.slice e)) (hx : a.eval x = v) (hv : Shows B z v n xs) (h : zd P G R ops K rest (a.put d (ii n)) m) :
  zd P G R ops K (⟨d, .call ⟨.builtin .len, #[x], #[T]⟩, ty, pos, aft, none⟩ :: rest) a m :=
 YE rfl hR (fun w => by
  have : (Builtin.len_ #[T] ty #[v]).run P w = .ok (ii n) w := by
   rcases hv with ⟨rfl, _, oa, cap, rfl, _⟩ | ⟨b, o, cap, c, t, rfl, _⟩ <;> simp [Builtin.len_, run_underlying hT, goInt]
  simp only [execOp, resolve, invoke, builtin, Sem.run_bind, Sem.run_pure, Result.andThen_ok, List.map_toArray, List.map_cons, List.map_nil, hx, this]) h
theorem zcS {l : List Nat} (hR : yJ R = true) (hT : P.underlying T = some .string) (hx : a.eval x = sv l) (h : zd P G R ops K rest (a.put d (ii l.length)) m) :
  zd P G R ops K (⟨d, .call ⟨.builtin .len, #[x], #[T]⟩, ty, pos, aft, none⟩ :: rest) a m :=
 YE rfl hR (fun w => by
  have : (Builtin.len_ #[T] ty #[sv l]).run P w = .ok (ii l.length) w := by simp [Builtin.len_, run_underlying hT, goInt, wl]
  simp only [execOp, resolve, invoke, builtin, Sem.run_bind, Sem.run_pure, Result.andThen_ok, List.map_toArray, List.map_cons, List.map_nil, hx, this]) h
theorem zmq {k k' : IntKind} {p q : Nat} (hR : yJ R = true) (hx : a.eval x = .int k (p : Int)) (hy : a.eval y = .int k' (q : Int)) (h : zd P G R ops K rest (a.put d (.int k ((min p q : Nat) : Int))) m) :
  zd P G R ops K (⟨d, .call ⟨.builtin .min, #[x, y], #[T, T']⟩, ty, pos, aft, none⟩ :: rest) a m :=
 YE rfl hR (fun w => by
  have e : (if q < p then (q : Int) else p) = ((min p q : Nat) : Int) := by split <;> omega
  have : (Builtin.min_ #[T, T'] ty #[.int k (p : Int), .int k' (q : Int)]).run P w = .ok (.int k ((min p q : Nat) : Int)) w := by simp [Builtin.min_, Builtin.min2, e]
  simp only [execOp, resolve, invoke, builtin, Sem.run_bind, Sem.run_pure, Result.andThen_ok, List.map_toArray, List.map_cons, List.map_nil, hx, hy, this]) h
theorem zlI {e : TypeId} {k : IntKind} {v : Value} {B : Mem} {z n j : Nat} {xs : List Value} (hT : P.underlying T = some (.slice e)) (hs : (P.info? e).map (·.size) = some z) (hx : a.eval x = v) (hy : a.eval y = .int k (j : Int)) (hv : Shows B z v n xs) (hj : j < n)
  (h : zd P G R ops K rest (a.put d (we v (j * z))) m) : zd P G R ops K (⟨d, .indexAddr T x y, ty, pos, aft, none⟩ :: rest) a m :=
 zP (v := we v (j * z)) rfl rfl (fun w => by
  rcases hv with ⟨rfl, _⟩ | ⟨b, o, cap, c, t, rfl, _⟩
  ·omega
  ·cases hi : P.info? e with
   | none => simp [hi] at hs
   | some i =>
    have hsz : i.size = z := by simpa [hi] using hs
    have h0 : (0 : Int) ≤ j ∧ (j : Int) < n := by omega
    simp only [execOp, Instr.indexAt, hx, hy, asIntOf, underlying, program, sizeOf, typeInfo]
    simp [Sem.run, hT, hi, hsz, ve, hj, we]) h
theorem ze6 {td : TypeDesc} {v u : Value} {B : Mem} {n j : Nat} {xs : List Value} (hB : Seen G R m B) (hT : P.underlying T = some td) (hn : zE td = false) (hx : a.eval x = we v j) (hv : Shows B 1 v n xs) (hj : xs[j]? = some u)
  (h : zd P G R ops K rest (a.put d u) m) : zd P G R ops K (⟨d, .load T x, ty, pos, aft, none⟩ :: rest) a m :=
 .inr ⟨rfl, u, fun w hG hm => .inl (by
  rcases hv with ⟨_, rfl, _⟩ | ⟨b, o, cap, c, t, rfl, _, hb, hl, ho, hc⟩
  ·simp at hj
  ·have hin := hB.rin hG hm hb
   have hlt : o + j < c.size := (Array.getElem?_eq_some_iff.1 (hc j u hj)).1
   have hcell : w.cell? ⟨b, o + j, none⟩ = some u := by rw [hin.2 (o + j) hlt]; exact hc j u hj
   simp only [execOp, Instr.loadAt, hx, we, Instr.sureAddr, loadVar]
   simp [yY hT, hn, hcell]), h⟩
theorem zbG {e : TypeId} {v : Value} {B : Mem} {z n i j : Nat} {xs : List Value} {lo hi : Option Operand} (hT : P.underlying T = some (.slice e)) (hs : (P.info? e).map (·.size) = some z) (hx : a.eval x = v) (hv : Shows B z v n xs) (hl : isB (lo.map a.eval) i 0) (hh : isB (hi.map a.eval) j n) (h1 : i ≤ j) (h2 : j ≤ n)
  (hK : zd P G R ops K rest (a.put d (yU z v i j)) m) : zd P G R ops K (⟨d, .slice T x lo hi none, ty, pos, aft, none⟩ :: rest) a m := by
 rcases hv with ⟨rfl, _, oa, cap, rfl, hoa⟩ | ⟨b, o, cap, c, t, rfl, hc, _⟩
 ·refine zP (v := yU z (.slice oa 0 cap) i j) rfl rfl (fun w => ?_) hK
  cases hi' : P.info? e with
  | none => simp [hi'] at hs
  | some k =>
   have hsz : k.size = z := by simpa [hi'] using hs
   have hb := ZZ (P := P) (isS := true) (len := 0) (cap := cap) hl hh h1 (by omega) w
   have e1 : i = 0 := by omega
   have e2 : j = 0 := by omega
   subst e1 e2
   simp only [execOp, Instr.sliceAt, Instr.slice, hx, Option.map_none]
   cases oa with
   | none =>
    have := hoa rfl
    subst this
    simp [run_underlying hT, hb, sizeOf, typeInfo, hi', yU]
   | some a =>
    obtain ⟨ab, ao, asp⟩ := a
    by_cases hc0 : cap = 0
    ·subst hc0
     simp [run_underlying hT, hb, sizeOf, typeInfo, hi', yU]
    ·simp [run_underlying hT, hb, sizeOf, typeInfo, hi', yU, hc0, Addr.add]
 ·refine zbC hT hs hx hl hh h1 (by omega) ?_
  simpa [yU] using hK
theorem z3L {e : TypeId} {v : Value} {B : Mem} {l : List Nat} (hq : wj R T T' = 1) (hB : Seen G R m B) (hs : P.underlying T = some (.slice e)) (he : P.underlying e = some (.int .u8)) (ht : P.underlying T' = some .string) (hx : a.eval x = v) (hv : Shows B 1 v l.length (l.map by8))
  (h : zd P G R ops K rest (a.put d (sv l)) m) : zd P G R ops K (⟨d, .convert T T' x, ty, pos, aft, none⟩ :: rest) a m :=
 Yi hq (v := sv l) (fun w hG hm => by
  rcases hv with ⟨h0, _, oa, cap, rfl, _⟩ | ⟨b, o, cap, c, t, rfl, _, hb, hl, ho, hc⟩
  ·have : l = [] := List.eq_nil_of_length_eq_zero h0
   subst this
   have hr : (convert T T' (.slice oa 0 cap)).run P w = .ok (.string ByteArray.empty) w := by
    rw [run_convert_bytes_string w T T' e oa 0 cap hs he ht]
    cases oa with
    | none => simp [Conv.bytesToString]
    | some a =>
     have := run_bytesToString (P := P) w a 0 cap [] (by simp [loadCells, loadCellsFrom])
     simpa using this
   simp only [execOp, hx]
   simp [hr]; rfl
  ·have hin := hB.rin hG hm hb
   have := run_convert_bytes_arg (P := P) w T e hs he b o l.length cap (l.map fun n : Nat => (n : Int)) (by simp) (fun j hj => by
    have e1 : (l.map by8)[j]? = some (by8 l[j]) := by simp [hj]
    have h1 := hc j _ e1
    have hlt : o + j < c.size := (Array.getElem?_eq_some_iff.1 h1).1
    rw [hin.2 (o + j) hlt]
    simp only []
    rw [h1]
    simp [List.getD, hj]) T' ht
   rw [zgA] at this
   simp only [execOp, hx]
   simp [this]) h
theorem zh5 {z : Value} {n : Nat} {k : IntKind} (hz : z.cells = #[.int k 0]) : madeCells z.cells n = arr k n (fun _ => 0) := by
 rw [hz]
 apply Array.ext
 ·simp [madeCells, arr]
 ·intro i h1 h2
  simp [madeCells, arr, Nat.mod_one]
theorem zjp {e : TypeId} {kl kc k : IntKind} {n b : Nat} {z : Value} (hT : P.underlying T = some (.slice e)) (hs : (P.info? e).map (·.size) = some 1) (hb : (P.info? e).map (·.bytes) = some b) (hz : (P.info? e).bind (·.zero) = some z) (hzc : z.cells = #[.int k 0])
  (hx : a.eval x = .int kl (n : Int)) (hy : a.eval y = .int kc (n : Int)) (hn : b * n ≤ 281474976710656) (h63 : n ≤ 9223372036854775807)
  (h : ∀ r, (∀ x ∈ m, x.b ≠ r) → zd P G R ops K rest (a.put d (.slice (some ⟨r, 0, none⟩) n n)) (m ++ [⟨r, arr k n (fun _ => 0), e⟩])) : zd P G R ops K (⟨d, .makeSlice T x y, ty, pos, aft, none⟩ :: rest) a m :=
 .inr ⟨rfl, arr k n (fun _ => 0), e, fun r => .slice (some ⟨r, 0, none⟩) n n, fun w => by
  cases hi : P.info? e with
  | none => simp [hi] at hs
  | some i =>
   have hsz : i.size = 1 := by simpa [hi] using hs
   have hbz : i.bytes = b := by simpa [hi] using hb
   have hz' : i.zero = some z := by simpa [hi] using hz
   have hbn : ((b * n : Nat) : Int) ≤ 281474976710656 := by omega
   rw [Int.natCast_mul] at hbn
   have := run_make (P := P) w T e i z hT hi hz' kl kc n n (by omega) (by omega) (by rw [hbz]; exact hbn) (by omega)
   rw [hsz] at this
   simp only [Int.toNat_natCast, Nat.mul_one, zh5 hzc] at this
   simp only [execOp, hx, hy]
   simp [this], h⟩
theorem z0w {w : World} {b : Nat} {c c' : Array Value} {t : TypeId} (hin : In w ⟨b, c, t⟩) (hsz : c'.size = c.size) : Post [⟨b, c, t⟩] [⟨b, c', t⟩] [] w (w.setRow b c') :=
 ⟨⟨rfl, rfl, rfl, by simp [World.setRow], fun k _ hk => setRow_other w b k c' (by simpa using hk)⟩, fun x hx => by
  simp at hx; subst hx
  exact hin.set hsz, by simp [MemIn], by simp, by simp⟩
theorem WW (w : World) (c : Array Value) (t : TypeId) (l0 : Mem) (h0 : MemIn l0 w) : Post l0 l0 [⟨w.heap.size, c, t⟩] w (w.drew.alloc (.cells c t)) := by
 have hb : Below w.heap.size w (w.drew.alloc (.cells c t)) := (Below.refl w.heap.size w).drew.alloc (Nat.le_refl _) _
 refine ⟨Keep.of_below hb _, h0.later hb, fun x hx => ?_, by simp, by simp⟩
 simp at hx; subst hx
 refine In.of ?_
 show (w.heap.push _)[w.heap.size]? = _
 simp
theorem z5P (w : World) (c : Array Value) (t : TypeId) : Post [] [] [⟨w.heap.size, c, t⟩] w (w.drew.alloc (.cells c t (c.size, c.size + 1))) := by
 have hb : Below w.heap.size w (w.drew.alloc (.cells c t (c.size, c.size + 1))) := (Below.refl w.heap.size w).drew.alloc (Nat.le_refl _) _
 refine ⟨Keep.of_below hb _, by simp [MemIn], fun x hx => ?_, by simp, by simp⟩
 simp at hx; subst hx
 refine ⟨(c.size, c.size + 1), ?_, .inr (Nat.le_refl _)⟩
 show (w.heap.push _)[w.heap.size]? = _
 simp
theorem z7k {e : TypeId} {b o N dl cap i : Nat} {f : Nat → Nat} {t : TypeId} {l : List Nat} (hT : P.underlying T = some (.slice e)) (hs : (P.info? e).map (·.size) = some 1) (hx : a.eval x = .slice (some ⟨b, o, none⟩) dl cap) (hy : a.eval y = sv l) (hl : ∀ n ∈ l, n < 256)
  (hm : m[i]? = some ⟨b, arr .u8 N f, t⟩) (ho : o + dl ≤ N)
  (h : ∀ lr, List.Perm m (⟨b, arr .u8 N f, t⟩ :: lr) → zd P G R ops K rest (a.put d (ii (min l.length dl))) (⟨b, arr .u8 N (fun j => if o ≤ j ∧ j < o + min l.length dl then l.getD (j - o) 0 else f j), t⟩ :: lr)) (hL : R.L = none := by rfl) : zd P G R ops K (⟨d, .call ⟨.builtin .copy, #[x, y], #[T, T']⟩, ty, pos, aft, none⟩ :: rest) a m := by
 have hmem : (⟨b, arr .u8 N f, t⟩ : Blk) ∈ m := wg hm
 obtain ⟨l1, l2, hml⟩ := List.append_of_mem hmem
 have hp : List.Perm m (⟨b, arr .u8 N f, t⟩ :: (l1 ++ l2)) := by rw [hml]; exact List.perm_middle
 obtain ⟨c', hc'⟩ : ∃ c', c' = arr .u8 N (fun j => if o ≤ j ∧ j < o + min l.length dl then l.getD (j - o) 0 else f j) := ⟨_, rfl⟩
 refine .inr ⟨rfl, ?_⟩
 show Yp _ _ _ _ _ _ _ 5
 refine ⟨[⟨b, arr .u8 N f, t⟩], l1 ++ l2, fun v r1 nw => v = ii (min l.length dl) ∧ r1 = [⟨b, c', t⟩] ∧ nw = [], by simpa using hp, fun _ => ⟨_, _, _, ⟨rfl, rfl, rfl⟩, by simp, by simp⟩, ?_, ?_, ?_⟩
 ·exact ⟨by rintro v r1 nw ⟨_, rfl, _⟩; rfl, fun _ _ => ZB hL _⟩
 ·intro w _ hw _
  have hin := hw _ hmem
  refine .inl ⟨_, _, _, w.setRow b c', ?_, ⟨rfl, rfl, rfl⟩, z0w hin (by rw [hc', zH, zH])⟩
  cases hi : P.info? e with
  | none => simp [hi] at hs
  | some k =>
   have hsz : k.size = 1 := by simpa [hi] using hs
   have hf : (Builtin.firstCells 1 (min l.length dl) (sv l)).run P w = .ok ((l.take (min l.length dl)).map by8).toArray w := by
    simp only [Builtin.firstCells]
    rw [z6b]
    simp only [Sem.run_pure, List.drop_zero, Nat.sub_zero]
    congr 1
    unfold y5
    apply Array.ext'
    simp only [Array.toList_map, List.map_map]
    exact List.map_congr_left fun n hn => by
     have := hl n (List.mem_of_mem_take hn)
     simp
     omega
   have hst := yE (P := P) b o t ((l.take (min l.length dl)).map by8) 0 (arr .u8 N f) w hin (by simp [zH]; omega) (fun v hv => by
    obtain ⟨n, _, rfl⟩ := List.mem_map.1 hv; rfl)
   have hc2 : ((arr .u8 N f).toList.take (o + 0) ++ (l.take (min l.length dl)).map by8 ++ (arr .u8 N f).toList.drop (o + 0 + ((l.take (min l.length dl)).map by8).length)).toArray = c' := by
    rw [hc']
    apply Array.ext
    ·simp [arr]; omega
    ·intro j h1 h2
     have hjN : j < N := by simpa [arr] using h2
     simp only [List.getElem_toArray]
     by_cases ha : j < o
     ·rw [List.getElem_append_left (by simp [arr]; omega), List.getElem_append_left (by simp [arr]; omega)]
      have : ¬ (o ≤ j ∧ j < o + min l.length dl) := by omega
      simp [arr, this]
     ·by_cases hb2 : j < o + min l.length dl
      ·rw [List.getElem_append_left (by simp [arr]; omega), List.getElem_append_right (by simp [arr]; omega)]
       have h3 : o ≤ j ∧ j < o + min l.length dl := by omega
       have h4 : j - o < l.length := by omega
       have h5 : min o N = o := by omega
       simp [arr, h3, h5, List.getD, h4]
      ·rw [List.getElem_append_right (by simp [arr]; omega)]
       have h3 : ¬ (o ≤ j ∧ j < o + min l.length dl) := by omega
       have h5 : min o N = o := by omega
       simp [arr, h3, h5]
       congr 2
       omega
   rw [hc2] at hst
   generalize (l.take (min l.length dl)).map by8 = vs at hf hst
   have hmin : Nat.min l.length dl = min l.length dl := rfl
   simp only [execOp, resolve, invoke, builtin, Sem.run_bind, Sem.run_pure, Result.andThen_ok, List.map_toArray, List.map_cons, List.map_nil, hx, hy]
   simp [Builtin.copy_, run_underlying hT, Builtin.lenOf, wl, sizeOf, typeInfo, hi, hsz, hmin, hf, hst, goInt]
 ·rintro v r1 nw ⟨rfl, rfl, rfl⟩ _
  rw [hc']
  simpa using h (l1 ++ l2) hp
end Go.Proofs.YtacflmjoigffpaaGreatDoor
namespace Go.Proofs.YtacflmjoigffpaaGreatDoor
open Go Go.RowKit
variable {P : Program} {G : Mem} {R : Reg} {ops : Array Oper} {K : Act → Mem → Prop} {rest : List Oper} {a : Act} {m : Mem} {d : Option Tmp} {ty : TypeId} {pos : String} {aft : Array Edge}
variable {T T' : TypeId} {x y : Operand}
def OwnS (e : TypeId) (z : Nat) (v : Value) (n : Nat) (xs : List Value) (l : Mem) : Prop :=
 (v = zV ∧ n = 0 ∧ xs = [] ∧ l = []) ∨ ∃ r cap c, v = .slice (some ⟨r, 0, none⟩) n cap ∧ l = [⟨r, c, e⟩] ∧ n ≤ cap ∧ cap ≤ maxLen ∧ c.size = cap * z ∧ xs.length = n * z ∧ c.toList.take (n * z) = xs
theorem OwnS.shows {e : TypeId} {z n : Nat} {v : Value} {xs : List Value} {l : Mem} (h : OwnS e z v n xs l) : Shows l z v n xs := by
 rcases h with ⟨h1, h2, h3, _⟩ | ⟨r, cap, c, h1, rfl, h3, _, h4, h5, h6⟩
 ·exact .inl ⟨h2, h3, none, 0, h1, fun _ => rfl⟩
 ·refine .inr ⟨r, 0, cap, c, e, h1, h3, by simp, h5, ?_, fun j u hj => ?_⟩
  ·rw [h4, Nat.zero_add]; exact Nat.mul_le_mul_right _ h3
  ·rw [← h6, List.getElem?_take] at hj
   split at hj
   ·rw [Nat.zero_add]; simpa using hj
   ·cases hj
theorem OwnS.len {e : TypeId} {z n : Nat} {v : Value} {xs : List Value} {l : Mem} (h : OwnS e z v n xs l) : xs.length = n * z := h.shows.len
theorem yX {z len r : Nat} (c : Array Value) (e : TypeId) (h : c.size = len * z) : Shows [⟨r, c, e⟩] z (.slice (some ⟨r, 0, none⟩) len len) len c.toList :=
 .inr ⟨r, 0, len, c, e, rfl, Nat.le_refl _, by simp, by simpa using h, by omega, fun j u hj => by rw [Nat.zero_add]; simpa using hj⟩
theorem ym (e : TypeId) (z : Nat) : OwnS e z zV 0 [] [] := .inl ⟨rfl, rfl, rfl, rfl⟩
theorem z2d (w : World) (t ty e : TypeId) (i : TypeInfo) (ht : P.underlying t = some (.slice e)) (hi : P.info? e = some i)
  (g sLen sCap : Nat) (cur : Array Value) (hg : In w ⟨g, cur, e⟩)
  (a : Addr) (m c : Nat) (news : List Value) (hl : news.length = m * i.size) (hnews : ∀ j u, news[j]? = some u → w.cell? (a.add j) = some u) (h1 : ∀ u ∈ news, u.oneCell' = true)
  (hroom : sLen + m ≤ sCap) (hfit : sLen * i.size + news.length ≤ cur.size) :
  (Builtin.append_ #[t, t] ty #[.slice (some ⟨g, 0, none⟩) sLen sCap, .slice (some a) m c]).run P w =
   .ok (.slice (some ⟨g, 0, none⟩) (sLen + m) sCap) (w.setRow g (cur.toList.take (sLen * i.size) ++ news ++ cur.toList.drop (sLen * i.size + news.length)).toArray) := by
 have hf := run_firstCells_some (P := P) w i.size m a m c news hl hnews
 have hst := yE (P := P) g (sLen * i.size) e news 0 cur w hg (by simpa using hfit) h1
 simp only [Nat.add_zero] at hst
 simp [Builtin.append_, run_underlying ht, sizeOf, typeInfo, hi, Builtin.lenOf, hroom, hf, Addr.add_lit, hst]
theorem z3C {e : TypeId} {z n k bytes : Nat} {zv v vy : Value} {xs news : List Value} {l0 lr B : Mem} (hT : P.underlying T = some (.slice e)) (hs : (P.info? e).map (·.size) = some z) (hb : (P.info? e).map (·.bytes) = some bytes) (hz : (P.info? e).bind (·.zero) = some zv) (hzs : zv.cells.size = z)
  (hx : a.eval x = v) (hy : a.eval y = vy) (hown : OwnS e z v n xs l0) (hoff : ∀ x ∈ l0, z8B R.L x.b) (hp : List.Perm m (l0 ++ lr)) (hsrc : Shows B z vy k news) (hB : ∀ q ∈ B, q ∈ G ∨ q ∈ m) (h1 : ∀ u ∈ news, u.oneCell' = true) (h63 : n + k ≤ maxLen) (hbytes : (n + k) * bytes ≤ 140737488355328)
  (h : ∀ v' l', OwnS e z v' (n + k) (xs ++ news) l' → (l'.map (·.b) = l0.map (·.b) → zd P G R ops K rest (a.put d v') (l' ++ lr ++ [])) ∧ (FreshM m l' → zd P G R ops K rest (a.put d v') (l0 ++ lr ++ l'))) :
  zd P G R ops K (⟨d, .call ⟨.builtin .append, #[x, y], #[T, T]⟩, ty, pos, aft, none⟩ :: rest) a m := by
 have hlen : (xs ++ news).length = (n + k) * z := by rw [List.length_append, hown.len, hsrc.len, Nat.add_mul]
 refine .inr ⟨rfl, ?_⟩
 show Yp _ _ _ _ _ _ _ 5
 refine ⟨l0, lr, fun v' r1 nw => ∃ l', OwnS e z v' (n + k) (xs ++ news) l' ∧ ((r1 = l' ∧ nw = [] ∧ l'.map (·.b) = l0.map (·.b)) ∨ (r1 = l0 ∧ nw = l')), hp, ?_, ?_, ?_, ?_⟩
 ·intro m'
  obtain ⟨r, hr⟩ := xX m'
  exact ⟨.slice (some ⟨r, 0, none⟩) (n + k) (n + k), l0, [⟨r, (xs ++ news).toArray, e⟩], ⟨_, .inr ⟨r, n + k, (xs ++ news).toArray, rfl, rfl, Nat.le_refl _, h63, by simp only [List.size_toArray]; exact hlen, hlen, by rw [← hlen]; exact List.take_length⟩, .inr ⟨rfl, rfl⟩⟩, by simp, by simpa using hr⟩
 ·refine ⟨?_, hoff⟩
  rintro v' r1 nw ⟨l', _, ⟨rfl, _, h3⟩ | ⟨rfl, _⟩⟩
  ·exact h3
  ·rfl
 ·intro w hG hm _
  have hrun : ∀ v' w', (Builtin.append_ #[T, T] ty #[v, vy]).run P w = .ok v' w' → (execOp a.eval ⟨d, .call ⟨.builtin .append, #[x, y], #[T, T]⟩, ty, pos, aft, none⟩).run P w = .ok (.value v') w' := fun v' w' hr => by
   simp only [execOp, resolve, invoke, builtin, Sem.run_bind, Sem.run_pure, Result.andThen_ok, List.map_toArray, List.map_cons, List.map_nil, hx, hy, hr]
  have hl0 : MemIn l0 w := fun q hq => hm q (hp.mem_iff.2 (by simp [hq]))
  left
  cases hi : P.info? e with
  | none => simp [hi] at hs
  | some i =>
   have hsz : i.size = z := by simpa [hi] using hs
   have hby : i.bytes = bytes := by simpa [hi] using hb
   have hz' : i.zero = some zv := by simpa [hi] using hz
   have hsmall : n + k ≤ 9223372036854775807 := by simp only [maxLen] at h63; omega
   have grown : ∀ old (w0 : World), w0 = w → (∃ c', c' = xs.toArray ++ news.toArray ++ Builtin.zeroCells zv.cells (grownCap w (n + k) old e - (n + k)) ∧
     OwnS e z (.slice (some ⟨w.heap.size, 0, none⟩) (n + k) (grownCap w (n + k) old e)) (n + k) (xs ++ news) [⟨w.heap.size, c', e⟩]) := fun old _ _ => by
    have hge := grownCap_ge w (n + k) old e
    refine ⟨_, rfl, .inr ⟨_, _, _, rfl, rfl, hge, grownCap_le_maxLen w (n + k) old e h63, ?_, hlen, ?_⟩⟩
    ·simp only [Array.size_append, List.size_toArray, size_zeroCells, hzs, hown.len, hsrc.len, ← Nat.add_mul]
     congr 1
     omega
    ·simp only [Array.toList_append, List.append_assoc]
     rw [← List.append_assoc, ← hlen]
     exact List.take_left
   rcases hsrc with ⟨rfl, rfl, oa, cp, rfl, hoa⟩ | ⟨b, o, cp, c, t, rfl, hkc, hbB, hnl, ho, hnc⟩
   ·-- nothing is appended
    refine ⟨v, l0, [], w, hrun _ _ ?_, ⟨l0, by simpa using hown, .inl ⟨rfl, rfl, rfl⟩⟩, Keep.refl _ _ _, hl0, by simp [MemIn], by simp, by simp⟩
    have hf : ∀ q, (Builtin.firstCells q 0 (.slice oa 0 cp)).run P w = .ok #[] w := fun q => by
     cases oa with
     | none => simp [Builtin.firstCells]
     | some a => simp [Builtin.firstCells, loadCells, loadCellsFrom]
    rcases hown with ⟨rfl, rfl, _⟩ | ⟨r, cap, c, rfl, rfl, hnc, _⟩
    ·simp [Builtin.append_, run_underlying hT, sizeOf, typeInfo, hi, Builtin.lenOf, hf]
    ·simp [Builtin.append_, run_underlying hT, sizeOf, typeInfo, hi, Builtin.lenOf, hf, hnc, storeCells]
   ·have hrin : RIn w ⟨b, c, t⟩ := by
     rcases hB _ hbB with h2 | h2
     ·exact hG _ h2
     ·exact (hm _ h2).read
    have hnews : ∀ j u, news[j]? = some u → w.cell? ((⟨b, o, none⟩ : Addr).add j) = some u := fun j u hj => by
     have hlt : o + j < c.size := (Array.getElem?_eq_some_iff.1 (hnc j u hj)).1
     rw [ve, hrin.2 (o + j) hlt]
     exact hnc j u hj
    rcases hown with ⟨rfl, rfl, rfl, rfl⟩ | ⟨r, cap, cur, rfl, rfl, hncap, hcm, hcs, hxl, htake⟩
    ·by_cases hk : k = 0
     ·subst hk
      have hn0 : news = [] := List.eq_nil_of_length_eq_zero (by simpa using hnl)
      subst hn0
      refine ⟨zV, [], [], w, hrun _ _ ?_, ⟨[], .inl ⟨rfl, rfl, rfl, rfl⟩, .inl ⟨rfl, rfl, rfl⟩⟩, Keep.refl _ _ _, by simp [MemIn], by simp [MemIn], by simp, by simp⟩
      simp [Builtin.append_, run_underlying hT, sizeOf, typeInfo, hi, Builtin.lenOf, Builtin.firstCells, loadCells, loadCellsFrom]
     ·have hr := run_append_nil (P := P) w T ty e i zv hT hi hz' ⟨b, o, none⟩ k cp news (by rw [hsz]; exact hnl) hnews (by omega) (by omega) (by rw [hby]; have := hbytes; simp only [Nat.zero_add] at this; omega)
      obtain ⟨c', hc', ho'⟩ := grown 0 w rfl
      simp only [Nat.zero_add, List.nil_append, Array.empty_append] at hc' ho' hr ⊢
      rw [← hc'] at hr
      exact ⟨_, [], _, _, hrun _ _ hr, ⟨_, ho', .inr ⟨rfl, rfl⟩⟩, WW w c' e [] (by simp [MemIn])⟩
    ·have hg : In w ⟨r, cur, e⟩ := hl0 ⟨r, cur, e⟩ (by simp)
     by_cases hroom : n + k ≤ cap
     ·have hfit : n * i.size + news.length ≤ cur.size := by rw [hsz, hnl, hcs, ← Nat.add_mul]; exact Nat.mul_le_mul_right _ hroom
      have hr := z2d (P := P) w T ty e i hT hi r n cap cur hg ⟨b, o, none⟩ k cp news (by rw [hsz]; exact hnl) hnews h1 hroom hfit
      obtain ⟨cw, hcw⟩ : ∃ cw, cw = (cur.toList.take (n * i.size) ++ news ++ cur.toList.drop (n * i.size + news.length)).toArray := ⟨_, rfl⟩
      rw [← hcw] at hr
      have hcz : cw.size = cur.size := by
       rw [hcw]
       simp only [List.size_toArray, List.length_append, List.length_take, List.length_drop, Array.length_toList]
       rw [hsz] at hfit ⊢
       omega
      refine ⟨_, [⟨r, cw, e⟩], [], _, hrun _ _ hr, ⟨[⟨r, cw, e⟩], .inr ⟨r, cap, cw, rfl, rfl, hroom, hcm, ?_, hlen, ?_⟩, .inl ⟨rfl, rfl, rfl⟩⟩, z0w (hl0 ⟨r, cur, e⟩ (by simp)) hcz⟩
      ·exact hcz.trans hcs
      ·rw [hcw, hsz, htake, ← hlen]
       exact List.take_left
     ·have holds : ∀ j u, xs[j]? = some u → w.cell? ((⟨r, 0, none⟩ : Addr).add j) = some u := fun j u hj => by
       rw [← htake, List.getElem?_take] at hj
       split at hj
       ·have hin : In w ⟨r, cur, e⟩ := hl0 ⟨r, cur, e⟩ (by simp)
        rw [ve, Nat.zero_add]
        have := In.cell hin j
        simp only at this
        rw [this]; simpa using hj
       ·cases hj
      have hr := run_append_grow (P := P) w T ty e i zv hT hi hz' ⟨r, 0, none⟩ n cap xs (by rw [hsz]; exact hxl) holds ⟨b, o, none⟩ k cp news (by rw [hsz]; exact hnl) hnews (by omega) (by omega) (by rw [hby]; exact growslice_fits (by omega) hbytes)
      obtain ⟨c', hc', ho'⟩ := grown cap w rfl
      rw [← hc'] at hr
      exact ⟨_, [⟨r, cur, e⟩], _, _, hrun _ _ hr, ⟨_, ho', .inr ⟨rfl, rfl⟩⟩, WW w c' e [⟨r, cur, e⟩] hl0⟩
 ·rintro v' r1 nw ⟨l', ho', ⟨rfl, rfl, h3⟩ | ⟨rfl, rfl⟩⟩ hfr
  ·exact (h v' r1 ho').1 h3
  ·exact (h v' nw ho').2 hfr
def z0G (R : Reg) : Bool := R.c == 4 || R.c == 5
theorem z1V (hR : z0G R = true) {fo : Operand} {f : FuncId} {args : Array Operand} {tys : Array TypeId} {vs cap : Array Value} {g' : Mem} {S : Value → Mem → Prop} (hf : a.eval fo = .func (.func f) #[] cap) (hargs : args.map a.eval = vs) (he : xr P f = true)
  (hF : Fx P g' [] f (vs ++ cap) (fun v l1 nw => l1 = [] ∧ S v nw)) (hS : ∀ m' : Mem, ∃ v nw, S v nw ∧ FreshM m' nw) (hg : ∀ w, MemR G w → vis R m w → MemR g' w)
  (h : ∀ v nw, S v nw → FreshM m nw → zd P G R ops K rest (a.put d v) (m ++ nw)) : zd P G R ops K (⟨d, .call ⟨.value fo, args, tys⟩, ty, pos, aft, none⟩ :: rest) a m := by
 by_cases h4 : R.c = 4
 ·exact zfi h4 hf hargs he hF hS hg h
 ·have h5 : R.c = 5 := by
   unfold z0G at hR
   simp only [Bool.or_eq_true, beq_iff_eq] at hR
   exact hR.resolve_left h4
  refine Wl h5 hf hargs he hF (l0 := []) (lr := m) (by simp) (by simp) (fun m' => by obtain ⟨v0, n0, h0, h1⟩ := hS m'; exact ⟨v0, [], n0, ⟨rfl, h0⟩, h1⟩) ?_ (fun w hG hm => hg w hG (fun z hz _ => hm z hz)) (by simp) (by simp) ?_
  ·rintro v l1 nw ⟨rfl, _⟩; rfl
  ·rintro v l1 nw ⟨rfl, hs⟩ hr
   simpa using h v nw hs hr
end Go.Proofs.YtacflmjoigffpaaGreatDoor
namespace Go.Proofs.YtacflmjoigffpaaGreatDoor
open Go Go.RowKit
section
variable {P : Program} {G : Mem} {R : Reg} {ops : Array Oper} {n : Nat} {K : Env → Mm → Prop} {rest : List Oper} {E : Env} {M : Mm} {d : Nat} {ty : TypeId} {pos : String} {aft : Array Edge}
variable {T T' : TypeId} {x y : Operand}
theorem zim {p q : Nat} (hx : rd E x = some (uw p)) (hy : rd E y = some (uw q)) (hd : Nat.blt d n = true) (h : z4 P G R ops n K rest ((d, uw ((p + q) % 4294967296)) :: E) M) :
  z4 P G R ops n K (⟨some d, .binOp .add T x y T', ty, pos, aft, none⟩ :: rest) E M := fun _ _ ha hM => zfP (ha.rd hx) (ha.rd hy) (h _ _ (ha.put hd _) hM)
theorem zj1 {p q : Nat} (hx : rd E x = some (uw p)) (hy : rd E y = some (uw q)) (hd : Nat.blt d n = true) (hq : q ≤ 4294967296) (h : z4 P G R ops n K rest ((d, uw ((p + 4294967296 - q) % 4294967296)) :: E) M) :
  z4 P G R ops n K (⟨some d, .binOp .sub T x y T', ty, pos, aft, none⟩ :: rest) E M := fun _ _ ha hM => zgU (ha.rd hx) (ha.rd hy) hq (h _ _ (ha.put hd _) hM)
theorem YA {p q : Nat} (hx : rd E x = some (uw p)) (hy : rd E y = some (uw q)) (hd : Nat.blt d n = true) (h : z4 P G R ops n K rest ((d, uw ((p ||| q) % 4294967296)) :: E) M) :
  z4 P G R ops n K (⟨some d, .binOp .or T x y T', ty, pos, aft, none⟩ :: rest) E M := fun _ _ ha hM => zje (ha.rd hx) (ha.rd hy) (h _ _ (ha.put hd _) hM)
theorem z9E {p q : Nat} (hx : rd E x = some (uw p)) (hy : rd E y = some (uw q)) (hd : Nat.blt d n = true) (h : z4 P G R ops n K rest ((d, uw ((p ^^^ q) % 4294967296)) :: E) M) :
  z4 P G R ops n K (⟨some d, .binOp .xor T x y T', ty, pos, aft, none⟩ :: rest) E M := fun _ _ ha hM => zhi (ha.rd hx) (ha.rd hy) (h _ _ (ha.put hd _) hM)
theorem Zj {k : IntKind} {p s : Nat} (hx : rd E x = some (uw p)) (hy : rd E y = some (.int k (s : Int))) (hd : Nat.blt d n = true) (hs : s ≤ 32) (h : z4 P G R ops n K rest ((d, uw ((p * 2 ^ s) % 4294967296)) :: E) M) :
  z4 P G R ops n K (⟨some d, .binOp .shl T x y T', ty, pos, aft, none⟩ :: rest) E M := fun _ _ ha hM => zfD (ha.rd hx) (ha.rd hy) hs (h _ _ (ha.put hd _) hM)
theorem Zp {k : IntKind} {p s : Nat} (hx : rd E x = some (uw p)) (hy : rd E y = some (.int k (s : Int))) (hd : Nat.blt d n = true) (hs : s ≤ 32) (h : z4 P G R ops n K rest ((d, uw (p / 2 ^ s)) :: E) M) :
  z4 P G R ops n K (⟨some d, .binOp .shr T x y T', ty, pos, aft, none⟩ :: rest) E M := fun _ _ ha hM => zf3 (ha.rd hx) (ha.rd hy) hs (h _ _ (ha.put hd _) hM)
theorem zeU {k : IntKind} {dk : TypeDesc} {p : Nat} (hs : P.underlying T = some dk) (ht : P.underlying T' = some (.int .u32)) (hx : rd E x = some (.int k (p : Int))) (hd : Nat.blt d n = true) (hv : wj R T T' = 1)
  (h : z4 P G R ops n K rest ((d, uw (p % 4294967296)) :: E) M) : z4 P G R ops n K (⟨some d, .convert T T' x, ty, pos, aft, none⟩ :: rest) E M := fun _ _ ha hM => zb6 hv hs ht (ha.rd hx) (h _ _ (ha.put hd _) hM)
theorem zhf {k : IntKind} {dk : TypeDesc} {p : Nat} (hs : P.underlying T = some dk) (ht : P.underlying T' = some (.int .i64)) (hx : rd E x = some (.int k (p : Int))) (hd : Nat.blt d n = true) (hv : wj R T T' = 1) (hp : p < 9223372036854775808)
  (h : z4 P G R ops n K rest ((d, ii p) :: E) M) : z4 P G R ops n K (⟨some d, .convert T T' x, ty, pos, aft, none⟩ :: rest) E M := fun _ _ ha hM => zbe hv hs ht (ha.rd hx) hp (h _ _ (ha.put hd _) hM)
theorem z4m {l k : List Nat} (hx : rd E x = some (sv l)) (hy : rd E y = some (sv k)) (hd : Nat.blt d n = true) (hl : l.length + k.length ≤ 9223372036854775807) (h : z4 P G R ops n K rest ((d, sv (l ++ k)) :: E) M) :
  z4 P G R ops n K (⟨some d, .binOp .add T x y T', ty, pos, aft, none⟩ :: rest) E M := fun _ _ ha hM => zhL (ha.rd hx) (ha.rd hy) hl (h _ _ (ha.put hd _) hM)
theorem zG (i j : Nat) {l : List Nat} {lo hi : Option Operand} {vl vh : Option Value} (hT : P.underlying T = some .string) (hx : rd E x = some (sv l)) (hlo : rdo E lo = some vl) (hhi : rdo E hi = some vh) (hl : isB vl i 0) (hh : isB vh j l.length) (h1 : i ≤ j) (h2 : j ≤ l.length) (hd : Nat.blt d n = true)
  (hK : z4 P G R ops n K rest ((d, sv ((l.drop i).take (j - i))) :: E) M) : z4 P G R ops n K (⟨some d, .slice T x lo hi none, ty, pos, aft, none⟩ :: rest) E M :=
 fun _ _ ha hM => z69 hT (ha.rd hx) (by rw [ha.rdo hlo]; exact hl) (by rw [ha.rdo hhi]; exact hh) h1 h2 (hK _ _ (ha.put hd _) hM)
theorem yP {l : List Nat} {j b : Nat} {k : IntKind} (hT : P.underlying T = some .string) (hx : rd E x = some (sv l)) (hy : rd E y = some (.int k (j : Int))) (hj : l[j]? = some b) (hb : b < 256) (hd : Nat.blt d n = true)
  (h : z4 P G R ops n K rest ((d, by8 b) :: E) M) : z4 P G R ops n K (⟨some d, .index T x y, ty, pos, aft, none⟩ :: rest) E M := fun _ _ ha hM => zbW hT (ha.rd hx) (ha.rd hy) hj hb (h _ _ (ha.put hd _) hM)
theorem xt {l k : List Nat} (hx : rd E x = some (sv l)) (hy : rd E y = some (sv k)) (hd : Nat.blt d n = true) (hl : ∀ b ∈ l, b < 256) (hk : ∀ b ∈ k, b < 256) (h : z4 P G R ops n K rest ((d, .bool (decide (l = k))) :: E) M) :
  z4 P G R ops n K (⟨some d, .binOp .eql T x y T', ty, pos, aft, none⟩ :: rest) E M := fun _ _ ha hM => zdD hl hk (ha.rd hx) (ha.rd hy) (h _ _ (ha.put hd _) hM)
theorem zdK {l : List Nat} (hT : P.underlying T = some .string) (hx : rd E x = some (sv l)) (hd : Nat.blt d n = true) (hR : yJ R = true) (h : z4 P G R ops n K rest ((d, ii l.length) :: E) M) :
  z4 P G R ops n K (⟨some d, .call ⟨.builtin .len, #[x], #[T]⟩, ty, pos, aft, none⟩ :: rest) E M := fun _ _ ha hM => zcS hR hT (ha.rd hx) (h _ _ (ha.put hd _) hM)
def SeenE (G : Mem) (R : Reg) (M : Mm) (B : Mem) : Prop := ∀ z ∈ B, z ∈ G ∨ ∃ i, lkM M i = some z ∧ ∃ js, Zb M i js R
theorem SeenE.seen {B : Mem} (h : SeenE G R M B) {m : Mem} (hM : FitsM M m) : Seen G R m B := fun z hz => by
 rcases h z hz with h1 | ⟨i, h1, js, h2⟩
 ·exact .inl h1
 ·exact .inr ⟨hM.has i z h1, YJ hM h1 h2⟩
theorem zo : SeenE G R M G := fun _ hz => .inl hz
theorem xF (i : Nat) {oz : Option Blk} (hi : lkM M i = oz) (hX : ∃ js, Zb M i js R) : SeenE G R M oz.toList := fun z hz => by
 have : oz = some z := by simpa using hz
 exact .inr ⟨i, hi.trans this, hX⟩
theorem zY (i : Nat) {z : Blk} (hi : lkM M i = some z) (hX : ∃ js, Zb M i js R) : SeenE G R M [z] := fun q hq => by
 simp at hq; subst hq
 exact .inr ⟨i, hi, hX⟩
theorem zlb {e : TypeId} {v : Value} {B : Mem} {z k : Nat} {xs : List Value} (hv : Shows B z v k xs) (hT : P.underlying T = some (.slice e)) (hx : rd E x = some v) (hd : Nat.blt d n = true) (hR : yJ R = true) (h : z4 P G R ops n K rest ((d, ii k) :: E) M) :
  z4 P G R ops n K (⟨some d, .call ⟨.builtin .len, #[x], #[T]⟩, ty, pos, aft, none⟩ :: rest) E M := fun _ _ ha hM => zhK hR hT (ha.rd hx) hv (h _ _ (ha.put hd _) hM)
theorem zn5 {k k' : IntKind} {p q : Nat} (hx : rd E x = some (.int k (p : Int))) (hy : rd E y = some (.int k' (q : Int))) (hd : Nat.blt d n = true) (hR : yJ R = true) (h : z4 P G R ops n K rest ((d, .int k ((min p q : Nat) : Int)) :: E) M) :
  z4 P G R ops n K (⟨some d, .call ⟨.builtin .min, #[x, y], #[T, T']⟩, ty, pos, aft, none⟩ :: rest) E M := fun _ _ ha hM => zmq hR (ha.rd hx) (ha.rd hy) (h _ _ (ha.put hd _) hM)
theorem xf {e : TypeId} {k : IntKind} {v : Value} {B : Mem} {z l j : Nat} {xs : List Value} (hv : Shows B z v l xs) (hT : P.underlying T = some (.slice e)) (hs : (P.info? e).map (·.size) = some z) (hx : rd E x = some v) (hy : rd E y = some (.int k (j : Int))) (hj : j < l) (hd : Nat.blt d n = true)
  (h : z4 P G R ops n K rest ((d, we v (j * z)) :: E) M) : z4 P G R ops n K (⟨some d, .indexAddr T x y, ty, pos, aft, none⟩ :: rest) E M := fun _ _ ha hM => zlI hT hs (ha.rd hx) (ha.rd hy) hv hj (h _ _ (ha.put hd _) hM)
theorem yc {td : TypeDesc} {v u : Value} {B : Mem} {l j : Nat} {xs : List Value} (hv : Shows B 1 v l xs) (hB : SeenE G R M B) (hT : P.underlying T = some td) (hn : zE td = false) (hx : rd E x = some (we v j)) (hj : xs[j]? = some u) (hd : Nat.blt d n = true)
  (h : z4 P G R ops n K rest ((d, u) :: E) M) : z4 P G R ops n K (⟨some d, .load T x, ty, pos, aft, none⟩ :: rest) E M := fun _ _ ha hM => ze6 (hB.seen hM) hT hn (ha.rd hx) hv hj (h _ _ (ha.put hd _) hM)
theorem xb (i j : Nat) {e : TypeId} {v : Value} {B : Mem} {z l : Nat} {xs : List Value} {lo hi : Option Operand} {vl vh : Option Value} (hv : Shows B z v l xs) (hT : P.underlying T = some (.slice e)) (hs : (P.info? e).map (·.size) = some z) (hx : rd E x = some v) (hlo : rdo E lo = some vl) (hhi : rdo E hi = some vh) (hl : isB vl i 0) (hh : isB vh j l)
  (h1 : i ≤ j) (h2 : j ≤ l) (hd : Nat.blt d n = true) (hK : z4 P G R ops n K rest ((d, yU z v i j) :: E) M) : z4 P G R ops n K (⟨some d, .slice T x lo hi none, ty, pos, aft, none⟩ :: rest) E M :=
 fun _ _ ha hM => zbG hT hs (ha.rd hx) hv (by rw [ha.rdo hlo]; exact hl) (by rw [ha.rdo hhi]; exact hh) h1 h2 (hK _ _ (ha.put hd _) hM)
theorem VH {e : TypeId} {v : Value} {B : Mem} {l : List Nat} (hv : Shows B 1 v l.length (l.map by8)) (hB : SeenE G R M B) (hs : P.underlying T = some (.slice e)) (he : P.underlying e = some (.int .u8)) (ht : P.underlying T' = some .string) (hx : rd E x = some v) (hd : Nat.blt d n = true) (hq : wj R T T' = 1)
  (h : z4 P G R ops n K rest ((d, sv l) :: E) M) : z4 P G R ops n K (⟨some d, .convert T T' x, ty, pos, aft, none⟩ :: rest) E M := fun _ _ ha hM => z3L hq (hB.seen hM) hs he ht (ha.rd hx) hv (h _ _ (ha.put hd _) hM)
theorem z7E (i : Nat) {e : TypeId} {kl kc k : IntKind} {l b : Nat} {z : Value} (hT : P.underlying T = some (.slice e)) (hs : (P.info? e).map (·.size) = some 1) (hb : (P.info? e).map (·.bytes) = some b) (hz : (P.info? e).bind (·.zero) = some z) (hzc : z.cells = #[.int k 0])
  (hx : rd E x = some (.int kl (l : Int))) (hy : rd E y = some (.int kc (l : Int))) (hn : b * l ≤ 281474976710656) (h63 : l ≤ 9223372036854775807) (hd : Nat.blt d n = true)
  (h : ∀ r, z4 P G R ops n K rest ((d, .slice (some ⟨r, 0, none⟩) l l) :: E) ((i, some ⟨r, arr k l (fun _ => 0), e⟩) :: M)) : z4 P G R ops n K (⟨some d, .makeSlice T x y, ty, pos, aft, none⟩ :: rest) E M :=
 fun _ _ ha hM => zjp hT hs hb hz hzc (ha.rd hx) (ha.rd hy) hn h63 fun r hr => h r _ _ (ha.put hd _) (hM.alloc i ⟨r, _, e⟩ hr)
theorem FitsM.change {m m' : Mem} (hM : FitsM M m) (i : Nat) {oz : Option Blk} (h1 : ∀ j x, j ≠ i → lkM M j = some x → x ∈ m') (h2 : ∀ z, oz = some z → z ∈ m' ∧ ∀ j x, j ≠ i → lkM M j = some x → x.b ≠ z.b) : FitsM ((i, oz) :: M) m' := by
 refine ⟨fun j x hx => ?_, fun j k x z hx hz hne => ?_⟩
 ·rw [y9] at hx
  split at hx
  ·exact (h2 x hx).1
  ·rename_i hne; exact h1 j x (fun e => hne e.symm) hx
 ·rw [y9] at hx hz
  split at hx
  ·split at hz
   ·rename_i e1 e2; exact absurd (e1.symm.trans e2) hne
   ·rename_i e2; exact fun e => (h2 x hx).2 k z (fun e' => e2 e'.symm) hz e.symm
  ·split at hz
   ·rename_i e1 _; exact (h2 z hz).2 j x (fun e' => e1 e'.symm) hx
   ·exact hM.apart j k x z hx hz hne
theorem FitsM.others {m lr : Mem} (hM : FitsM M m) {i : Nat} {oz : Option Blk} (hi : lkM M i = oz) (hp : List.Perm m (oz.toList ++ lr)) : ∀ j x, j ≠ i → lkM M j = some x → x ∈ lr := fun j x hne hx => by
 have hm := hp.mem_iff.1 (hM.has j x hx)
 rcases List.mem_append.1 hm with h | h
 ·have : oz = some x := by simpa using h
  exact absurd rfl (hM.apart j i x x hx (hi.trans this) hne)
 ·exact h
theorem FitsM.perm1 {m : Mem} (hM : FitsM M m) {i : Nat} {oz : Option Blk} (hi : lkM M i = oz) : ∃ lr, List.Perm m (oz.toList ++ lr) := by
 cases oz with
 | none => exact ⟨m, by simp⟩
 | some z =>
  obtain ⟨l1, l2, h⟩ := List.append_of_mem (hM.has i z hi)
  exact ⟨l1 ++ l2, by rw [h]; simp⟩
theorem FitsM.same {m lr : Mem} (hM : FitsM M m) {i : Nat} {oz oz' : Option Blk} (hi : lkM M i = oz) (hp : List.Perm m (oz.toList ++ lr)) (hid : oz'.toList.map (·.b) = oz.toList.map (·.b)) : FitsM ((i, oz') :: M) (oz'.toList ++ lr) :=
 hM.change i (fun j x hne hx => List.mem_append_right _ (hM.others hi hp j x hne hx)) fun z hz => ⟨by subst hz; simp, fun j x hne hx => by
  subst hz
  cases oz with
  | none => simp at hid
  | some q =>
   simp at hid
   rw [hid]; exact hM.apart j i x q hx hi hne⟩
theorem FitsM.fresh {m lr : Mem} (hM : FitsM M m) (i : Nat) {oz : Option Blk} {l0 : Mem} (hp : List.Perm m (l0 ++ lr)) (hf : FreshM m oz.toList) : FitsM ((i, oz) :: M) (l0 ++ lr ++ oz.toList) :=
 hM.change i (fun j x _ hx => List.mem_append_left _ (hp.mem_iff.1 (hM.has j x hx))) fun z hz => ⟨by subst hz; simp, fun j x _ hx => hf.2 z (by subst hz; simp) x (hM.has j x hx)⟩
theorem zbH {e : TypeId} {b o N dl cap i : Nat} {f : Nat → Nat} {t : TypeId} {l : List Nat} (hT : P.underlying T = some (.slice e)) (hs : (P.info? e).map (·.size) = some 1) (hx : rd E x = some (.slice (some ⟨b, o, none⟩) dl cap)) (hy : rd E y = some (sv l)) (hl : ∀ q ∈ l, q < 256)
  (hm : lkM M i = some ⟨b, arr .u8 N f, t⟩) (ho : o + dl ≤ N) (hd : Nat.blt d n = true)
  (h : z4 P G R ops n K rest ((d, ii (min l.length dl)) :: E) ((i, some ⟨b, arr .u8 N (fun j => if o ≤ j ∧ j < o + min l.length dl then l.getD (j - o) 0 else f j), t⟩) :: M)) (hL : R.L = none := by rfl) : z4 P G R ops n K (⟨some d, .call ⟨.builtin .copy, #[x, y], #[T, T']⟩, ty, pos, aft, none⟩ :: rest) E M :=
 fun _ _ ha hM => by
  obtain ⟨k, hk⟩ := hM.at hm
  exact z7k (hL := hL) hT hs (ha.rd hx) (ha.rd hy) hl hk ho fun lr hp => h _ _ (ha.put hd _) (hM.same (oz' := some _) hm (by simpa using hp) rfl)
theorem Wy {e : TypeId} {z k : Nat} {v : Value} {xs : List Value} {l : Mem} (h : OwnS e z v k xs l) : ∃ oz : Option Blk, l = oz.toList := by
 rcases h with ⟨_, _, _, rfl⟩ | ⟨r, cap, c, _, rfl, _⟩
 ·exact ⟨none, rfl⟩
 ·exact ⟨some _, rfl⟩
def OffL (M : Mm) (i : Nat) : Option (List Nat) → Prop
 | none => True
 | some l => ∃ js, okX M i js l
theorem OffL.off {M : Mm} {m : Mem} {i : Nat} {oz : Option Blk} {L : Option (List Nat)} (h : OffL M i L) (hM : FitsM M m) (hi : lkM M i = oz) : ∀ x ∈ oz.toList, z8B L x.b := fun x hx => by
 have e : oz = some x := by simpa using hx
 cases L with
 | none => trivial
 | some l =>
  obtain ⟨js, hjs⟩ := h
  exact z0f hM (hi.trans e) hjs
theorem Xo (i : Nat) {e : TypeId} {z l k bytes : Nat} {zv v vy : Value} {xs news : List Value} {oz : Option Blk} {B : Mem} (hown : OwnS e z v l xs oz.toList) (hsrc : Shows B z vy k news) (hi : lkM M i = oz) (hB : ∀ q ∈ B, q ∈ G ∨ ∃ j, lkM M j = some q) (hoff : OffL M i R.L)
  (hT : P.underlying T = some (.slice e)) (hs : (P.info? e).map (·.size) = some z) (hb : (P.info? e).map (·.bytes) = some bytes) (hz : (P.info? e).bind (·.zero) = some zv) (hzs : zv.cells.size = z)
  (hx : rd E x = some v) (hy : rd E y = some vy) (h1 : ∀ u ∈ news, u.oneCell' = true) (h63 : l + k ≤ maxLen) (hbytes : (l + k) * bytes ≤ 140737488355328) (hd : Nat.blt d n = true)
  (h : ∀ v' (oz' : Option Blk), OwnS e z v' (l + k) (xs ++ news) oz'.toList → z4 P G R ops n K rest ((d, v') :: E) ((i, oz') :: M)) : z4 P G R ops n K (⟨some d, .call ⟨.builtin .append, #[x, y], #[T, T]⟩, ty, pos, aft, none⟩ :: rest) E M :=
 fun _ m ha hM => by
  obtain ⟨lr, hp⟩ := hM.perm1 hi
  refine z3C hT hs hb hz hzs (ha.rd hx) (ha.rd hy) hown (hoff.off hM hi) hp hsrc (fun q hq => ?_) h1 h63 hbytes fun v' l' ho => ?_
  ·rcases hB q hq with h2 | ⟨j, h2⟩
   ·exact .inl h2
   ·exact .inr (hM.has j q h2)
  ·obtain ⟨oz', rfl⟩ := Wy ho
   refine ⟨fun hid => ?_, fun hf => ?_⟩
   ·simpa using h v' oz' ho _ _ (ha.put hd _) (hM.same hi hp hid)
   ·exact h v' oz' ho _ _ (ha.put hd _) (hM.fresh i hp hf)
theorem x9 (i : Nat) {e : TypeId} {z l k bytes : Nat} {zv v vy : Value} {xs news : List Value} {oz : Option Blk} {B : Mem} (hown : OwnS e z v l xs oz.toList) (hsrc : Shows B z vy k news) (hi : lkM M i = oz) (hB : SeenE G R M B)
  (hT : P.underlying T = some (.slice e)) (hs : (P.info? e).map (·.size) = some z) (hb : (P.info? e).map (·.bytes) = some bytes) (hz : (P.info? e).bind (·.zero) = some zv) (hzs : zv.cells.size = z)
  (hx : rd E x = some v) (hy : rd E y = some vy) (h1 : ∀ u ∈ news, u.oneCell' = true) (h63 : l + k ≤ maxLen) (hbytes : (l + k) * bytes ≤ 140737488355328) (hd : Nat.blt d n = true)
  (h : ∀ v' (oz' : Option Blk), OwnS e z v' (l + k) (xs ++ news) oz'.toList → z4 P G R ops n K rest ((d, v') :: E) ((i, oz') :: M)) (hL : R.L = none := by rfl) : z4 P G R ops n K (⟨some d, .call ⟨.builtin .append, #[x, y], #[T, T]⟩, ty, pos, aft, none⟩ :: rest) E M :=
 Xo i hown hsrc hi (fun q hq => (hB q hq).imp id fun ⟨j, h2, _⟩ => ⟨j, h2⟩) (by rw [hL]; trivial) hT hs hb hz hzs hx hy h1 h63 hbytes hd h
theorem ze7 {oz : Option Blk} {i : Nat} (hi : lkM M i = oz) : zjq oz.toList M := by
 cases oz with
 | none => trivial
 | some z => exact ⟨⟨i, hi⟩, trivial⟩
theorem zK (i : Nat) (mk : Value → Value) {fo : Operand} {f : FuncId} {args : Array Operand} {tys : Array TypeId} {vs cap : List Value} {g' : Mem} {e : TypeId} {z k : Nat} {xs : List Value} (hf : rd E fo = some (.func (.func f) #[] cap.toArray)) (hargs : rdl E args.toList = some vs) (he : xr P f = true) (hg : SeenE G R M g')
  (hF : Fx P g' [] f (vs ++ cap).toArray (fun v l1 nw => l1 = [] ∧ ∃ v', v = mk v' ∧ OwnS e z v' k xs nw)) (hk : k ≤ maxLen) (hkx : xs.length = k * z) (hd : Nat.blt d n = true) (hR : z0G R = true)
  (h : ∀ v' (oz : Option Blk), OwnS e z v' k xs oz.toList → z4 P G R ops n K rest ((d, mk v') :: E) ((i, oz) :: M)) : z4 P G R ops n K (⟨some d, .call ⟨.value fo, args, tys⟩, ty, pos, aft, none⟩ :: rest) E M :=
 fun _ m ha hM => by
  refine z1V hR (S := fun v nw => ∃ v', v = mk v' ∧ OwnS e z v' k xs nw) (ha.rd hf) (ha.args hargs) he (by simpa using hF) ?_ (fun w hG hv q hq => (hg.seen hM).rin hG hv hq) ?_
  ·intro m'
   obtain ⟨r, hr⟩ := xX m'
   exact ⟨_, [⟨r, xs.toArray, e⟩], ⟨.slice (some ⟨r, 0, none⟩) k k, rfl, .inr ⟨r, k, xs.toArray, rfl, rfl, Nat.le_refl _, hk, by simpa using hkx, hkx, by rw [← hkx]; exact List.take_length⟩⟩, by simp, by simpa using hr⟩
  ·rintro v nw ⟨v', rfl, ho⟩ hfr
   obtain ⟨oz, rfl⟩ := Wy ho
   have := hM.fresh i (l0 := []) (lr := m) (by simp) hfr
   exact h v' oz ho _ _ (ha.put hd _) (by simpa using this)
theorem z0j (i : Nat) {fo : Operand} {f : FuncId} {args : Array Operand} {tys : Array TypeId} {vs cap : List Value} {g' : Mem} {b : Nat} {c c' : Array Value} {t : TypeId} {v : Value} (hf : rd E fo = some (.func (.func f) #[] cap.toArray)) (hargs : rdl E args.toList = some vs) (he : xr P f = true)
  (hm : lkM M i = some ⟨b, c, t⟩) (hg : ∀ z ∈ g', z ∈ G ∨ ∃ j, j ≠ i ∧ lkM M j = some z) (hF : Fx P g' [⟨b, c, t⟩] f (vs ++ cap).toArray (fun v' l1 nw => v' = v ∧ l1 = [⟨b, c', t⟩] ∧ nw = [])) (hd : Nat.blt d n = true) (hR : R.c = 5)
  (h : z4 P G R ops n K rest ((d, v) :: E) ((i, some ⟨b, c', t⟩) :: M)) (hL : R.L = none := by rfl) : z4 P G R ops n K (⟨some d, .call ⟨.value fo, args, tys⟩, ty, pos, aft, none⟩ :: rest) E M :=
 fun _ m ha hM => by
  obtain ⟨lr, hp⟩ := hM.perm1 hm
  refine Wl hR (S := fun v' l1 nw => v' = v ∧ l1 = [⟨b, c', t⟩] ∧ nw = []) (ha.rd hf) (ha.args hargs) he (by simpa using hF) (lr := lr) (fun _ _ => ZB hL _) (by simpa using hp) (fun _ => ⟨v, _, [], ⟨rfl, rfl, rfl⟩, by simp, by simp⟩) ?_ (fun w hG hw z hz => ?_) (by simp) (fun hA z hz => ?_) ?_
  ·rintro v' l1 nw ⟨_, rfl, _⟩; rfl
  ·rcases hg z hz with h1 | ⟨j, _, h1⟩
   ·exact hG z h1
   ·exact (hw z (hM.has j z h1)).read
  ·rcases hg z hz with h1 | ⟨j, hne, h1⟩
   ·simpa using hA z h1 ⟨b, c, t⟩ (hM.has i _ hm)
   ·simpa using hM.apart j i z _ h1 hm hne
  ·rintro v' l1 nw ⟨rfl, rfl, rfl⟩ _
   have := hM.same (oz' := some ⟨b, c', t⟩) hm hp rfl
   exact h _ _ (ha.put hd _) (by simpa using this)
end
section
variable {P : Program} {G : Mem} {n : Nat}
theorem zks (f : ResultVar → Sem Value) : Array.mapM f #[] = pure #[] := by
 rw [Array.mapM_eq_mapM_toList]; simp
def zmZ (b : Nat) (c' : Array Value) (t : TypeId) (fn : Func) : Exit → Env → Mm → Prop
 | .normal, _, M | .ret, _, M => fn.results = #[] ∧ ∃ i, lkM M i = some ⟨b, c', t⟩
 | _, _, _ => False
theorem fxW {f : FuncId} {fn : Func} {c : Code} {args : Array Value} {b : Nat} {c0 c' : Array Value} {t : TypeId} (hf : P.funcs[f]? = some fn) (hb : fn.body = some c) (hn : fn.ntmps = n) (ha : args.size ≤ n) (E : Env) (hE : ∀ t v, lk E t = some v → args[t]? = some v)
  (h : zZ P G c n (zmZ b c' t fn) E [(0, some ⟨b, c0, t⟩)]) : Fx P G [⟨b, c0, t⟩] f args (fun v' l1 nw => v' = .tuple #[] ∧ l1 = [⟨b, c', t⟩] ∧ nw = []) :=
 XE hf hb (yh (h _ [⟨b, c0, t⟩] ⟨by simp [hn]; omega, rfl, fun t v ht => by
  have := hE t v ht
  have hlt := (Array.getElem?_eq_some_iff.1 this).1
  rw [Array.getElem?_append_left hlt]; exact this⟩ ⟨fun i x hx => by
   rw [y9] at hx
   split at hx
   ·cases hx; simp
   ·simp [lkM] at hx, fun i j x y hx hy hne => by
   rw [y9] at hx hy
   split at hx
   ·split at hy
    ·rename_i e1 e2; exact absurd (e1.symm.trans e2) hne
    ·simp [lkM] at hy
   ·simp [lkM] at hx⟩) fun e a m ⟨E', M', h1, h0, h2⟩ => by
   have key : (fn.results = #[] ∧ ∃ i, lkM M' i = some ⟨b, c', t⟩) → a.defers = [] ∧ ∃ v l1 nw, (v = Value.tuple #[] ∧ l1 = [(⟨b, c', t⟩ : Blk)] ∧ nw = ([] : Mem)) ∧ (nw.map (·.b)).Nodup ∧ (∀ x ∈ nw, x.b ∉ [(⟨b, c0, t⟩ : Blk)].map (·.b)) ∧ (∀ x ∈ l1 ++ nw, x ∈ m) ∧ ∀ w, MemIn m w → (results fn a.tmps).run P w = .ok v w := fun ⟨hr, i, hi⟩ =>
    ⟨h1.defers, _, _, _, ⟨rfl, rfl, rfl⟩, by simp, by simp, fun x hx => by
     simp at hx; subst hx; exact h0.has i _ hi, fun w _ => by
     rw [yp, hr, zks]
     simp⟩
   cases e <;> first | exact key h2 | exact h2.elim)
def zns (P : Program) (e : TypeId) (z k : Nat) (xs : List Value) (fn : Func) : Exit → Env → Mm → Prop
 | .normal, E, M | .ret, E, M => ∃ r v oz i, fn.results = #[r] ∧ Res P E M r v ∧ OwnS e z v k xs (Option.toList oz) ∧ lkM M i = oz
 | _, _, _ => False
def zka (P : Program) (e : TypeId) (z k : Nat) (xs : List Value) (u : Value) (fn : Func) : Exit → Env → Mm → Prop
 | .normal, E, M | .ret, E, M => ∃ r r' v oz i, fn.results = #[r, r'] ∧ Res P E M r v ∧ Res P E M r' u ∧ OwnS e z v k xs (Option.toList oz) ∧ lkM M i = oz
 | _, _, _ => False
theorem z7Z {e : TypeId} {z k : Nat} {v : Value} {xs : List Value} {l : Mem} (h : OwnS e z v k xs l) : (l.map (·.b)).Nodup := by
 rcases h with ⟨_, _, _, rfl⟩ | ⟨r, cap, c, _, rfl, _⟩ <;> simp
theorem fxN {f : FuncId} {fn : Func} {c : Code} {args : Array Value} {e : TypeId} {z k : Nat} {xs : List Value} (hf : P.funcs[f]? = some fn) (hb : fn.body = some c) (hn : fn.ntmps = n) (ha : args.size ≤ n) (E : Env) (hE : ∀ t v, lk E t = some v → args[t]? = some v)
  (h : zZ P G c n (zns P e z k xs fn) E []) : Fx P G [] f args (fun v l1 nw => l1 = [] ∧ ∃ v', v = v' ∧ OwnS e z v' k xs nw) :=
 XE hf hb (yh (h _ [] ⟨by simp [hn]; omega, rfl, fun t v ht => by
  have := hE t v ht
  have hlt := (Array.getElem?_eq_some_iff.1 this).1
  rw [Array.getElem?_append_left hlt]; exact this⟩ (FitsM.nil _)) fun e' a m ⟨E', M', h1, h0, h2⟩ => by
   have key : (∃ r v oz i, fn.results = #[r] ∧ Res P E' M' r v ∧ OwnS e z v k xs (Option.toList oz) ∧ lkM M' i = oz) → a.defers = [] ∧ ∃ v l1 nw, (l1 = [] ∧ ∃ v', v = v' ∧ OwnS e z v' k xs nw) ∧ (nw.map (·.b)).Nodup ∧ (∀ x ∈ nw, x.b ∉ ([] : Mem).map (·.b)) ∧ (∀ x ∈ l1 ++ nw, x ∈ m) ∧ ∀ w, MemIn m w → (results fn a.tmps).run P w = .ok v w := fun ⟨r, v, oz, i, hr, hR, ho, hi⟩ =>
    ⟨h1.defers, v, [], oz.toList, ⟨rfl, v, rfl, ho⟩, z7Z ho, by simp, fun x hx => by
     have : oz = some x := by simpa using hx
     exact h0.has i x (hi.trans this), fun w hw => by
     have := yx h1 h0 hw hR
     rw [yp, hr, z9D]
     simp [this]⟩
   cases e' <;> first | exact key h2 | exact h2.elim)
theorem zox {f : FuncId} {fn : Func} {c : Code} {args : Array Value} {e : TypeId} {z k : Nat} {xs : List Value} {u : Value} (hf : P.funcs[f]? = some fn) (hb : fn.body = some c) (hn : fn.ntmps = n) (ha : args.size ≤ n) (E : Env) (hE : ∀ t v, lk E t = some v → args[t]? = some v)
  (h : zZ P G c n (zka P e z k xs u fn) E []) : Fx P G [] f args (fun v l1 nw => l1 = [] ∧ ∃ v', v = .tuple #[v', u] ∧ OwnS e z v' k xs nw) :=
 XE hf hb (yh (h _ [] ⟨by simp [hn]; omega, rfl, fun t v ht => by
  have := hE t v ht
  have hlt := (Array.getElem?_eq_some_iff.1 this).1
  rw [Array.getElem?_append_left hlt]; exact this⟩ (FitsM.nil _)) fun e' a m ⟨E', M', h1, h0, h2⟩ => by
   have key : (∃ r r' v oz i, fn.results = #[r, r'] ∧ Res P E' M' r v ∧ Res P E' M' r' u ∧ OwnS e z v k xs (Option.toList oz) ∧ lkM M' i = oz) → a.defers = [] ∧ ∃ v l1 nw, (l1 = [] ∧ ∃ v', v = Value.tuple #[v', u] ∧ OwnS e z v' k xs nw) ∧ (nw.map (·.b)).Nodup ∧ (∀ x ∈ nw, x.b ∉ ([] : Mem).map (·.b)) ∧ (∀ x ∈ l1 ++ nw, x ∈ m) ∧ ∀ w, MemIn m w → (results fn a.tmps).run P w = .ok v w := fun ⟨r, r', v, oz, i, hr, hR, hR', ho, hi⟩ =>
    ⟨h1.defers, .tuple #[v, u], [], oz.toList, ⟨rfl, v, rfl, ho⟩, z7Z ho, by simp, fun x hx => by
     have : oz = some x := by simpa using hx
     exact h0.has i x (hi.trans this), fun w hw => by
     have := yx h1 h0 hw hR
     have t' := yx h1 h0 hw hR'
     rw [yp, hr, za1]
     simp [this, t']⟩
   cases e' <;> first | exact key h2 | exact h2.elim)
end
end Go.Proofs.YtacflmjoigffpaaGreatDoor
