import Derived.Test.YtlidhfijmcelpaaGreatDoorKY0
import Derived.Laws.Externs
import Derived.Laws.StructEq
namespace Go.Proofs.YtlidhfijmcelpaaGreatDoor
open Go Go.RowKit
abbrev u (p : Nat) : Value := .int .u64 (p : Int)
abbrev by8 (p : Nat) : Value := .int .u8 (p : Int)
abbrev ii (p : Nat) : Value := .int .i64 (p : Int)
def arr (k : IntKind) (n : Nat) (f : Nat → Nat) : Array Value := ((List.range n).map fun i => .int k (f i : Int)).toArray
def upd (f : Nat → Nat) (j v : Nat) : Nat → Nat := fun i => if i = j then v else f i
theorem zd (k : IntKind) (n : Nat) (f : Nat → Nat) : (arr k n f).size = n := by simp [arr]
theorem yg (k k' : IntKind) (n : Nat) (f g : Nat → Nat) : (arr k n f).size = (arr k' n g).size := by rw [zd, zd]
theorem zP {k : IntKind} {n : Nat} {f : Nat → Nat} {j : Nat} (h : j < n) : (arr k n f)[j]? = some (.int k (f j : Int)) := by
 simp [arr, h]
theorem zhp {k : IntKind} {n : Nat} {f : Nat → Nat} (j v : Nat) : (arr k n f).setIfInBounds j (.int k (v : Int)) = arr k n (upd f j v) := by
 apply Array.ext
 ·simp [zd]
 ·intro i h1 h2
  have hi : i < n := by simpa [zd] using h2
  by_cases e : j = i
  ·subst e; simp [arr, upd]
  ·have e' : ¬ i = j := fun h => e h.symm
   simp [arr, upd, e, e']
theorem zg {k : IntKind} {n : Nat} {f g : Nat → Nat} (h : ∀ j, j < n → f j = g j) : arr k n f = arr k n g := by
 unfold arr
 congr 1
 refine List.map_congr_left fun i hi => ?_
 rw [h i (by simpa using hi)]
section
variable {P : Program} {G : Mem} {R : Reg} {ops : Array Oper} {K : Act → Mem → Prop} {rest : List Oper} {a : Act} {m : Mem} {d : Option Tmp} {ty : TypeId} {pos : String} {aft : Array Edge}
variable {T T' : TypeId} {x y : Operand}
theorem xC (z : Int) : IntKind.u64.wrap z = z % 18446744073709551616 := by
 simp [IntKind.wrap, IntKind.signed, IntKind.bits]
theorem YP (z : Int) : IntKind.u8.wrap z = z % 256 := by
 simp [IntKind.wrap, IntKind.signed, IntKind.bits]
theorem wZ {z : Int} (h0 : -9223372036854775808 ≤ z) (h1 : z < 9223372036854775808) : IntKind.i64.wrap z = z := by
 simp only [IntKind.wrap, IntKind.signed, IntKind.bits]
 simp
 split <;> omega
theorem zJ {op : BinOp} {v : Value} (h1 : ∀ w, ((do eqGuard op T x y (a.eval x) (a.eval y); binOp op T (a.eval x) (a.eval y)) : Sem Value).run P w = .ok v w)
  (h : z8 P G R ops K rest (a.put d v) m) : z8 P G R ops K (⟨d, .binOp op T x y T', ty, pos, aft, none⟩ :: rest) a m :=
 zK (v := v) rfl rfl (fun w => by
  have := h1 w
  simp only [execOp]
  rw [Sem.run_bind, this]
  rfl) h
theorem ze4 {p q : Nat} (hx : a.eval x = u p) (hy : a.eval y = u q) (h : z8 P G R ops K rest (a.put d (u ((p + q) % 18446744073709551616))) m) :
  z8 P G R ops K (⟨d, .binOp .add T x y T', ty, pos, aft, none⟩ :: rest) a m :=
 zJ (fun w => by simp [hx, hy, eqGuard, binOp, Op.intArith, xC]) h
theorem zdT {p q : Nat} (hx : a.eval x = u p) (hy : a.eval y = u q) (hq : q ≤ 18446744073709551616) (h : z8 P G R ops K rest (a.put d (u ((p + 18446744073709551616 - q) % 18446744073709551616))) m) :
  z8 P G R ops K (⟨d, .binOp .sub T x y T', ty, pos, aft, none⟩ :: rest) a m :=
 zJ (fun w => by simp [hx, hy, eqGuard, binOp, Op.intArith, xC]; omega) h
theorem zfd {p q : Nat} (hx : a.eval x = u p) (hy : a.eval y = u q) (h : z8 P G R ops K rest (a.put d (u ((p * q) % 18446744073709551616))) m) :
  z8 P G R ops K (⟨d, .binOp .mul T x y T', ty, pos, aft, none⟩ :: rest) a m :=
 zJ (fun w => by simp [hx, hy, eqGuard, binOp, Op.intArith, xC]) h
theorem zfN (p q : Nat) : IntKind.u64.wrap ((BitVec.ofNat 64 p &&& BitVec.ofNat 64 q).toNat : Int) = ((p &&& q : Nat) : Int) % 18446744073709551616 := by
 rw [xC]
 rw [BitVec.toNat_and, BitVec.toNat_ofNat, BitVec.toNat_ofNat, ← Nat.and_mod_two_pow]
 omega
theorem zgr (p q : Nat) : IntKind.u64.wrap ((BitVec.ofNat 64 p ||| BitVec.ofNat 64 q).toNat : Int) = ((p ||| q : Nat) : Int) % 18446744073709551616 := by
 rw [xC]
 rw [BitVec.toNat_or, BitVec.toNat_ofNat, BitVec.toNat_ofNat, ← Nat.or_mod_two_pow]
 omega
theorem zdI {p q : Nat} (hx : a.eval x = u p) (hy : a.eval y = u q) (h : z8 P G R ops K rest (a.put d (u ((p &&& q) % 18446744073709551616))) m) :
  z8 P G R ops K (⟨d, .binOp .and T x y T', ty, pos, aft, none⟩ :: rest) a m :=
 zJ (fun w => by
  have := zfN p q
  simp only [hx, hy, eqGuard, binOp, Op.intBits, IntKind.bits]
  simp
  exact this) h
theorem zhS {p q : Nat} (hx : a.eval x = u p) (hy : a.eval y = u q) (h : z8 P G R ops K rest (a.put d (u ((p ||| q) % 18446744073709551616))) m) :
  z8 P G R ops K (⟨d, .binOp .or T x y T', ty, pos, aft, none⟩ :: rest) a m :=
 zJ (fun w => by
  have := zgr p q
  simp only [hx, hy, eqGuard, binOp, Op.intBits, IntKind.bits]
  simp
  exact this) h
theorem zeu {k' : IntKind} {p s : Nat} (hx : a.eval x = u p) (hy : a.eval y = .int k' (s : Int)) (hs : s ≤ 64) (h : z8 P G R ops K rest (a.put d (u ((p * 2 ^ s) % 18446744073709551616))) m) :
  z8 P G R ops K (⟨d, .binOp .shl T x y T', ty, pos, aft, none⟩ :: rest) a m :=
 zJ (fun w => by
  have h0 : ¬ ((s : Int) < 0) := by omega
  have h1 : min ((s : Int).toNat) (IntKind.u64.bits) = s := by simp [IntKind.bits]; omega
  simp only [hx, hy, eqGuard, binOp, Op.shift, h0, if_false, h1, xC]
  simp) h
theorem zcw {k' : IntKind} {p s : Nat} (hx : a.eval x = u p) (hy : a.eval y = .int k' (s : Int)) (hs : s ≤ 64) (h : z8 P G R ops K rest (a.put d (u (p / 2 ^ s))) m) :
  z8 P G R ops K (⟨d, .binOp .shr T x y T', ty, pos, aft, none⟩ :: rest) a m :=
 zJ (fun w => by
  have h0 : ¬ ((s : Int) < 0) := by omega
  have h1 : min ((s : Int).toNat) (IntKind.u64.bits) = s := by simp [IntKind.bits]; omega
  simp only [hx, hy, eqGuard, binOp, Op.shift, h0, if_false, h1]
  have e : (p : Int).fdiv (2 ^ s) = ((p / 2 ^ s : Nat) : Int) := by
   rw [Int.fdiv_eq_ediv_of_nonneg _ (by exact Int.le_of_lt (Int.pow_pos (by decide)))]
   simp
  simp [e]) h
theorem zdY {p q : Nat} (hx : a.eval x = u p) (hy : a.eval y = u q) (hp : p < 18446744073709551616) (hq : 0 < q) (h : z8 P G R ops K rest (a.put d (u (p / q))) m) :
  z8 P G R ops K (⟨d, .binOp .quo T x y T', ty, pos, aft, none⟩ :: rest) a m :=
 zJ (fun w => by
  have h0 : ¬ ((q : Int) = 0) := by omega
  have e : ((p : Int).tdiv (q : Int)) % 18446744073709551616 = ((p / q : Nat) : Int) := by
   rw [Int.tdiv_eq_ediv_of_nonneg (by omega)]
   have h3 : p / q ≤ p := Nat.div_le_self _ _
   have e2 : ((p : Int) / (q : Int)) = ((p / q : Nat) : Int) := by simp
   rw [e2]
   generalize p / q = t at *
   omega
  simp only [hx, hy, eqGuard, binOp, Op.intDiv, h0, if_false, xC, e]
  simp) h
theorem zfD {p q : Nat} (hx : a.eval x = u p) (hy : a.eval y = u q) (hq : 0 < q) (h : z8 P G R ops K rest (a.put d (u (p % q))) m) :
  z8 P G R ops K (⟨d, .binOp .rem T x y T', ty, pos, aft, none⟩ :: rest) a m :=
 zJ (fun w => by
  have h0 : ¬ ((q : Int) = 0) := by omega
  have e : ((p : Int).tmod (q : Int)) = ((p % q : Nat) : Int) := by
   rw [Int.tmod_eq_emod_of_nonneg (by omega)]; simp
  simp only [hx, hy, eqGuard, binOp, Op.intDiv, h0, if_false, e]
  simp) h
theorem zeW {p q : Nat} (hx : a.eval x = ii p) (hy : a.eval y = ii q) (hb : p + q < 9223372036854775808) (h : z8 P G R ops K rest (a.put d (ii (p + q))) m) :
  z8 P G R ops K (⟨d, .binOp .add T x y T', ty, pos, aft, none⟩ :: rest) a m :=
 zJ (fun w => by
  have : IntKind.i64.wrap ((p : Int) + q) = ((p + q : Nat) : Int) := by rw [wZ (by omega) (by omega)]; omega
  simp [hx, hy, eqGuard, binOp, Op.intArith, this]) h
theorem ze6 {p q : Nat} (hx : a.eval x = ii p) (hy : a.eval y = ii q) (hb : p * q < 9223372036854775808) (h : z8 P G R ops K rest (a.put d (ii (p * q))) m) :
  z8 P G R ops K (⟨d, .binOp .mul T x y T', ty, pos, aft, none⟩ :: rest) a m :=
 zJ (fun w => by
  have e : ((p : Int) * q) = ((p * q : Nat) : Int) := by simp
  have : IntKind.i64.wrap ((p : Int) * q) = ((p * q : Nat) : Int) := by rw [e, wZ (by omega) (by omega)]
  simp [hx, hy, eqGuard, binOp, Op.intArith, this]) h
theorem zfE {p q : Nat} (hx : a.eval x = ii p) (hy : a.eval y = ii q) (hp : p < 9223372036854775808) (hq : 0 < q) (h : z8 P G R ops K rest (a.put d (ii (p / q))) m) :
  z8 P G R ops K (⟨d, .binOp .quo T x y T', ty, pos, aft, none⟩ :: rest) a m :=
 zJ (fun w => by
  have h0 : ¬ ((q : Int) = 0) := by omega
  have e : IntKind.i64.wrap ((p : Int).tdiv (q : Int)) = ((p / q : Nat) : Int) := by
   rw [Int.tdiv_eq_ediv_of_nonneg (by omega)]
   have h3 : p / q ≤ p := Nat.div_le_self _ _
   have e2 : ((p : Int) / (q : Int)) = ((p / q : Nat) : Int) := by simp
   rw [e2]
   generalize p / q = t at *
   rw [wZ (by omega) (by omega)]
  simp only [hx, hy, eqGuard, binOp, Op.intDiv, h0, if_false, e]
  simp) h
theorem zcr {p q : Nat} (hx : a.eval x = ii p) (hy : a.eval y = ii q) (hq : 0 < q) (h : z8 P G R ops K rest (a.put d (ii (p % q))) m) :
  z8 P G R ops K (⟨d, .binOp .rem T x y T', ty, pos, aft, none⟩ :: rest) a m :=
 zJ (fun w => by
  have h0 : ¬ ((q : Int) = 0) := by omega
  have e : ((p : Int).tmod (q : Int)) = ((p % q : Nat) : Int) := by
   rw [Int.tmod_eq_emod_of_nonneg (by omega)]; simp
  simp only [hx, hy, eqGuard, binOp, Op.intDiv, h0, if_false, e]
  simp) h
theorem zcM {p q : Int} (hx : a.eval x = .int .i64 p) (hy : a.eval y = .int .i64 q) (h0 : -9223372036854775808 ≤ p - q) (h1 : p - q < 9223372036854775808) (h : z8 P G R ops K rest (a.put d (.int .i64 (p - q))) m) :
  z8 P G R ops K (⟨d, .binOp .sub T x y T', ty, pos, aft, none⟩ :: rest) a m :=
 zJ (fun w => by simp [hx, hy, eqGuard, binOp, Op.intArith, wZ h0 h1]) h
theorem zld {k : IntKind} {p q : Int} (hx : a.eval x = .int k p) (hy : a.eval y = .int k q) (h : z8 P G R ops K rest (a.put d (.bool (decide (p < q)))) m) :
  z8 P G R ops K (⟨d, .binOp .lss T x y T', ty, pos, aft, none⟩ :: rest) a m :=
 zJ (fun w => by simp [hx, hy, eqGuard, binOp, Op.intCmp]) h
theorem zll {k : IntKind} {p q : Int} (hx : a.eval x = .int k p) (hy : a.eval y = .int k q) (h : z8 P G R ops K rest (a.put d (.bool (decide (q < p)))) m) :
  z8 P G R ops K (⟨d, .binOp .gtr T x y T', ty, pos, aft, none⟩ :: rest) a m :=
 zJ (fun w => by simp [hx, hy, eqGuard, binOp, Op.intCmp]) h
theorem zki {k : IntKind} {p q : Int} (hx : a.eval x = .int k p) (hy : a.eval y = .int k q) (h : z8 P G R ops K rest (a.put d (.bool (decide (q ≤ p)))) m) :
  z8 P G R ops K (⟨d, .binOp .geq T x y T', ty, pos, aft, none⟩ :: rest) a m :=
 zJ (fun w => by simp [hx, hy, eqGuard, binOp, Op.intCmp]) h
theorem zkE {k : IntKind} {p q : Int} (hx : a.eval x = .int k p) (hy : a.eval y = .int k q) (h : z8 P G R ops K rest (a.put d (.bool (decide (p = q)))) m) :
  z8 P G R ops K (⟨d, .binOp .eql T x y T', ty, pos, aft, none⟩ :: rest) a m :=
 zJ (fun w => by
  have e : (p == q) = decide (p = q) := by by_cases h : p = q <;> simp [h]
  simp [hx, hy, eqGuard, binOp, Op.intCmp, e]) h
theorem zkc {k : IntKind} {p q : Int} (hx : a.eval x = .int k p) (hy : a.eval y = .int k q) (h : z8 P G R ops K rest (a.put d (.bool (decide (p ≠ q)))) m) :
  z8 P G R ops K (⟨d, .binOp .neq T x y T', ty, pos, aft, none⟩ :: rest) a m :=
 zJ (fun w => by
  have e : (p != q) = decide (p ≠ q) := by by_cases h : p = q <;> simp [h]
  simp [hx, hy, eqGuard, binOp, Op.intCmp, e]) h
theorem ziZ {b : Bool} (hx : a.eval x = .bool b) (h : z8 P G R ops K rest (a.put d (.bool (!b))) m) : z8 P G R ops K (⟨d, .unOp .not T x, ty, pos, aft, none⟩ :: rest) a m :=
 zK (v := .bool (!b)) rfl rfl (fun w => by simp [execOp, hx, Op.unary]) h
theorem zcp {p : Nat} (hx : a.eval x = u p) (hp : p ≤ 18446744073709551616) (h : z8 P G R ops K rest (a.put d (u ((18446744073709551616 - p) % 18446744073709551616))) m) :
  z8 P G R ops K (⟨d, .unOp .neg T x, ty, pos, aft, none⟩ :: rest) a m :=
 zK (v := u ((18446744073709551616 - p) % 18446744073709551616)) rfl rfl (fun w => by simp [execOp, hx, Op.unary, Op.intArith, xC]; omega) h
theorem zc9 {o : Oper} {S T : TypeId} {x : Operand} (ho : o.op = .convert S T x) (hv : xv R S T = 1) : cls R o = 1 := by
 simp only [cls, ho, hv]
theorem ZZ {v : Value} (hv : xv R T T' = 1) (hr : ∀ w, MemR G w → vis R m w → (execOp a.eval ⟨d, .convert T T' x, ty, pos, aft, none⟩).run P w = .ok (.value v) w) (h : z8 P G R ops K rest (a.put d v) m) :
  z8 P G R ops K (⟨d, .convert T T' x, ty, pos, aft, none⟩ :: rest) a m :=
 .inr ⟨rfl, by rw [zc9 rfl hv]; exact ⟨v, fun w hG hm => .inl (hr w hG hm), h⟩⟩
theorem zc0 {k : IntKind} {dk : TypeDesc} {p : Nat} (hv : xv R T T' = 1) (hs : P.underlying T = some dk) (ht : P.underlying T' = some (.int .u64)) (hx : a.eval x = .int k (p : Int))
  (h : z8 P G R ops K rest (a.put d (u (p % 18446744073709551616))) m) : z8 P G R ops K (⟨d, .convert T T' x, ty, pos, aft, none⟩ :: rest) a m :=
 ZZ hv (v := u (p % 18446744073709551616)) (fun w _ _ => by
  simp only [execOp, convert, underlying, program, hx]
  simp [Sem.run, hs, ht, Conv.intToInt, xC]) h
theorem z7O {k : IntKind} {dk : TypeDesc} {p : Nat} (hv : xv R T T' = 1) (hs : P.underlying T = some dk) (ht : P.underlying T' = some (.int .u8)) (hx : a.eval x = .int k (p : Int))
  (h : z8 P G R ops K rest (a.put d (by8 (p % 256))) m) : z8 P G R ops K (⟨d, .convert T T' x, ty, pos, aft, none⟩ :: rest) a m :=
 ZZ hv (v := by8 (p % 256)) (fun w _ _ => by
  simp only [execOp, convert, underlying, program, hx]
  simp [Sem.run, hs, ht, Conv.intToInt, YP]) h
theorem zcC {z : Value} (hz : (P.info? T).bind (·.zero) = some z) (h : ∀ r, (∀ x ∈ m, x.b ≠ r) → z8 P G R ops K rest (a.put d (ptr r)) (m ++ [⟨r, z.cells, T⟩])) :
  z8 P G R ops K (⟨d, .alloc T, ty, pos, aft, none⟩ :: rest) a m :=
 .inr ⟨rfl, z.cells, T, ptr, fun w => by
  cases hi : P.info? T with
  | none => simp [hi] at hz
  | some i =>
   have hz' : i.zero = some z := by simpa [hi] using hz
   simp [execOp, Instr.alloc, zeroValue, typeInfo, hi, hz', newVar, newRow, ptr], h⟩
theorem ziR {v : Value} (hx : a.eval x = v) (h : ∀ r, (∀ x ∈ m, x.b ≠ r) → z8 P G R ops K rest (a.put d (ptr r)) (m ++ [⟨r, v.cells, T⟩])) :
  z8 P G R ops K (⟨d, .box T x, ty, pos, aft, none⟩ :: rest) a m :=
 .inr ⟨rfl, v.cells, T, ptr, fun w => by simp [execOp, Instr.box, newVar, newRow, ptr, hx], h⟩
def zy : TypeDesc → Bool
 | .struct _ | .array _ _ => true
 | _ => false
theorem yO {td : TypeDesc} (hT : P.underlying T = some td) (w : World) : (isAgg T).run P w = .ok (zy td) w := by
 simp only [isAgg, underlying, program]
 simp only [Sem.run_bind, Sem.run, Result.andThen_ok, hT]
 cases td <;> rfl
theorem xi {i : Nat} {z : Blk} (hm : m[i]? = some z) : z ∈ m := List.mem_of_getElem? hm
theorem zcq {b o i : Nat} {c : Array Value} {t : TypeId} {v : Value} {td : TypeDesc} (hT : P.underlying T = some td) (hn : zy td = false) (hx : a.eval x = .pointer (some ⟨b, o, none⟩))
  (hm : m[i]? = some ⟨b, c, t⟩) (hX : b ∉ R.X ∧ inL R.L b) (hc : c[o]? = some v) (h : z8 P G R ops K rest (a.put d v) m) : z8 P G R ops K (⟨d, .load T x, ty, pos, aft, none⟩ :: rest) a m :=
 .inr ⟨rfl, v, fun w _ hw => .inl (by
  have hin := hw _ (xi hm) hX
  have hcell : w.cell? ⟨b, o, none⟩ = some v := by rw [In.cell hin o]; exact hc
  simp only [execOp, Instr.loadAt, hx, Instr.sureAddr, loadVar]
  simp [yO hT, hn, hcell]), h⟩
theorem zbW {b o i : Nat} {c : Array Value} {t : TypeId} {v : Value} {td : TypeDesc} (hT : P.underlying T = some td) (hn : zy td = false) (hx : a.eval x = .pointer (some ⟨b, o, none⟩))
  (hm : G[i]? = some ⟨b, c, t⟩) (hc : c[o]? = some v) (h : z8 P G R ops K rest (a.put d v) m) : z8 P G R ops K (⟨d, .load T x, ty, pos, aft, none⟩ :: rest) a m :=
 .inr ⟨rfl, v, fun w hw _ => .inl (by
  have hin := hw _ (xi hm)
  have hcell : w.cell? ⟨b, o, none⟩ = some v := by rw [hin.2 o (Array.getElem?_eq_some_iff.1 hc).1]; exact hc
  simp only [execOp, Instr.loadAt, hx, Instr.sureAddr, loadVar]
  simp [yO hT, hn, hcell]), h⟩
theorem Z0 {w : World} {z : Blk} (hin : RIn w z) : ∀ (n i : Nat) (acc : Array Value), i + n = z.c.size →
  (loadCellsFrom ⟨z.b, 0, none⟩ i n acc).run P w = .ok (acc ++ z.c.extract i z.c.size) w
 | 0, i, acc, h => by
  have : i = z.c.size := by omega
  subst this
  simp [loadCellsFrom]
 | n + 1, i, acc, h => by
  have hi : i < z.c.size := by omega
  have hcell : w.cell? ((⟨z.b, 0, none⟩ : Addr).add i) = some z.c[i] := by
   have e : (⟨z.b, 0, none⟩ : Addr).add i = ⟨z.b, i, none⟩ := by
    unfold Addr.add; split
    ·rename_i h0; subst h0; rfl
    ·simp
   rw [e, hin.2 i hi]; simp [hi]
  unfold loadCellsFrom
  simp only [Sem.run_bind, run_load, hcell, Result.andThen_ok]
  rw [Z0 hin n (i + 1) (acc.push z.c[i]) (by omega)]
  congr 1
  apply Array.ext
  ·simp; omega
  ·intro j h1 h2
   by_cases hj : j < acc.size
   ·have hj2 : j < acc.size + 1 := by omega
    simp [hj, hj2, Array.getElem_push]
   ·by_cases hj' : j = acc.size
    ·subst hj'; simp
    ·have : ¬ j < acc.size + 1 := by omega
     simp [Array.getElem_append, hj, this]
     congr 1; omega
theorem Yr {w : World} {z : Blk} {td : TypeDesc} (hin : RIn w z) (hT : P.underlying T = some td) (hn : zy td = true) (hs : (P.info? T).map (·.size) = some z.c.size) :
  (loadVar T ⟨z.b, 0, none⟩).run P w = .ok (.agg z.c) w := by
 cases hi : P.info? T with
 | none => simp [hi] at hs
 | some i =>
  have hsz : i.size = z.c.size := by simpa [hi] using hs
  have := Z0 (P := P) hin z.c.size 0 #[] (by omega)
  simp only [loadVar, loadCells, sizeOf, typeInfo]
  simp [yO hT, hn, hi, hsz, this]
theorem zfm {b i : Nat} {c : Array Value} {t : TypeId} {td : TypeDesc} (hT : P.underlying T = some td) (hn : zy td = true) (hs : (P.info? T).map (·.size) = some c.size)
  (hx : a.eval x = .pointer (some ⟨b, 0, none⟩)) (hm : m[i]? = some ⟨b, c, t⟩) (hX : b ∉ R.X ∧ inL R.L b) (h : z8 P G R ops K rest (a.put d (.agg c)) m) : z8 P G R ops K (⟨d, .load T x, ty, pos, aft, none⟩ :: rest) a m :=
 .inr ⟨rfl, .agg c, fun w _ hw => .inl (by
  have hin := (hw _ (xi hm) hX).read
  simp only [execOp, Instr.loadAt, hx, Instr.sureAddr]
  simp [Yr hin hT hn hs]), h⟩
theorem zb5 {b i : Nat} {c : Array Value} {t : TypeId} {td : TypeDesc} (hT : P.underlying T = some td) (hn : zy td = true) (hs : (P.info? T).map (·.size) = some c.size)
  (hx : a.eval x = .pointer (some ⟨b, 0, none⟩)) (hm : G[i]? = some ⟨b, c, t⟩) (h : z8 P G R ops K rest (a.put d (.agg c)) m) : z8 P G R ops K (⟨d, .load T x, ty, pos, aft, none⟩ :: rest) a m :=
 .inr ⟨rfl, .agg c, fun w hw _ => .inl (by
  have hin := hw _ (xi hm)
  simp only [execOp, Instr.loadAt, hx, Instr.sureAddr]
  simp [Yr hin hT hn hs]), h⟩
theorem Yh {w : World} {z : Blk} (hin : In w z) (o : Nat) (v : Value) : w.setCell ⟨z.b, o, none⟩ v = wM w ⟨z.b, z.c.setIfInBounds o v, z.t⟩ := by
 obtain ⟨q, h1, _⟩ := hin
 exact setCell_eq_setRow w z.b o z.c z.t q v h1
theorem yh (g o : Nat) (t : TypeId) : ∀ (vs : List Value) (i : Nat) (cur : Array Value) (w : World), In w ⟨g, cur, t⟩ → o + i + vs.length ≤ cur.size → (∀ v ∈ vs, v.oneCell' = true) →
  (storeCells ⟨g, o, none⟩ vs i).run P w = .ok () (w.setRow g (cur.toList.take (o + i) ++ vs ++ cur.toList.drop (o + i + vs.length)).toArray)
 | [], i, cur, w, ⟨q, hg, _⟩, _, _ => by
  simp only [storeCells, List.append_nil, List.length_nil, Nat.add_zero, List.take_append_drop, Array.toArray_toList]
  rw [setRow_self w g cur t q hg]
  rfl
 | v :: rest, i, cur, w, hin, hl, h1 => by
  have hi : o + i < cur.size := by simp at hl; omega
  have hadd : (⟨g, o, none⟩ : Addr).add i = ⟨g, o + i, none⟩ := by unfold Addr.add; split <;> simp_all
  have hcell : w.cell? ⟨g, o + i, none⟩ = some cur[o + i] := by rw [In.cell hin]; simp [hi]
  have hfro : w.frozen? ⟨g, o + i, none⟩ = false := In.frozen hin hi
  have hsc := Yh hin (o + i) v
  have hst : (store ((⟨g, o, none⟩ : Addr).add i) v).run P w = .ok () (w.setRow g (cur.setIfInBounds (o + i) v)) := by
   rw [hadd, run_store P w _ v _ (h1 v (by simp)), hcell]
   simp only [wM] at hsc
   simp [hfro, hsc]
  have ih := yh g o t rest (i + 1) (cur.setIfInBounds (o + i) v) (w.setRow g (cur.setIfInBounds (o + i) v)) (hin.set (by simp)) (by simp at hl ⊢; omega) (fun x hx => h1 x (by simp [hx]))
  simp only [storeCells, Sem.run_bind, hst, Result.andThen_ok, ih, setRow_setRow]
  congr 3
  have e := list_seg_step cur.toList (o + i) v rest (by simp at hl ⊢; omega)
  simpa [Array.toList_setIfInBounds, Nat.add_assoc] using e
theorem WE {i : Nat} {z : Blk} (hm : m[i]? = some z) (hX : hid R ⟨d, .store T x y, ty, pos, aft, none⟩ z.b) (c' : Array Value) (hsz : c'.size = z.c.size) (hrun : ∀ w, In w z → (execOp a.eval ⟨d, .store T x y, ty, pos, aft, none⟩).run P w = .ok .skip (wM w ⟨z.b, c', z.t⟩))
  (h : z8 P G R ops K rest (a.put d undef) (m.set i ⟨z.b, c', z.t⟩)) (hYk : yOk R ⟨d, .store T x y, ty, pos, aft, none⟩ z.b) : z8 P G R ops K (⟨d, .store T x y, ty, pos, aft, none⟩ :: rest) a m := by
 have hi : i < m.length := (List.getElem?_eq_some_iff.1 hm).1
 have hz : m[i] = z := (List.getElem?_eq_some_iff.1 hm).2
 refine .inr ⟨rfl, m.take i, z, m.drop (i + 1), c', ?_, ⟨⟨hX, hYk⟩, hsz⟩, hrun, ?_⟩
 ·rw [← hz, List.getElem_cons_drop, List.take_append_drop]
 ·rw [List.set_eq_take_append_cons_drop, if_pos hi] at h
  exact h
theorem zdu {i : Nat} {z : Blk} (hm : m[i]? = some z) (hX : R.X = [] ∨ z.b ∈ R.X) (c' : Array Value) (hsz : c'.size = z.c.size) (hrun : ∀ w, In w z → (execOp a.eval ⟨d, .store T x y, ty, pos, aft, none⟩).run P w = .ok .skip (wM w ⟨z.b, c', z.t⟩))
  (h : z8 P G R ops K rest (a.put d undef) (m.set i ⟨z.b, c', z.t⟩)) (hY : R.Y = none := by first | rfl | assumption) : z8 P G R ops K (⟨d, .store T x y, ty, pos, aft, none⟩ :: rest) a m := WE hm (z0o hY hX) c' hsz hrun h (z16 hY _ _)
theorem z6K {b o i : Nat} {c : Array Value} {t : TypeId} {v : Value} (hs : (P.info? T).map (·.size) = some 1) (hx : a.eval x = .pointer (some ⟨b, o, none⟩)) (hy : a.eval y = v) (hv : v.oneCell' = true)
  (hm : m[i]? = some ⟨b, c, t⟩) (hX : hid R ⟨d, .store T x y, ty, pos, aft, none⟩ b) (ho : o < c.size) (h : z8 P G R ops K rest (a.put d undef) (m.set i ⟨b, c.setIfInBounds o v, t⟩)) (hYk : yOk R ⟨d, .store T x y, ty, pos, aft, none⟩ b) : z8 P G R ops K (⟨d, .store T x y, ty, pos, aft, none⟩ :: rest) a m :=
 WE hm hX (c.setIfInBounds o v) (by simp) (fun w hin => by
  have hcell : w.cell? ⟨b, o, none⟩ = some c[o] := by rw [In.cell hin o]; simp [ho]
  have hfz := In.frozen hin ho
  simp only at hfz
  have hcs : v.cells = #[v] := by cases v <;> first | rfl | (simp [Value.oneCell'] at hv)
  cases hi : P.info? T with
  | none => simp [hi] at hs
  | some j =>
   have hsz : j.size = 1 := by simpa [hi] using hs
   have e0 : (⟨b, o, none⟩ : Addr).add 0 = ⟨b, o, none⟩ := rfl
   simp only [execOp, Instr.storeAt, hx, hy, Instr.sureAddr, storeVar, sizeOf, typeInfo]
   simp [hi, hsz, hcs, storeCells, e0, run_store _ _ _ _ _ hv, hcell, hfz, Yh hin]) h hYk
theorem V0 {b o i : Nat} {c : Array Value} {t : TypeId} {v : Value} (hs : (P.info? T).map (·.size) = some 1) (hx : a.eval x = .pointer (some ⟨b, o, none⟩)) (hy : a.eval y = v) (hv : v.oneCell' = true)
  (hm : m[i]? = some ⟨b, c, t⟩) (hX : R.X = [] ∨ b ∈ R.X) (ho : o < c.size) (h : z8 P G R ops K rest (a.put d undef) (m.set i ⟨b, c.setIfInBounds o v, t⟩)) (hY : R.Y = none := by first | rfl | assumption) : z8 P G R ops K (⟨d, .store T x y, ty, pos, aft, none⟩ :: rest) a m := z6K hs hx hy hv hm (z0o hY hX) ho h (z16 hY _ _)
theorem z9R {b o i n v : Nat} {k : IntKind} {f : Nat → Nat} {t : TypeId} (hs : (P.info? T).map (·.size) = some 1) (hx : a.eval x = .pointer (some ⟨b, o, none⟩)) (hy : a.eval y = .int k (v : Int))
  (hm : m[i]? = some ⟨b, arr k n f, t⟩) (hX : R.X = [] ∨ b ∈ R.X) (ho : o < n) (h : z8 P G R ops K rest (a.put d undef) (m.set i ⟨b, arr k n (upd f o v), t⟩)) (hY : R.Y = none := by first | rfl | assumption) : z8 P G R ops K (⟨d, .store T x y, ty, pos, aft, none⟩ :: rest) a m :=
 V0 hs hx hy rfl hm hX (by rw [zd]; exact ho) (by rw [zhp]; exact h)
theorem z0r {b i : Nat} {c c' : Array Value} {t : TypeId} (hs : (P.info? T).map (·.size) = some c'.size) (hx : a.eval x = .pointer (some ⟨b, 0, none⟩)) (hy : a.eval y = .agg c')
  (hv : ∀ v ∈ c', v.oneCell' = true) (hm : m[i]? = some ⟨b, c, t⟩) (hX : hid R ⟨d, .store T x y, ty, pos, aft, none⟩ b) (ho : c'.size = c.size) (h : z8 P G R ops K rest (a.put d undef) (m.set i ⟨b, c', t⟩)) (hYk : yOk R ⟨d, .store T x y, ty, pos, aft, none⟩ b) : z8 P G R ops K (⟨d, .store T x y, ty, pos, aft, none⟩ :: rest) a m :=
 WE hm hX c' ho (fun w hin => by
  have key : (storeCells ⟨b, 0, none⟩ c'.toList 0).run P w = .ok () (wM w ⟨b, c', t⟩) := by
   have h1 := yh (P := P) b 0 t c'.toList 0 c w hin (by simp [ho]) (fun v h => hv v (by simpa using h))
   rw [h1]
   congr 1
   unfold wM
   congr 1
   apply Array.ext'
   simp [ho]
  cases hi : P.info? T with
  | none => simp [hi] at hs
  | some j =>
   have hsz : j.size = c'.size := by simpa [hi] using hs
   simp only [execOp, Instr.storeAt, hx, hy, Instr.sureAddr, storeVar, sizeOf, typeInfo]
   simp [hi, hsz, Value.cells, key]) h hYk
theorem zbu {b i : Nat} {c c' : Array Value} {t : TypeId} (hs : (P.info? T).map (·.size) = some c'.size) (hx : a.eval x = .pointer (some ⟨b, 0, none⟩)) (hy : a.eval y = .agg c')
  (hv : ∀ v ∈ c', v.oneCell' = true) (hm : m[i]? = some ⟨b, c, t⟩) (hX : R.X = [] ∨ b ∈ R.X) (ho : c'.size = c.size) (h : z8 P G R ops K rest (a.put d undef) (m.set i ⟨b, c', t⟩)) (hY : R.Y = none := by first | rfl | assumption) : z8 P G R ops K (⟨d, .store T x y, ty, pos, aft, none⟩ :: rest) a m := z0r hs hx hy hv hm (z0o hY hX) ho h (z16 hY _ _)
theorem zeD {b o j n : Nat} {k : IntKind} {e : TypeId} (hT : P.underlying T = some (.array n e)) (hs : (P.info? e).map (·.size) = some 1) (hx : a.eval x = .pointer (some ⟨b, o, none⟩)) (hy : a.eval y = .int k (j : Int)) (hj : j < n)
  (h : z8 P G R ops K rest (a.put d (.pointer (some ⟨b, o + j, none⟩))) m) : z8 P G R ops K (⟨d, .indexAddr T x y, ty, pos, aft, none⟩ :: rest) a m :=
 zK (v := .pointer (some ⟨b, o + j, none⟩)) rfl rfl (fun w => by
  cases hi : P.info? e with
  | none => simp [hi] at hs
  | some i =>
   have hsz : i.size = 1 := by simpa [hi] using hs
   have h0 : (0 : Int) ≤ j ∧ (j : Int) < n := by omega
   have ha : (⟨b, o, none⟩ : Addr).add j = ⟨b, o + j, none⟩ := by
    unfold Addr.add; split
    ·rename_i h0; subst h0; rfl
    ·simp
   simp only [execOp, Instr.indexAt, hx, hy, asIntOf, underlying, program, sizeOf, typeInfo, Instr.sureAddr]
   simp [Sem.run, hT, hi, hsz, h0, ha, hj]) h
theorem zjD {j n : Nat} {k k' k2 : IntKind} {e : TypeId} {f : Nat → Nat} (hT : P.underlying T = some (.array n e)) (he : P.underlying e = some (.int k')) (hs : (P.info? e).map (·.size) = some 1) (hx : a.eval x = .agg (arr k n f)) (hy : a.eval y = .int k2 (j : Int)) (hj : j < n)
  (h : z8 P G R ops K rest (a.put d (.int k (f j : Int))) m) : z8 P G R ops K (⟨d, .index T x y, ty, pos, aft, none⟩ :: rest) a m :=
 zK (v := .int k (f j : Int)) rfl rfl (fun w => by
  cases hi : P.info? e with
  | none => simp [hi] at hs
  | some i =>
   have hsz : i.size = 1 := by simpa [hi] using hs
   have h0 : (0 : Int) ≤ j ∧ (j : Int) < n := by omega
   have hp : (part e (arr k n f) j).run P w = .ok (.int k (f j : Int)) w := by
    unfold part
    simp [yO he, zy, zP hj]
   simp only [execOp, Instr.index, hx, hy, asIntOf, underlying, program, sizeOf, typeInfo]
   simp [Sem.run, hT, hi, hsz, hj, hp]) h
theorem z9X {z : Value} {n : Nat} {e : TypeId} (hz : (P.info? T).bind (·.zero) = some z) (hT : P.underlying T = some (.array n e)) (hs : ((P.info? e).map (·.size)).isSome = true)
  (h : z8 P G R ops K rest (a.put d (.agg z.cells)) m) : z8 P G R ops K (⟨d, .build T #[], ty, pos, aft, none⟩ :: rest) a m :=
 zK (v := .agg z.cells) rfl rfl (fun w => by
  cases hi : P.info? T with
  | none => simp [hi] at hz
  | some i =>
   have hz' : i.zero = some z := by simpa [hi] using hz
   cases he : P.info? e with
   | none => simp [he] at hs
   | some j =>
    simp only [execOp, Instr.build, zeroValue, typeInfo, underlying, program, sizeOf]
    simp [Sem.run, hi, hz', hT, he, Instr.fill]) h
theorem zcv {z : Value} {l : Nat} {e : TypeId} {parts : Array (Nat × Operand)} {pv : List (Nat × Value)} {c : Array Value} (hz : (P.info? T).bind (·.zero) = some z) (hT : P.underlying T = some (.array l e)) (hs : (P.info? e).map (·.size) = some 1)
  (hp : parts.toList.map (fun p => (p.1, a.eval p.2)) = pv) (hf : Instr.fill (fun i => some (i * 1, 1)) z.cells pv = some c)
  (h : z8 P G R ops K rest (a.put d (.agg c)) m) : z8 P G R ops K (⟨d, .build T parts, ty, pos, aft, none⟩ :: rest) a m :=
 zK (v := .agg c) rfl rfl (fun w => by
  cases hi : P.info? T with
  | none => simp [hi] at hz
  | some i =>
   have hz' : i.zero = some z := by simpa [hi] using hz
   cases he : P.info? e with
   | none => simp [he] at hs
   | some j =>
    have hsz : j.size = 1 := by simpa [he] using hs
    have hp' : (parts.map fun (i, x) => (i, a.eval x)).toList = pv := by rw [← hp]; simp
    simp only [execOp, Instr.build, zeroValue, typeInfo, underlying, program, sizeOf]
    simp only [hp']
    simp only [Sem.run_bind, Sem.run, Sem.run_pure, Result.andThen_ok, hi, hz', hT, he, hsz, hf]) h
theorem z8e {p q r : Operand} {t : Bool} {v : Value} (hc : a.eval p = .bool t) (hv : (if t then a.eval q else a.eval r) = v) (h : z8 P G R ops K rest (a.put d v) m) :
  z8 P G R ops K (⟨d, .pick p q r, ty, pos, aft, none⟩ :: rest) a m :=
 zK (v := v) rfl rfl (fun w => by simp [execOp, hc, asBool, hv]) h
theorem zk4 {op : Op} {g : Nat} {want : Bool} (hw : yielded ops a.tmps g = some want) (h : z8 P G R ops K (⟨d, op, ty, pos, aft, none⟩ :: rest) a m) : z8 P G R ops K (⟨d, op, ty, pos, aft, some (g, want)⟩ :: rest) a m := by
 rcases h with ⟨h1, _⟩ | ⟨_, h2⟩
 ·simp [Region.wanted] at h1
 ·exact .inr ⟨by simp [Region.wanted, hw], h2⟩
theorem zkr {op : Op} {g : Nat} {want b : Bool} (hw : yielded ops a.tmps g = some b) (hne : b ≠ want) (h : z8 P G R ops K rest (a.put d undef) m) : z8 P G R ops K (⟨d, op, ty, pos, aft, some (g, want)⟩ :: rest) a m :=
 .inl ⟨by simp [Region.wanted, hw, hne], h⟩
def zO (l : Nat) (f g : Nat → Nat) : Bool := (List.range l).all fun j => f j == g j
theorem x9 {l : Nat} {f g : Nat → Nat} : zO l f g = true ↔ ∀ j, j < l → f j = g j := by simp [zO]
theorem zdc {e : TypeId} {k k' : IntKind} {n : Nat} {f : Nat → Nat} {i : Nat} (he : P.underlying e = some (.int k')) (hi : i < n) (w : World) :
  (part e (arr k n f) i).run P w = .ok (.int k (f i : Int)) w := by
 unfold part
 simp [yO he, zy, zP hi]
theorem vv {dp : Nat} {e : TypeId} {k k' : IntKind} {n : Nat} {f g : Nat → Nat} (hT : P.underlying T = some (.array n e)) (he : P.underlying e = some (.int k')) (hs : (P.info? e).map (·.size) = some 1) (w : World) :
  (Op.equalIn (dp + 2) T (.agg (arr k n f)) (.agg (arr k n g))).run P w = .ok (zO n f g) w := by
 cases hi : P.info? e with
 | none => simp [hi] at hs
 | some i =>
  have hsz : i.size = 1 := by simpa [hi] using hs
  have key : ∀ l : List Nat, (∀ j ∈ l, j < n) → (forIn l ((none : Option Bool), ()) (fun i __s => do
      let __do_lift ← part e (arr k n f) i
      let __do_lift_1 ← part e (arr k n g) i
      let __do_lift ← Op.equalIn (dp + 1) e __do_lift __do_lift_1
      if __do_lift = false then pure (ForInStep.done (some false, ())) else pure (ForInStep.yield (none, ())))).run P w
    = .ok (if (l.all fun j => f j == g j) then none else some false, ()) w := by
   intro l
   induction l with
   | nil => intro _; rfl
   | cons j l ih =>
    intro hl
    have hj := hl j (by simp)
    rw [List.forIn_cons]
    simp only [Sem.run_bind, zdc he hj, Result.andThen_ok, run_equalIn_int w dp e k k' _ _ he]
    by_cases hfg : f j = g j
    ·simp [hfg, ih (fun x hx => hl x (by simp [hx]))]
    ·have : ((f j : Int) == (g j : Int)) = false := by simp; omega
     simp [this, hfg]
  unfold Op.equalIn
  simp only [underlying, program, sizeOf, typeInfo]
  simp [Sem.run, hT, hi, hsz]
  rw [key _ (fun j hj => by simpa using hj)]
  unfold zO
  rw [List.range_eq_range']
  simp only [Result.andThen_ok]
  cases ((List.range' 0 n).all fun j => f j == g j) <;> rfl
theorem zjx {e : TypeId} {k k' : IntKind} {n : Nat} {f g : Nat → Nat} (hT : P.underlying T = some (.array n e)) (he : P.underlying e = some (.int k')) (hs : (P.info? e).map (·.size) = some 1) (hg : P.eqGuardType P.depth T = false)
  (hx : a.eval x = .agg (arr k n f)) (hy : a.eval y = .agg (arr k n g)) (h : z8 P G R ops K rest (a.put d (.bool (zO n f g))) m) : z8 P G R ops K (⟨d, .binOp .eql T x y T', ty, pos, aft, none⟩ :: rest) a m :=
 zJ (fun w => by
  rw [hx, hy]
  have := vv (dp := 9998) (k := k) (f := f) (g := g) hT he hs w
  simp only [Sem.run_bind, run_eqGuard_agg w .eql T x y _ _ hg, Result.andThen_ok, run_eql_struct, this]) h
theorem ziX {e : TypeId} {k k' : IntKind} {n : Nat} {f g : Nat → Nat} (hT : P.underlying T = some (.array n e)) (he : P.underlying e = some (.int k')) (hs : (P.info? e).map (·.size) = some 1) (hg : P.eqGuardType P.depth T = false)
  (hx : a.eval x = .agg (arr k n f)) (hy : a.eval y = .agg (arr k n g)) (h : z8 P G R ops K rest (a.put d (.bool (!zO n f g))) m) : z8 P G R ops K (⟨d, .binOp .neq T x y T', ty, pos, aft, none⟩ :: rest) a m :=
 zJ (fun w => by
  rw [hx, hy]
  have := vv (dp := 9998) (k := k) (f := f) (g := g) hT he hs w
  simp only [Sem.run_bind, run_eqGuard_agg w .neq T x y _ _ hg, Result.andThen_ok, run_neq_struct, this]) h
theorem zjQ {p q : Bool} (hT : P.underlying T = some .bool) (hx : a.eval x = .bool p) (hy : a.eval y = .bool q) (h : z8 P G R ops K rest (a.put d (.bool (p == q))) m) :
  z8 P G R ops K (⟨d, .binOp .eql T x y T', ty, pos, aft, none⟩ :: rest) a m :=
 zJ (fun w => by
  have h1 : (Op.equalIn 10000 T (.bool p) (.bool q)).run P w = .ok (p == q) w := run_equalIn_bool' w 9999 T p q hT
  rw [hx, hy]
  simp only [Sem.run_bind, eqGuard, binOp, Op.equal, Op.maxDepth]
  simp [h1]) h
def yW (R : Reg) : Bool := R.c == 1 || R.c == 4 || R.c == 5
theorem WI (hR : yW R = true) {o : Oper} {v : Value} (hr : ∀ w, MemR G w → vis R m w → Yl P o a w v) (h : K (a.put o.dst v) m) : Z3 P G R o K a m (bif Y9 R o.dst then 1 else R.c) := by
 have key : ∀ w, Yl P o a w v → ∀ S : Value → Mem → Mem → Prop, S v [] [] → Ye P o a w [] S := fun w hy S hS => by
  rcases hy with h1 | ⟨f, args, h1, hc⟩
  ·exact .inl ⟨v, [], [], w, h1, hS, Post.of_below (Below.refl _ _)⟩
  ·exact .inr ⟨f, args, h1, hc.mono fun e w' ⟨he, hb⟩ => ⟨v, [], [], he, hS, Post.of_below hb⟩⟩
 have fr : FreshM m [] := ⟨by simp, by simp⟩
 cases Y9 R o.dst with
 | true => exact ⟨v, hr, h⟩
 | false =>
 show Z3 P G R o K a m R.c
 unfold yW at hR
 generalize R.c = k at hR
 match k with
 | 0 => simp at hR
 | 1 => exact ⟨v, hr, h⟩
 | 2 => simp at hR
 | 3 => simp at hR
 | 4 =>
  refine ⟨fun v' nw => v' = v ∧ nw = [], fun _ => ⟨v, [], ⟨rfl, rfl⟩, by simp, by simp⟩, fun w h1 h2 => key w (hr w h1 h2) _ ⟨rfl, rfl, rfl⟩, ?_⟩
  rintro v' nw ⟨rfl, rfl⟩ _
  simpa using h
 | 5 =>
  refine ⟨[], m, fun v' l1 nw => v' = v ∧ l1 = [] ∧ nw = [], by simp, fun _ => ⟨v, [], [], ⟨rfl, rfl, rfl⟩, by simp, by simp⟩, ?_, fun w h1 h2 _ => key w (hr w h1 (fun z hz _ => h2 z hz)) _ ⟨rfl, rfl, rfl⟩, ?_⟩
  ·exact ⟨by rintro v' l1 nw ⟨_, rfl, _⟩; rfl, by simp⟩
  ·rintro v' l1 nw ⟨rfl, rfl, rfl⟩ _
   simpa using h
 | 6 => simp at hR
theorem zcO (hR : yW R = true) {f : FuncId} {args : Array Operand} {tys : Array TypeId} {vs : Array Value} {v : Value} (hargs : args.map a.eval = vs) (hr : ∀ w, (callFunc f vs).run P w = .ok (.value v) w)
  (h : z8 P G R ops K rest (a.put d v) m) : z8 P G R ops K (⟨d, .call ⟨.value (.func f), args, tys⟩, ty, pos, aft, none⟩ :: rest) a m :=
 .inr ⟨rfl, WI hR (v := v) (fun w _ _ => .inl (by
  have := hr w
  have e1 : a.eval (.func f) = .func (.func f) #[] #[] := rfl
  simp only [execOp, resolve, e1, hargs, Deferred.ofValue, invoke]
  simp [this])) h⟩
theorem zct {f : FuncId} {fn : Func} {vs : Array Value} (hf : P.funcs[f]? = some fn) (hn : (fn.name == "runtime.NumGoroutine") = false) (hb : fn.body.isNone = false) (w : World) :
  (callFunc f vs).run P w = .ok (.enter f vs) w := by
 have h1 : fn.name ≠ "runtime.NumGoroutine" := by simpa using hn
 have h2 : ¬ fn.body = none := by intro e; rw [e] at hb; cases hb
 simp [callFunc, hf, h1, h2]
def xF (P : Program) (f : FuncId) : Bool := match P.funcs[f]? with
 | some fn => !(fn.name == "runtime.NumGoroutine") && !fn.body.isNone
 | none => false
theorem Y2 {f : FuncId} {vs : Array Value} (h : xF P f = true) (w : World) : (callFunc f vs).run P w = .ok (.enter f vs) w := by
 unfold xF at h
 split at h
 ·rename_i fn hf
  simp only [Bool.and_eq_true, Bool.not_eq_true'] at h
  exact zct hf h.1 h.2 w
 ·cases h
theorem z4Q (hR : yW R = true) {fo : Operand} {f : FuncId} {args : Array Operand} {tys : Array TypeId} {vs cap : Array Value} {v : Value} (hf : a.eval fo = .func (.func f) #[] cap) (hargs : args.map a.eval = vs) (he : xF P f = true)
  (hF : ∀ w, MemR G w → vis R m w → Calls P f (vs ++ cap) w (fun e w' => e = .returned v ∧ Below w.heap.size w w'))
  (h : z8 P G R ops K rest (a.put d v) m) : z8 P G R ops K (⟨d, .call ⟨.value fo, args, tys⟩, ty, pos, aft, none⟩ :: rest) a m :=
 .inr ⟨rfl, WI hR (v := v) (fun w hG hm => .inr ⟨f, vs ++ cap, by
  have := Y2 (P := P) (vs := vs ++ cap) he w
  simp only [execOp, resolve, hf, hargs, Deferred.ofValue, invoke]
  simp [this], hF w hG hm⟩) h⟩
theorem zhv {fn : Go.Fn} {fs cs : Array Operand} {vf vc : Array Value} (h1 : fs.map a.eval = vf) (h2 : cs.map a.eval = vc) (h : z8 P G R ops K rest (a.put d (.func fn vf vc)) m) :
  z8 P G R ops K (⟨d, .makeFunc fn fs cs, ty, pos, aft, none⟩ :: rest) a m :=
 zK (v := .func fn vf vc) rfl rfl (fun w => by
  simp only [execOp, Instr.makeFunc, h1, h2]
  rfl) h
theorem zhJ (hR : yW R = true) {f : FuncId} {args : Array Operand} {tys : Array TypeId} {vs : Array Value} {v : Value} (hargs : args.map a.eval = vs) (he : xF P f = true) (hF : Fn P G f vs v)
  (h : z8 P G R ops K rest (a.put d v) m) : z8 P G R ops K (⟨d, .call ⟨.value (.func f), args, tys⟩, ty, pos, aft, none⟩ :: rest) a m :=
 .inr ⟨rfl, WI hR (v := v) (fun w hG _ => .inr ⟨f, vs, by
  have := Y2 (P := P) (vs := vs) he w
  have e1 : a.eval (.func f) = .func (.func f) #[] #[] := rfl
  simp only [execOp, resolve, e1, hargs, Deferred.ofValue, invoke]
  simp [this], hF w hG⟩) h⟩
theorem z0a (hR : R.c = 5) (hpu : Y9 R d = false) {fo : Operand} {f : FuncId} {args : Array Operand} {tys : Array TypeId} {vs cap : Array Value} {g' l0 lr : Mem} {S : Value → Mem → Mem → Prop} (hf : a.eval fo = .func (.func f) #[] cap) (hargs : args.map a.eval = vs) (he : xF P f = true)
  (hF : Fx P g' l0 f (vs ++ cap) S) (hoff : ∀ x ∈ l0, z6u R.L x.b) (hp : List.Perm m (l0 ++ lr)) (hS : ∀ m' : Mem, ∃ v l1 nw, S v l1 nw ∧ FreshM m' nw) (hi : ∀ v l1 nw, S v l1 nw → l1.map (·.b) = l0.map (·.b)) (hg : ∀ w, MemR G w → MemIn m w → MemR g' w) (hn : (l0.map (·.b)).Nodup) (hgl : (∀ x ∈ G, ∀ y ∈ m, x.b ≠ y.b) → ∀ x ∈ g', x.b ∉ l0.map (·.b))
  (h : ∀ v l1 nw, S v l1 nw → FreshM m nw → z8 P G R ops K rest (a.put d v) (l1 ++ lr ++ nw)) : z8 P G R ops K (⟨d, .call ⟨.value fo, args, tys⟩, ty, pos, aft, none⟩ :: rest) a m :=
 .inr ⟨rfl, by show Z3 _ _ _ _ _ _ _ (bif Y9 R d then 1 else R.c); rw [hpu, hR]; exact ⟨l0, lr, S, hp, hS, ⟨hi, hoff⟩, fun w hG hm hA => .inr ⟨f, vs ++ cap, by
  have := Y2 (P := P) (vs := vs ++ cap) he w
  simp only [execOp, resolve, hf, hargs, Deferred.ofValue, invoke]
  simp [this], hF w (hg w hG hm) (fun x hx => hm x (hp.mem_iff.2 (by simp [hx]))) hn (hgl hA)⟩, h⟩⟩
theorem zg2 (hR : R.c = 4) (hpu : Y9 R d = false) {fo : Operand} {f : FuncId} {args : Array Operand} {tys : Array TypeId} {vs cap : Array Value} {g' : Mem} {S : Value → Mem → Prop} (hf : a.eval fo = .func (.func f) #[] cap) (hargs : args.map a.eval = vs) (he : xF P f = true)
  (hF : Fx P g' [] f (vs ++ cap) (fun v l1 nw => l1 = [] ∧ S v nw)) (hS : ∀ m' : Mem, ∃ v nw, S v nw ∧ FreshM m' nw) (hg : ∀ w, MemR G w → vis R m w → MemR g' w)
  (h : ∀ v nw, S v nw → FreshM m nw → z8 P G R ops K rest (a.put d v) (m ++ nw)) : z8 P G R ops K (⟨d, .call ⟨.value fo, args, tys⟩, ty, pos, aft, none⟩ :: rest) a m :=
 .inr ⟨rfl, by show Z3 _ _ _ _ _ _ _ (bif Y9 R d then 1 else R.c); rw [hpu, hR]; exact ⟨S, hS, fun w hG hm => .inr ⟨f, vs ++ cap, by
  have := Y2 (P := P) (vs := vs ++ cap) he w
  simp only [execOp, resolve, hf, hargs, Deferred.ofValue, invoke]
  simp [this], hF w (hg w hG hm) (by simp [MemIn]) (by simp) (by simp)⟩, h⟩⟩
end
end Go.Proofs.YtlidhfijmcelpaaGreatDoor
namespace Go.Proofs.YtlidhfijmcelpaaGreatDoor
open Go Go.RowKit
abbrev Env := List (Nat × Value)
def lk : Env → Nat → Option Value
 | [], _ => none
 | (s, v) :: r, t => bif Nat.beq s t then some v else lk r t
def rd (E : Env) : Operand → Option Value
 | .tmp t => lk E t
 | .const v => some v
 | .global g => some (.pointer (some ⟨g, 0, none⟩))
 | .func f => some (.func (.func f) #[] #[])
def rdl (E : Env) : List Operand → Option (List Value)
 | [] => some []
 | x :: r => match rd E x, rdl E r with
  | some v, some vs => some (v :: vs)
  | _, _ => none
def sub : Env → Env → Prop
 | [], _ => True
 | (t, v) :: r, E => lk E t = some v ∧ sub r E
structure Fits (n : Nat) (E : Env) (a : Act) : Prop where
 size : a.tmps.size = n
 defers : a.defers = []
 slots : ∀ t v, lk E t = some v → a.tmps[t]? = some v
theorem Fits.rd {n : Nat} {E : Env} {a : Act} (h : Fits n E a) {x : Operand} {v : Value} (hx : YtlidhfijmcelpaaGreatDoor.rd E x = some v) : a.eval x = v := by
 cases x with
 | tmp t =>
  have := h.slots t v hx
  simp [Act.eval, Array.getD_eq_getD_getElem?, this]
 | const c => simpa [YtlidhfijmcelpaaGreatDoor.rd, Act.eval] using hx
 | global g => simpa [YtlidhfijmcelpaaGreatDoor.rd, Act.eval] using hx
 | func f => simpa [YtlidhfijmcelpaaGreatDoor.rd, Act.eval] using hx
theorem Fits.rdl {n : Nat} {E : Env} {a : Act} (h : Fits n E a) : ∀ {l : List Operand} {vs : List Value}, YtlidhfijmcelpaaGreatDoor.rdl E l = some vs → l.map a.eval = vs
 | [], vs, hl => by simpa [YtlidhfijmcelpaaGreatDoor.rdl] using hl
 | x :: l, vs, hl => by
  unfold YtlidhfijmcelpaaGreatDoor.rdl at hl
  split at hl
  ·rename_i v ws h1 h2
   simp at hl
   subst hl
   rw [List.map_cons, h.rd h1, Fits.rdl h h2]
  ·cases hl
theorem Fits.args {n : Nat} {E : Env} {a : Act} (h : Fits n E a) {l : Array Operand} {vs : List Value} (hl : YtlidhfijmcelpaaGreatDoor.rdl E l.toList = some vs) : l.map a.eval = vs.toArray := by
 have := h.rdl hl
 apply Array.ext'
 simpa using this
theorem z7q {s t : Nat} (h : ¬ s = t) : Nat.beq s t = false := by
 cases hb : Nat.beq s t with
 | false => rfl
 | true => exact absurd (Nat.eq_of_beq_eq_true hb) h
theorem z3N (s : Nat) (v : Value) (E : Env) (t : Nat) : lk ((s, v) :: E) t = if s = t then some v else lk E t := by
 show (bif Nat.beq s t then some v else lk E t) = _
 by_cases h : s = t
 ·subst h; simp
 ·simp [z7q h, h]
theorem Fits.put {n : Nat} {E : Env} {a : Act} (h : Fits n E a) {d : Nat} (hd : Nat.blt d n = true) (v : Value) : Fits n ((d, v) :: E) (a.put (some d) v) := by
 have hd' : d < n := by simpa using hd
 refine ⟨by simpa [Act.put] using h.size, by simpa [Act.put] using h.defers, fun t u ht => ?_⟩
 rw [z3N] at ht
 simp only [Act.put]
 split at ht
 ·rename_i e; subst e
  rw [Array.getElem?_setIfInBounds_self_of_lt (by rw [h.size]; exact hd')]; exact ht
 ·rename_i e
  rw [Array.getElem?_setIfInBounds_ne e]; exact h.slots t u ht
theorem zg9 : ∀ {E E' : Env}, sub E E' → ∀ t v, lk E t = some v → lk E' t = some v
 | [], _, _, _, _, h => by simp [lk] at h
 | (s, u) :: E, E', ⟨h1, h2⟩, t, v, h => by
  rw [z3N] at h
  split at h
  ·rename_i e; subst e; rw [h1]; exact h
  ·exact zg9 h2 t v h
theorem Fits.sub {n : Nat} {E E' : Env} {a : Act} (h : Fits n E' a) (hs : YtlidhfijmcelpaaGreatDoor.sub E E') : Fits n E a := ⟨h.size, h.defers, fun t v ht => h.slots t v (zg9 hs t v ht)⟩
abbrev Mm := List (Nat × Option Blk)
def lkM : Mm → Nat → Option Blk
 | [], _ => none
 | (s, v) :: r, t => bif Nat.beq s t then v else lkM r t
theorem yH (s : Nat) (v : Option Blk) (M : Mm) (t : Nat) : lkM ((s, v) :: M) t = if s = t then v else lkM M t := by
 show (bif Nat.beq s t then v else lkM M t) = _
 by_cases h : s = t
 ·subst h; simp
 ·simp [z7q h, h]
structure FitsM (M : Mm) (m : Mem) : Prop where
 has : ∀ i x, lkM M i = some x → x ∈ m
 apart : ∀ i j x y, lkM M i = some x → lkM M j = some y → i ≠ j → x.b ≠ y.b
def xT : Mm → Mm → Prop
 | [], _ => True
 | (t, v) :: r, M => lkM M t = v ∧ xT r M
theorem W6 : ∀ {M M' : Mm}, xT M M' → ∀ t v, lkM M t = some v → lkM M' t = some v
 | [], _, _, _, _, h => by simp [lkM] at h
 | (s, u) :: M, M', ⟨h1, h2⟩, t, v, h => by
  rw [yH] at h
  split at h
  ·rename_i e; subst e; rw [h1]; exact h
  ·exact W6 h2 t v h
theorem FitsM.sub {M M' : Mm} {m : Mem} (h : FitsM M' m) (hs : xT M M') : FitsM M m :=
 ⟨fun i x hx => h.has i x (W6 hs i x hx), fun i j x y hx hy => h.apart i j x y (W6 hs i x hx) (W6 hs j y hy)⟩
theorem FitsM.nil (m : Mem) : FitsM [] m := ⟨fun _ _ h => by simp [lkM] at h, fun _ _ _ _ h => by simp [lkM] at h⟩
theorem FitsM.alloc {M : Mm} {m : Mem} (h : FitsM M m) (i : Nat) (x : Blk) (hx : ∀ y ∈ m, y.b ≠ x.b) : FitsM ((i, some x) :: M) (m ++ [x]) := by
 refine ⟨fun j y hy => ?_, fun j k y z hy hz hne => ?_⟩
 ·rw [yH] at hy
  split at hy
  ·cases hy; simp
  ·exact List.mem_append_left _ (h.has j y hy)
 ·rw [yH] at hy hz
  split at hy
  ·split at hz
   ·rename_i e1 e2; exact absurd (e1.symm.trans e2) hne
   ·cases hy; exact fun e => hx z (h.has k z hz) e.symm
  ·split at hz
   ·cases hz; exact hx y (h.has j y hy)
   ·exact h.apart j k y z hy hz hne
theorem FitsM.store {M : Mm} {m : Mem} (h : FitsM M m) {i : Nat} {x : Blk} (hx : lkM M i = some x) {k : Nat} (hk : m[k]? = some x) (c' : Array Value) : FitsM ((i, some ⟨x.b, c', x.t⟩) :: M) (m.set k ⟨x.b, c', x.t⟩) := by
 have hlt : k < m.length := (List.getElem?_eq_some_iff.1 hk).1
 have hkx : m[k] = x := (List.getElem?_eq_some_iff.1 hk).2
 refine ⟨fun j y hy => ?_, fun j l y z hy hz hne => ?_⟩
 ·rw [yH] at hy
  split at hy
  ·cases hy; exact List.mem_set hlt _
  ·rename_i hne
   have hm := h.has j y hy
   have hb : y.b ≠ x.b := h.apart j i y x hy hx (fun e => hne e.symm)
   obtain ⟨l, hl, rfl⟩ := List.getElem_of_mem hm
   have hkl : k ≠ l := fun e => by subst e; rw [hkx] at hb; exact hb rfl
   have : (m.set k ⟨x.b, c', x.t⟩)[l]? = some m[l] := by
    rw [List.getElem?_set_ne hkl, List.getElem?_eq_getElem hl]
   exact List.mem_of_getElem? this
 ·rw [yH] at hy hz
  split at hy
  ·split at hz
   ·rename_i e1 e2; exact absurd (e1.symm.trans e2) hne
   ·rename_i e2; cases hy; exact h.apart i l x z hx hz (fun e => e2 e)
  ·split at hz
   ·rename_i e1 _; cases hz; exact h.apart j i y x hy hx (fun e => e1 e.symm)
   ·exact h.apart j l y z hy hz hne
theorem FitsM.at {M : Mm} {m : Mem} (h : FitsM M m) {i : Nat} {x : Blk} (hx : lkM M i = some x) : ∃ k : Nat, m[k]? = some x := List.getElem?_of_mem (h.has i x hx)
def okX (M : Mm) (i : Nat) : List Nat → List Nat → Prop
 | [], [] => True
 | j :: js, x :: xs => Nat.beq j i = false ∧ (lkM M j).map (·.b) = some x ∧ okX M i js xs
 | _, _ => False
theorem VP {M : Mm} {m : Mem} (hM : FitsM M m) {i : Nat} {z : Blk} (hi : lkM M i = some z) : ∀ {js xs : List Nat}, okX M i js xs → z.b ∉ xs
 | [], [], _ => by simp
 | j :: js, x :: xs, ⟨h1, h2, h3⟩ => fun hm => by
  rcases List.mem_cons.1 hm with e | e
  ·cases hj : lkM M j with
   | none => simp [hj] at h2
   | some y =>
    simp [hj] at h2
    exact hM.apart j i y z hj hi (fun e' => by subst e'; simp at h1) (h2.trans e.symm)
  ·exact VP hM hi h3 e
 | [], _ :: _, h => h.elim
 | _ :: _, [], h => h.elim
def v7 (M : Mm) (i : Nat) (js : List Nat) (R : Reg) : Prop := match R.L with
 | none => okX M i js R.X
 | some l => okX M i js R.X ∧ ∃ b, (lkM M i).map (·.b) = some b ∧ b ∈ l
theorem Zz {M : Mm} {m : Mem} {R : Reg} (hM : FitsM M m) {i : Nat} {z : Blk} (hi : lkM M i = some z) {js : List Nat} (h : v7 M i js R) : z.b ∉ R.X ∧ inL R.L z.b := by
 unfold v7 at h
 cases hL : R.L with
 | none => rw [hL] at h; exact ⟨VP hM hi h, trivial⟩
 | some l =>
  rw [hL] at h
  obtain ⟨h1, b, h2, h3⟩ := h
  rw [hi] at h2
  simp only [Option.map_some, Option.some.injEq] at h2
  exact ⟨VP hM hi h1, by rw [h2]; exact h3⟩
def EK (n : Nat) (K : Env → Mm → Prop) : Act → Mem → Prop := fun a m => ∃ E M, Fits n E a ∧ FitsM M m ∧ K E M
def EQ (n : Nat) (Q : Exit → Env → Mm → Prop) : Exit → Act → Mem → Prop := fun e a m => ∃ E M, Fits n E a ∧ FitsM M m ∧ Q e E M
def z2 (P : Program) (G : Mem) (R : Reg) (ops : Array Oper) (n : Nat) (K : Env → Mm → Prop) (l : List Oper) (E : Env) (M : Mm) : Prop := ∀ (a : Act) (m : Mem), Fits n E a → FitsM M m → z8 P G R ops (EK n K) l a m
def yc (P : Program) (G : Mem) (c : Code) (n : Nat) (Q : Exit → Env → Mm → Prop) (E : Env) (M : Mm) : Prop := ∀ (a : Act) (m : Mem), Fits n E a → FitsM M m → Sat P G c (EQ n Q) a m
section
variable {P : Program} {G : Mem} {R : Reg} {ops : Array Oper} {n : Nat} {K : Env → Mm → Prop} {Q : Exit → Env → Mm → Prop} {rest : List Oper} {E : Env} {M : Mm} {d : Nat} {ty : TypeId} {pos : String} {aft : Array Edge}
variable {T T' : TypeId} {x y : Operand}
theorem zkM (h : K E M) : z2 P G R ops n K [] E M := fun _ _ ha hM => ⟨E, M, ha, hM, h⟩
theorem zcs (R : Reg) {id : Nat} (h : z2 P G R ops n (Q .normal) ops.toList E M) : yc P G (.region id ops false) n Q E M := fun a m ha hM => z2f R (h a m ha hM)
theorem zgx {id : Nat} (h : z2 P G Vk ops n (Q .normal) ops.toList E M) : yc P G (.region id ops false) n Q E M := fun a m ha hM => z2f Vk (h a m ha hM)
theorem zhF (R : Reg) {id : Nat} (hm : P.follows .mixedOrders = true) (hok : wq R ops (List.range ops.size) = true) (h : z2 P G R ops n (Q .normal) ops.toList E M) : yc P G (.region id ops true) n Q E M := fun a m ha hM => z4L R hm hok (h a m ha hM)
theorem zjI {id : Nat} (hm : P.follows .mixedOrders = true) (hok : wq Vk ops (List.range ops.size) = true) (h : z2 P G Vk ops n (Q .normal) ops.toList E M) : yc P G (.region id ops true) n Q E M := fun a m ha hM => z4L Vk hm hok (h a m ha hM)
theorem zjK (h : Q .normal E M) : yc P G .skip n Q E M := fun _ _ ha hM => zdm ⟨E, M, ha, hM, h⟩
theorem zjg {id : Nat} (h : Q (.exit id) E M) : yc P G (.exit id) n Q E M := fun _ _ ha hM => ze3 ⟨E, M, ha, hM, h⟩
theorem zkn (h : Q .ret E M) : yc P G .ret n Q E M := fun _ _ ha hM => zig ⟨E, M, ha, hM, h⟩
def VY (next : Env → Mm → Prop) (Q : Exit → Env → Mm → Prop) : Exit → Env → Mm → Prop
 | .normal, a, m => next a m
 | e, a, m => Q e a m
theorem zkK {c c' : Code} (h : yc P G c n (VY (yc P G c' n Q) Q) E M) : yc P G (.seq c c') n Q E M := fun a m ha hM =>
 zho (yG (h a m ha hM) fun e a' m' ⟨E', M', h1, h0, h2⟩ => by
  cases e <;> first | exact h2 a' m' h1 h0 | exact ⟨E', M', h1, h0, h2⟩)
theorem zh {c : Operand} {x y : Code} {t : Bool} (hc : rd E c = some (.bool t)) (ht : t = true → yc P G x n Q E M) (hf : t = false → yc P G y n Q E M) : yc P G (.cond c x y) n Q E M := fun a m ha hM =>
 zfW (ha.rd hc) (fun e => ht e a m ha hM) (fun e => hf e a m ha hM)
def z0X (id : Nat) (Q : Exit → Env → Mm → Prop) : Exit → Env → Mm → Prop
 | .exit id', a, m => bif Nat.beq id' id then Q .normal a m else Q (.exit id') a m
 | e, a, m => Q e a m
theorem zht {id : Nat} {c : Code} (h : yc P G c n (z0X id Q) E M) : yc P G (.block id c) n Q E M := fun a m ha hM =>
 zbC (yG (h a m ha hM) fun e a' m' ⟨E', M', h1, h0, h2⟩ => by
  cases e with
  | exit id' =>
   simp only [z0X, z0Q] at h2 ⊢
   by_cases he : id' = id
   ·subst he; simp at h2 ⊢; exact ⟨E', M', h1, h0, h2⟩
   ·simp [z7q he, he] at h2 ⊢; exact ⟨E', M', h1, h0, h2⟩
  | _ => exact ⟨E', M', h1, h0, h2⟩)
theorem z6D {c : Code} (I : Nat → Env → Mm → Prop) (E0 : Env) (M0 : Mm) (k : Nat) (hs : sub E0 E) (hl : xT M0 M) (h0 : I k E0 M0)
  (round : ∀ k E M, I k E M → yc P G c n (VY (fun E' M' => ∃ k' E'' M'', k' < k ∧ sub E'' E' ∧ xT M'' M' ∧ I k' E'' M'') Q) E M) : yc P G (.loop c) n Q E M := fun a m ha hM =>
 zeL (fun k a m => ∃ E M, Fits n E a ∧ FitsM M m ∧ I k E M) (n := k) ⟨E0, M0, ha.sub hs, hM.sub hl, h0⟩ fun k a m ⟨E, M, hE, hM, hI⟩ =>
  yG (round k E M hI a m hE hM) fun e a' m' ⟨E', M', h1, h0, h2⟩ => by
   cases e with
   | normal => obtain ⟨k', E'', M'', h3, h4, h6, h5⟩ := h2; exact ⟨k', h3, E'', M'', h1.sub h4, h0.sub h6, h5⟩
   | _ => exact ⟨E', M', h1, h0, h2⟩
theorem zjc {v : Value} (hx : rd E x = some v) (hd : Nat.blt d n = true) (h : z2 P G R ops n K rest ((d, v) :: E) M) : z2 P G R ops n K (⟨some d, .move x, ty, pos, aft, none⟩ :: rest) E M :=
 fun _ _ ha hM => zgg (ha.rd hx) (h _ _ (ha.put hd _) hM)
theorem wB {v : Value} (hx : rd E x = some v) (hd : Nat.blt d n = true) (h : z2 P G R ops n K rest ((d, v) :: E) M) : z2 P G R ops n K (⟨some d, .assign x, ty, pos, aft, none⟩ :: rest) E M :=
 fun _ _ ha hM => zaO (ha.rd hx) (h _ _ (ha.put hd _) hM)
theorem zbh {i : Nat} {vs : Array Value} {v : Value} (hx : rd E x = some (.tuple vs)) (hv : vs[i]? = some v) (hd : Nat.blt d n = true) (h : z2 P G R ops n K rest ((d, v) :: E) M) : z2 P G R ops n K (⟨some d, .extract x i, ty, pos, aft, none⟩ :: rest) E M :=
 fun _ _ ha hM => z6x (ha.rd hx) hv (h _ _ (ha.put hd _) hM)
theorem wR {p q : Nat} (hx : rd E x = some (u p)) (hy : rd E y = some (u q)) (hd : Nat.blt d n = true) (h : z2 P G R ops n K rest ((d, u ((p + q) % 18446744073709551616)) :: E) M) :
  z2 P G R ops n K (⟨some d, .binOp .add T x y T', ty, pos, aft, none⟩ :: rest) E M := fun _ _ ha hM => ze4 (ha.rd hx) (ha.rd hy) (h _ _ (ha.put hd _) hM)
theorem xV {p q : Nat} (hx : rd E x = some (u p)) (hy : rd E y = some (u q)) (hd : Nat.blt d n = true) (hq : q ≤ 18446744073709551616) (h : z2 P G R ops n K rest ((d, u ((p + 18446744073709551616 - q) % 18446744073709551616)) :: E) M) :
  z2 P G R ops n K (⟨some d, .binOp .sub T x y T', ty, pos, aft, none⟩ :: rest) E M := fun _ _ ha hM => zdT (ha.rd hx) (ha.rd hy) hq (h _ _ (ha.put hd _) hM)
theorem xh {p q : Nat} (hx : rd E x = some (u p)) (hy : rd E y = some (u q)) (hd : Nat.blt d n = true) (h : z2 P G R ops n K rest ((d, u ((p * q) % 18446744073709551616)) :: E) M) :
  z2 P G R ops n K (⟨some d, .binOp .mul T x y T', ty, pos, aft, none⟩ :: rest) E M := fun _ _ ha hM => zfd (ha.rd hx) (ha.rd hy) (h _ _ (ha.put hd _) hM)
theorem VO {p q : Nat} (hx : rd E x = some (u p)) (hy : rd E y = some (u q)) (hd : Nat.blt d n = true) (h : z2 P G R ops n K rest ((d, u ((p &&& q) % 18446744073709551616)) :: E) M) :
  z2 P G R ops n K (⟨some d, .binOp .and T x y T', ty, pos, aft, none⟩ :: rest) E M := fun _ _ ha hM => zdI (ha.rd hx) (ha.rd hy) (h _ _ (ha.put hd _) hM)
theorem v4 {p q : Nat} (hx : rd E x = some (u p)) (hy : rd E y = some (u q)) (hd : Nat.blt d n = true) (h : z2 P G R ops n K rest ((d, u ((p ||| q) % 18446744073709551616)) :: E) M) :
  z2 P G R ops n K (⟨some d, .binOp .or T x y T', ty, pos, aft, none⟩ :: rest) E M := fun _ _ ha hM => zhS (ha.rd hx) (ha.rd hy) (h _ _ (ha.put hd _) hM)
theorem w7 {k : IntKind} {p s : Nat} (hx : rd E x = some (u p)) (hy : rd E y = some (.int k (s : Int))) (hd : Nat.blt d n = true) (hs : s ≤ 64) (h : z2 P G R ops n K rest ((d, u ((p * 2 ^ s) % 18446744073709551616)) :: E) M) :
  z2 P G R ops n K (⟨some d, .binOp .shl T x y T', ty, pos, aft, none⟩ :: rest) E M := fun _ _ ha hM => zeu (ha.rd hx) (ha.rd hy) hs (h _ _ (ha.put hd _) hM)
theorem YY {k : IntKind} {p s : Nat} (hx : rd E x = some (u p)) (hy : rd E y = some (.int k (s : Int))) (hd : Nat.blt d n = true) (hs : s ≤ 64) (h : z2 P G R ops n K rest ((d, u (p / 2 ^ s)) :: E) M) :
  z2 P G R ops n K (⟨some d, .binOp .shr T x y T', ty, pos, aft, none⟩ :: rest) E M := fun _ _ ha hM => zcw (ha.rd hx) (ha.rd hy) hs (h _ _ (ha.put hd _) hM)
theorem YL {p q : Nat} (hx : rd E x = some (u p)) (hy : rd E y = some (u q)) (hd : Nat.blt d n = true) (hp : p < 18446744073709551616) (hq : 0 < q) (h : z2 P G R ops n K rest ((d, u (p / q)) :: E) M) :
  z2 P G R ops n K (⟨some d, .binOp .quo T x y T', ty, pos, aft, none⟩ :: rest) E M := fun _ _ ha hM => zdY (ha.rd hx) (ha.rd hy) hp hq (h _ _ (ha.put hd _) hM)
theorem YC {p q : Nat} (hx : rd E x = some (u p)) (hy : rd E y = some (u q)) (hd : Nat.blt d n = true) (hq : 0 < q) (h : z2 P G R ops n K rest ((d, u (p % q)) :: E) M) :
  z2 P G R ops n K (⟨some d, .binOp .rem T x y T', ty, pos, aft, none⟩ :: rest) E M := fun _ _ ha hM => zfD (ha.rd hx) (ha.rd hy) hq (h _ _ (ha.put hd _) hM)
theorem zY {p q : Nat} (hx : rd E x = some (ii p)) (hy : rd E y = some (ii q)) (hd : Nat.blt d n = true) (hb : p + q < 9223372036854775808) (h : z2 P G R ops n K rest ((d, ii (p + q)) :: E) M) :
  z2 P G R ops n K (⟨some d, .binOp .add T x y T', ty, pos, aft, none⟩ :: rest) E M := fun _ _ ha hM => zeW (ha.rd hx) (ha.rd hy) hb (h _ _ (ha.put hd _) hM)
theorem VJ {p q : Nat} (hx : rd E x = some (ii p)) (hy : rd E y = some (ii q)) (hd : Nat.blt d n = true) (hb : p * q < 9223372036854775808) (h : z2 P G R ops n K rest ((d, ii (p * q)) :: E) M) :
  z2 P G R ops n K (⟨some d, .binOp .mul T x y T', ty, pos, aft, none⟩ :: rest) E M := fun _ _ ha hM => ze6 (ha.rd hx) (ha.rd hy) hb (h _ _ (ha.put hd _) hM)
theorem zhw {p q : Nat} (hx : rd E x = some (ii p)) (hy : rd E y = some (ii q)) (hd : Nat.blt d n = true) (hp : p < 9223372036854775808) (hq : 0 < q) (h : z2 P G R ops n K rest ((d, ii (p / q)) :: E) M) :
  z2 P G R ops n K (⟨some d, .binOp .quo T x y T', ty, pos, aft, none⟩ :: rest) E M := fun _ _ ha hM => zfE (ha.rd hx) (ha.rd hy) hp hq (h _ _ (ha.put hd _) hM)
theorem zhZ {p q : Nat} (hx : rd E x = some (ii p)) (hy : rd E y = some (ii q)) (hd : Nat.blt d n = true) (hq : 0 < q) (h : z2 P G R ops n K rest ((d, ii (p % q)) :: E) M) :
  z2 P G R ops n K (⟨some d, .binOp .rem T x y T', ty, pos, aft, none⟩ :: rest) E M := fun _ _ ha hM => zcr (ha.rd hx) (ha.rd hy) hq (h _ _ (ha.put hd _) hM)
theorem xH {p q : Int} (hx : rd E x = some (.int .i64 p)) (hy : rd E y = some (.int .i64 q)) (hd : Nat.blt d n = true) (h0 : -9223372036854775808 ≤ p - q) (h1 : p - q < 9223372036854775808) (h : z2 P G R ops n K rest ((d, .int .i64 (p - q)) :: E) M) :
  z2 P G R ops n K (⟨some d, .binOp .sub T x y T', ty, pos, aft, none⟩ :: rest) E M := fun _ _ ha hM => zcM (ha.rd hx) (ha.rd hy) h0 h1 (h _ _ (ha.put hd _) hM)
theorem zlm {k : IntKind} {p q : Int} (hx : rd E x = some (.int k p)) (hy : rd E y = some (.int k q)) (hd : Nat.blt d n = true) (h : z2 P G R ops n K rest ((d, .bool (decide (p < q))) :: E) M) :
  z2 P G R ops n K (⟨some d, .binOp .lss T x y T', ty, pos, aft, none⟩ :: rest) E M := fun _ _ ha hM => zld (ha.rd hx) (ha.rd hy) (h _ _ (ha.put hd _) hM)
theorem zlr {k : IntKind} {p q : Int} (hx : rd E x = some (.int k p)) (hy : rd E y = some (.int k q)) (hd : Nat.blt d n = true) (h : z2 P G R ops n K rest ((d, .bool (decide (q < p))) :: E) M) :
  z2 P G R ops n K (⟨some d, .binOp .gtr T x y T', ty, pos, aft, none⟩ :: rest) E M := fun _ _ ha hM => zll (ha.rd hx) (ha.rd hy) (h _ _ (ha.put hd _) hM)
theorem zlz {k : IntKind} {p q : Int} (hx : rd E x = some (.int k p)) (hy : rd E y = some (.int k q)) (hd : Nat.blt d n = true) (h : z2 P G R ops n K rest ((d, .bool (decide (q ≤ p))) :: E) M) :
  z2 P G R ops n K (⟨some d, .binOp .geq T x y T', ty, pos, aft, none⟩ :: rest) E M := fun _ _ ha hM => zki (ha.rd hx) (ha.rd hy) (h _ _ (ha.put hd _) hM)
theorem zlx {k : IntKind} {p q : Int} (hx : rd E x = some (.int k p)) (hy : rd E y = some (.int k q)) (hd : Nat.blt d n = true) (h : z2 P G R ops n K rest ((d, .bool (decide (p = q))) :: E) M) :
  z2 P G R ops n K (⟨some d, .binOp .eql T x y T', ty, pos, aft, none⟩ :: rest) E M := fun _ _ ha hM => zkE (ha.rd hx) (ha.rd hy) (h _ _ (ha.put hd _) hM)
theorem zlB {k : IntKind} {p q : Int} (hx : rd E x = some (.int k p)) (hy : rd E y = some (.int k q)) (hd : Nat.blt d n = true) (h : z2 P G R ops n K rest ((d, .bool (decide (p ≠ q))) :: E) M) :
  z2 P G R ops n K (⟨some d, .binOp .neq T x y T', ty, pos, aft, none⟩ :: rest) E M := fun _ _ ha hM => zkc (ha.rd hx) (ha.rd hy) (h _ _ (ha.put hd _) hM)
theorem zkN {b : Bool} (hx : rd E x = some (.bool b)) (hd : Nat.blt d n = true) (h : z2 P G R ops n K rest ((d, .bool (!b)) :: E) M) : z2 P G R ops n K (⟨some d, .unOp .not T x, ty, pos, aft, none⟩ :: rest) E M :=
 fun _ _ ha hM => ziZ (ha.rd hx) (h _ _ (ha.put hd _) hM)
theorem z3I {p : Nat} (hx : rd E x = some (u p)) (hd : Nat.blt d n = true) (hp : p ≤ 18446744073709551616) (h : z2 P G R ops n K rest ((d, u ((18446744073709551616 - p) % 18446744073709551616)) :: E) M) :
  z2 P G R ops n K (⟨some d, .unOp .neg T x, ty, pos, aft, none⟩ :: rest) E M := fun _ _ ha hM => zcp (ha.rd hx) hp (h _ _ (ha.put hd _) hM)
theorem xz {k : IntKind} {dk : TypeDesc} {p : Nat} (hs : P.underlying T = some dk) (ht : P.underlying T' = some (.int .u64)) (hx : rd E x = some (.int k (p : Int))) (hd : Nat.blt d n = true) (hv : xv R T T' = 1)
  (h : z2 P G R ops n K rest ((d, u (p % 18446744073709551616)) :: E) M) : z2 P G R ops n K (⟨some d, .convert T T' x, ty, pos, aft, none⟩ :: rest) E M := fun _ _ ha hM => zc0 hv hs ht (ha.rd hx) (h _ _ (ha.put hd _) hM)
theorem x8 {k : IntKind} {dk : TypeDesc} {p : Nat} (hs : P.underlying T = some dk) (ht : P.underlying T' = some (.int .u8)) (hx : rd E x = some (.int k (p : Int))) (hd : Nat.blt d n = true) (hv : xv R T T' = 1)
  (h : z2 P G R ops n K rest ((d, by8 (p % 256)) :: E) M) : z2 P G R ops n K (⟨some d, .convert T T' x, ty, pos, aft, none⟩ :: rest) E M := fun _ _ ha hM => z7O hv hs ht (ha.rd hx) (h _ _ (ha.put hd _) hM)
theorem zhY (i : Nat) {z : Value} (hz : (P.info? T).bind (·.zero) = some z) (hd : Nat.blt d n = true) (h : ∀ r, z2 P G R ops n K rest ((d, ptr r) :: E) ((i, some ⟨r, z.cells, T⟩) :: M)) :
  z2 P G R ops n K (⟨some d, .alloc T, ty, pos, aft, none⟩ :: rest) E M := fun _ _ ha hM => zcC hz fun r hr => h r _ _ (ha.put hd _) (hM.alloc i ⟨r, z.cells, T⟩ hr)
theorem zlc (i : Nat) {v : Value} (hx : rd E x = some v) (hd : Nat.blt d n = true) (h : ∀ r, z2 P G R ops n K rest ((d, ptr r) :: E) ((i, some ⟨r, v.cells, T⟩) :: M)) :
  z2 P G R ops n K (⟨some d, .box T x, ty, pos, aft, none⟩ :: rest) E M := fun _ _ ha hM => ziR (ha.rd hx) fun r hr => h r _ _ (ha.put hd _) (hM.alloc i ⟨r, v.cells, T⟩ hr)
theorem y6 {b o i : Nat} {c : Array Value} {t : TypeId} {v : Value} {td : TypeDesc} (hT : P.underlying T = some td) (hn : zy td = false) (hx : rd E x = some (.pointer (some ⟨b, o, none⟩)))
  (hm : lkM M i = some ⟨b, c, t⟩) (hc : c[o]? = some v) (hd : Nat.blt d n = true) (hX : ∃ js, v7 M i js R) (h : z2 P G R ops n K rest ((d, v) :: E) M) : z2 P G R ops n K (⟨some d, .load T x, ty, pos, aft, none⟩ :: rest) E M :=
 fun _ _ ha hM => by
  obtain ⟨k, hk⟩ := hM.at hm
  exact zcq hT hn (ha.rd hx) hk (by obtain ⟨js, hjs⟩ := hX; exact Zz hM hm hjs) hc (h _ _ (ha.put hd _) hM)
theorem yo {b o i : Nat} {c : Array Value} {t : TypeId} {v : Value} {td : TypeDesc} (hT : P.underlying T = some td) (hn : zy td = false) (hx : rd E x = some (.pointer (some ⟨b, o, none⟩)))
  (hm : G[i]? = some ⟨b, c, t⟩) (hc : c[o]? = some v) (hd : Nat.blt d n = true) (h : z2 P G R ops n K rest ((d, v) :: E) M) : z2 P G R ops n K (⟨some d, .load T x, ty, pos, aft, none⟩ :: rest) E M :=
 fun _ _ ha hM => zbW hT hn (ha.rd hx) hm hc (h _ _ (ha.put hd _) hM)
theorem zV {b i l : Nat} {c : Array Value} {t : TypeId} {td : TypeDesc} (hT : P.underlying T = some td) (hn : zy td = true) (hs : (P.info? T).map (·.size) = some l)
  (hx : rd E x = some (.pointer (some ⟨b, 0, none⟩))) (hm : lkM M i = some ⟨b, c, t⟩) (hl : c.size = l) (hd : Nat.blt d n = true) (hX : ∃ js, v7 M i js R) (h : z2 P G R ops n K rest ((d, .agg c) :: E) M) : z2 P G R ops n K (⟨some d, .load T x, ty, pos, aft, none⟩ :: rest) E M :=
 fun _ _ ha hM => by
  obtain ⟨k, hk⟩ := hM.at hm
  exact zfm hT hn (hl ▸ hs) (ha.rd hx) hk (by obtain ⟨js, hjs⟩ := hX; exact Zz hM hm hjs) (h _ _ (ha.put hd _) hM)
theorem z4W {b i l : Nat} {c : Array Value} {t : TypeId} {td : TypeDesc} (hT : P.underlying T = some td) (hn : zy td = true) (hs : (P.info? T).map (·.size) = some l)
  (hx : rd E x = some (.pointer (some ⟨b, 0, none⟩))) (hm : G[i]? = some ⟨b, c, t⟩) (hl : c.size = l) (hd : Nat.blt d n = true) (h : z2 P G R ops n K rest ((d, .agg c) :: E) M) : z2 P G R ops n K (⟨some d, .load T x, ty, pos, aft, none⟩ :: rest) E M :=
 fun _ _ ha hM => zb5 hT hn (hl ▸ hs) (ha.rd hx) hm (h _ _ (ha.put hd _) hM)
theorem xU {b o i l v : Nat} {k : IntKind} {f : Nat → Nat} {t : TypeId} (hs : (P.info? T).map (·.size) = some 1) (hx : rd E x = some (.pointer (some ⟨b, o, none⟩))) (hy : rd E y = some (.int k (v : Int)))
  (hm : lkM M i = some ⟨b, arr k l f, t⟩) (ho : o < l) (hX : R.X = [] ∨ b ∈ R.X) (h : z2 P G R ops n K rest E ((i, some ⟨b, arr k l (upd f o v), t⟩) :: M)) (hY : R.Y = none := by first | rfl | assumption) : z2 P G R ops n K (⟨none, .store T x y, ty, pos, aft, none⟩ :: rest) E M :=
 fun _ _ ha hM => by
  obtain ⟨j, hj⟩ := hM.at hm
  exact z9R hs (ha.rd hx) (ha.rd hy) hj hX ho (h _ _ ha (hM.store hm hj _))
theorem z4 {b i l : Nat} {c c' : Array Value} {t : TypeId} (hs : (P.info? T).map (·.size) = some l) (hx : rd E x = some (.pointer (some ⟨b, 0, none⟩))) (hy : rd E y = some (.agg c')) (hl : c'.size = l)
  (hv : ∀ v ∈ c', v.oneCell' = true) (hm : lkM M i = some ⟨b, c, t⟩) (ho : c'.size = c.size) (hX : R.X = [] ∨ b ∈ R.X) (h : z2 P G R ops n K rest E ((i, some ⟨b, c', t⟩) :: M)) (hY : R.Y = none := by first | rfl | assumption) : z2 P G R ops n K (⟨none, .store T x y, ty, pos, aft, none⟩ :: rest) E M :=
 fun _ _ ha hM => by
  obtain ⟨j, hj⟩ := hM.at hm
  exact zbu (hl ▸ hs) (ha.rd hx) (ha.rd hy) hv hj hX ho (h _ _ ha (hM.store hm hj _))
theorem ZA {b j l : Nat} {k : IntKind} {e : TypeId} (hT : P.underlying T = some (.array l e)) (hs : (P.info? e).map (·.size) = some 1) (hx : rd E x = some (.pointer (some ⟨b, 0, none⟩))) (hy : rd E y = some (.int k (j : Int))) (hj : j < l)
  (hd : Nat.blt d n = true) (h : z2 P G R ops n K rest ((d, .pointer (some ⟨b, j, none⟩)) :: E) M) : z2 P G R ops n K (⟨some d, .indexAddr T x y, ty, pos, aft, none⟩ :: rest) E M :=
 fun _ _ ha hM => zeD hT hs (ha.rd hx) (ha.rd hy) hj (by rw [Nat.zero_add]; exact h _ _ (ha.put hd _) hM)
theorem zku {j l : Nat} {k k' k2 : IntKind} {e : TypeId} {f : Nat → Nat} (hT : P.underlying T = some (.array l e)) (he : P.underlying e = some (.int k')) (hs : (P.info? e).map (·.size) = some 1) (hx : rd E x = some (.agg (arr k l f))) (hy : rd E y = some (.int k2 (j : Int))) (hj : j < l)
  (hd : Nat.blt d n = true) (h : z2 P G R ops n K rest ((d, .int k (f j : Int)) :: E) M) : z2 P G R ops n K (⟨some d, .index T x y, ty, pos, aft, none⟩ :: rest) E M :=
 fun _ _ ha hM => zjD hT he hs (ha.rd hx) (ha.rd hy) hj (h _ _ (ha.put hd _) hM)
theorem zU {k : IntKind} {l : Nat} {f : Nat → Nat} : ∀ v ∈ arr k l f, v.oneCell' = true := fun v hv => by
 simp [arr] at hv
 obtain ⟨i, _, rfl⟩ := hv
 rfl
theorem wo {z : Value} {l : Nat} {e : TypeId} (hz : (P.info? T).bind (·.zero) = some z) (hT : P.underlying T = some (.array l e)) (hs : ((P.info? e).map (·.size)).isSome = true) (hd : Nat.blt d n = true)
  (h : z2 P G R ops n K rest ((d, .agg z.cells) :: E) M) : z2 P G R ops n K (⟨some d, .build T #[], ty, pos, aft, none⟩ :: rest) E M := fun _ _ ha hM => z9X hz hT hs (h _ _ (ha.put hd _) hM)
def rdp (E : Env) : List (Nat × Operand) → Option (List (Nat × Value))
 | [] => some []
 | (i, x) :: r => match rd E x, rdp E r with
  | some v, some vs => some ((i, v) :: vs)
  | _, _ => none
theorem Fits.rdp {a : Act} (h : Fits n E a) : ∀ {l : List (Nat × Operand)} {vs : List (Nat × Value)}, YtlidhfijmcelpaaGreatDoor.rdp E l = some vs → l.map (fun p => (p.1, a.eval p.2)) = vs
 | [], vs, hl => by simpa [YtlidhfijmcelpaaGreatDoor.rdp] using hl
 | (i, x) :: l, vs, hl => by
  unfold YtlidhfijmcelpaaGreatDoor.rdp at hl
  split at hl
  ·rename_i v ws h1 h2
   simp at hl
   subst hl
   rw [List.map_cons, h.rd h1, Fits.rdp h h2]
  ·cases hl
theorem zX {z : Value} {l : Nat} {e : TypeId} {parts : Array (Nat × Operand)} {pv : List (Nat × Value)} (c : Array Value) (hz : (P.info? T).bind (·.zero) = some z) (hT : P.underlying T = some (.array l e)) (hs : (P.info? e).map (·.size) = some 1)
  (hp : rdp E parts.toList = some pv) (hf : Instr.fill (fun i => some (i * 1, 1)) z.cells pv = some c) (hd : Nat.blt d n = true)
  (h : z2 P G R ops n K rest ((d, .agg c) :: E) M) : z2 P G R ops n K (⟨some d, .build T parts, ty, pos, aft, none⟩ :: rest) E M :=
 fun _ _ ha hM => zcv hz hT hs (ha.rdp hp) hf (h _ _ (ha.put hd _) hM)
theorem zgh {p q r : Operand} {t : Bool} {v : Value} (hc : rd E p = some (.bool t)) (ht : t = true) (hv : rd E q = some v) (hd : Nat.blt d n = true) (h : z2 P G R ops n K rest ((d, v) :: E) M) :
  z2 P G R ops n K (⟨some d, .pick p q r, ty, pos, aft, none⟩ :: rest) E M := fun _ _ ha hM => z8e (ha.rd hc) (by rw [ht, if_pos rfl]; exact ha.rd hv) (h _ _ (ha.put hd _) hM)
theorem zgc {p q r : Operand} {t : Bool} {v : Value} (hc : rd E p = some (.bool t)) (ht : t = false) (hv : rd E r = some v) (hd : Nat.blt d n = true) (h : z2 P G R ops n K rest ((d, v) :: E) M) :
  z2 P G R ops n K (⟨some d, .pick p q r, ty, pos, aft, none⟩ :: rest) E M := fun _ _ ha hM => z8e (ha.rd hc) (by rw [ht, if_neg (by decide)]; exact ha.rd hv) (h _ _ (ha.put hd _) hM)
theorem Fits.yielded {a : Act} (h : Fits n E a) {g s : Nat} {b : Bool} (hg : (ops[g]?).bind (·.dst) = some s) (hb : lk E s = some (.bool b)) : Go.yielded ops a.tmps g = some b := by
 unfold Go.yielded
 rw [hg]
 simp [h.slots _ _ hb]
theorem zla {dd : Option Tmp} {op : Op} {g s : Nat} {want b : Bool} (hg : (ops[g]?).bind (·.dst) = some s) (hb : lk E s = some (.bool b)) (hw : b = want) (h : z2 P G R ops n K (⟨dd, op, ty, pos, aft, none⟩ :: rest) E M) :
  z2 P G R ops n K (⟨dd, op, ty, pos, aft, some (g, want)⟩ :: rest) E M := fun a m ha hM => zk4 (by rw [← hw]; exact ha.yielded hg hb) (h a m ha hM)
theorem zln {op : Op} {g s : Nat} {want b : Bool} (hg : (ops[g]?).bind (·.dst) = some s) (hb : lk E s = some (.bool b)) (hw : b ≠ want) (hd : Nat.blt d n = true) (h : z2 P G R ops n K rest ((d, undef) :: E) M) :
  z2 P G R ops n K (⟨some d, op, ty, pos, aft, some (g, want)⟩ :: rest) E M := fun _ _ ha hM => zkr (ha.yielded hg hb) hw (h _ _ (ha.put hd _) hM)
theorem Y8 {e : TypeId} {k k' : IntKind} {l : Nat} {f g : Nat → Nat} (hT : P.underlying T = some (.array l e)) (he : P.underlying e = some (.int k')) (hs : (P.info? e).map (·.size) = some 1) (hg : P.eqGuardType P.depth T = false)
  (hx : rd E x = some (.agg (arr k l f))) (hy : rd E y = some (.agg (arr k l g))) (hd : Nat.blt d n = true) (h : z2 P G R ops n K rest ((d, .bool (zO l f g)) :: E) M) : z2 P G R ops n K (⟨some d, .binOp .eql T x y T', ty, pos, aft, none⟩ :: rest) E M :=
 fun _ _ ha hM => zjx hT he hs hg (ha.rd hx) (ha.rd hy) (h _ _ (ha.put hd _) hM)
theorem W2 {e : TypeId} {k k' : IntKind} {l : Nat} {f g : Nat → Nat} (hT : P.underlying T = some (.array l e)) (he : P.underlying e = some (.int k')) (hs : (P.info? e).map (·.size) = some 1) (hg : P.eqGuardType P.depth T = false)
  (hx : rd E x = some (.agg (arr k l f))) (hy : rd E y = some (.agg (arr k l g))) (hd : Nat.blt d n = true) (h : z2 P G R ops n K rest ((d, .bool (!zO l f g)) :: E) M) : z2 P G R ops n K (⟨some d, .binOp .neq T x y T', ty, pos, aft, none⟩ :: rest) E M :=
 fun _ _ ha hM => ziX hT he hs hg (ha.rd hx) (ha.rd hy) (h _ _ (ha.put hd _) hM)
theorem XI {p q : Bool} (hT : P.underlying T = some .bool) (hx : rd E x = some (.bool p)) (hy : rd E y = some (.bool q)) (hd : Nat.blt d n = true) (h : z2 P G R ops n K rest ((d, .bool (p == q)) :: E) M) :
  z2 P G R ops n K (⟨some d, .binOp .eql T x y T', ty, pos, aft, none⟩ :: rest) E M := fun _ _ ha hM => zjQ hT (ha.rd hx) (ha.rd hy) (h _ _ (ha.put hd _) hM)
theorem z6 {l : List Oper} {s : Nat} {v v' : Value} (hv : v = v') (h : z2 P G R ops n K l ((s, v') :: E) M) : z2 P G R ops n K l ((s, v) :: E) M := by rw [hv]; exact h
theorem Z7 {f : FuncId} {args : Array Operand} {tys : Array TypeId} {vs : List Value} {v : Value} (hargs : rdl E args.toList = some vs) (hr : ∀ w, (callFunc f vs.toArray).run P w = .ok (.value v) w) (hd : Nat.blt d n = true) (hR : yW R = true)
  (h : z2 P G R ops n K rest ((d, v) :: E) M) : z2 P G R ops n K (⟨some d, .call ⟨.value (.func f), args, tys⟩, ty, pos, aft, none⟩ :: rest) E M :=
 fun _ _ ha hM => zcO hR (ha.args hargs) hr (h _ _ (ha.put hd _) hM)
theorem z9 {f : FuncId} {args : Array Operand} {tys : Array TypeId} {vs : List Value} {v : Value} (hargs : rdl E args.toList = some vs) (he : xF P f = true) (hF : Fn P G f vs.toArray v) (hd : Nat.blt d n = true) (hR : yW R = true)
  (h : z2 P G R ops n K rest ((d, v) :: E) M) : z2 P G R ops n K (⟨some d, .call ⟨.value (.func f), args, tys⟩, ty, pos, aft, none⟩ :: rest) E M :=
 fun _ _ ha hM => zhJ hR (ha.args hargs) he hF (h _ _ (ha.put hd _) hM)
def zgv : Mem → Mm → Prop
 | [], _ => True
 | z :: r, M => (∃ i : Nat, lkM M i = some z) ∧ zgv r M
theorem z8q {m : Mem} (hM : FitsM M m) : ∀ {g : Mem}, zgv g M → ∀ {w : World}, MemIn m w → MemR g w
 | [], _, _, _ => fun _ hx => by cases hx
 | z :: r, ⟨⟨i, hi⟩, h2⟩, w, hm => fun x hx => by
  rcases List.mem_cons.1 hx with rfl | hx
  ·exact (hm _ (hM.has i _ hi)).read
  ·exact z8q hM h2 hm x hx
theorem vr (g : Mem) {fo : Operand} {f : FuncId} {args : Array Operand} {tys : Array TypeId} {vs cap : List Value} {v : Value} (hf : rd E fo = some (.func (.func f) #[] cap.toArray)) (hargs : rdl E args.toList = some vs) (he : xF P f = true) (hg : zgv g M)
  (hF : Fn P g f (vs ++ cap).toArray v) (hd : Nat.blt d n = true) (hR : yW R = true) (hX : R.X = []) (h : z2 P G R ops n K rest ((d, v) :: E) M) (hL : R.L = none := by rfl) : z2 P G R ops n K (⟨some d, .call ⟨.value fo, args, tys⟩, ty, pos, aft, none⟩ :: rest) E M :=
 fun _ _ ha hM => z4Q hR (ha.rd hf) (ha.args hargs) he (fun w _ hm => by
  have := hF w (z8q hM hg (fun z hz => hm z hz ⟨by rw [hX]; simp, zhb hL _⟩))
  simpa using this) (h _ _ (ha.put hd _) hM)
theorem zk6 {fn : Go.Fn} {fs cs : Array Operand} {vf vc : List Value} (h1 : rdl E fs.toList = some vf) (h2 : rdl E cs.toList = some vc) (hd : Nat.blt d n = true) (h : z2 P G R ops n K rest ((d, .func fn vf.toArray vc.toArray) :: E) M) :
  z2 P G R ops n K (⟨some d, .makeFunc fn fs cs, ty, pos, aft, none⟩ :: rest) E M := fun _ _ ha hM => zhv (ha.args h1) (ha.args h2) (h _ _ (ha.put hd _) hM)
def Res (P : Program) (E : Env) (M : Mm) : ResultVar → Value → Prop
 | .tmp t, v => lk E t = some v
 | .cell t T, v => ∃ (b i l : Nat) (c : Array Value) (t' : TypeId) (td : TypeDesc), lk E t = some (ptr b) ∧ lkM M i = some ⟨b, c, t'⟩ ∧ P.underlying T = some td ∧ zy td = true ∧ (P.info? T).map (·.size) = some l ∧ c.size = l ∧ v = .agg c
theorem Res.tmp {t : Nat} {v : Value} (h : lk E t = some v) : Res P E M (.tmp t) v := h
theorem Res.cell {t : Nat} {T : TypeId} {b i l : Nat} {c : Array Value} {t' : TypeId} {td : TypeDesc} (h : lk E t = some (ptr b)) (hm : lkM M i = some ⟨b, c, t'⟩) (hT : P.underlying T = some td) (hn : zy td = true)
   (hs : (P.info? T).map (·.size) = some l) (hl : c.size = l) : Res P E M (.cell t T) (.agg c) := ⟨b, i, l, c, t', td, h, hm, hT, hn, hs, hl, rfl⟩
def zhk (tmps : Array Value) : ResultVar → Sem Value
 | .tmp t => pure (tmps.getD t undef)
 | .cell c t => do loadVar t (← asAddr (tmps.getD c undef))
theorem yT (fn : Func) (tmps : Array Value) : results fn tmps = (do
 let vs ← fn.results.mapM (zhk tmps)
 pure (if h : vs.size = 1 then vs[0] else .tuple vs)) := by
 unfold results
 congr 1
theorem yR {a : Act} {m : Mem} (ha : Fits n E a) (hM : FitsM M m) {w : World} (hw : MemIn m w) {r : ResultVar} {v : Value} (h : Res P E M r v) : (zhk a.tmps r).run P w = .ok v w := by
 cases r with
 | tmp t =>
  have h : lk E t = some v := h
  simp [zhk, Array.getD_eq_getD_getElem?, ha.slots _ _ h]
 | cell t T =>
  obtain ⟨b, i, l, c, t', td, h, hm, hT, hn, hs, hl, rfl⟩ := h
  have hs := hl ▸ hs
  have hin := (hw _ (hM.has i _ hm)).read
  have := ha.slots _ _ h
  simp [zhk, Array.getD_eq_getD_getElem?, this, ptr, asAddr, Yr hin hT hn hs]
def zl6 (P : Program) (fn : Func) (v : Value) : Exit → Env → Mm → Prop
 | .normal, E, M | .ret, E, M => ∃ r, fn.results = #[r] ∧ Res P E M r v
 | _, _, _ => False
def zkX (P : Program) (fn : Func) (v v' : Value) : Exit → Env → Mm → Prop
 | .normal, E, M | .ret, E, M => ∃ r r', fn.results = #[r, r'] ∧ Res P E M r v ∧ Res P E M r' v'
 | _, _, _ => False
theorem z8T {r : ResultVar} (f : ResultVar → Sem Value) : Array.mapM f #[r] = (do let v ← f r; pure #[v]) := by
 rw [Array.mapM_eq_mapM_toList]; simp
theorem zim {r r' : ResultVar} (f : ResultVar → Sem Value) : Array.mapM f #[r, r'] = (do let v ← f r; let v' ← f r'; pure #[v, v']) := by
 rw [Array.mapM_eq_mapM_toList]; simp
theorem fn1 {f : FuncId} {fn : Func} {c : Code} {args : Array Value} {v : Value} (hf : P.funcs[f]? = some fn) (hb : fn.body = some c) (hn : fn.ntmps = n) (ha : args.size ≤ n) (E : Env) (hE : ∀ t v, lk E t = some v → args[t]? = some v)
  (h : yc P G c n (zl6 P fn v) E []) : Fn P G f args v :=
 zez hf hb (yG (h _ [] ⟨by simp [hn]; omega, rfl, fun t v ht => by
  have := hE t v ht
  have hlt := (Array.getElem?_eq_some_iff.1 this).1
  rw [Array.getElem?_append_left hlt]; exact this⟩ (FitsM.nil _)) fun e a m ⟨E', M', h1, h0, h2⟩ => by
   have key : (∃ r, fn.results = #[r] ∧ Res P E' M' r v) → a.defers = [] ∧ ∀ w, MemIn m w → (results fn a.tmps).run P w = .ok v w := fun ⟨r, hr, hR⟩ => ⟨h1.defers, fun w hw => by
    have := yR h1 h0 hw hR
    rw [yT, hr, z8T]
    simp [this]⟩
   cases e <;> first | exact key h2 | exact h2.elim)
theorem fn2 {f : FuncId} {fn : Func} {c : Code} {args : Array Value} {v v' : Value} (hf : P.funcs[f]? = some fn) (hb : fn.body = some c) (hn : fn.ntmps = n) (ha : args.size ≤ n) (E : Env) (hE : ∀ t v, lk E t = some v → args[t]? = some v)
  (h : yc P G c n (zkX P fn v v') E []) : Fn P G f args (.tuple #[v, v']) :=
 zez hf hb (yG (h _ [] ⟨by simp [hn]; omega, rfl, fun t v ht => by
  have := hE t v ht
  have hlt := (Array.getElem?_eq_some_iff.1 this).1
  rw [Array.getElem?_append_left hlt]; exact this⟩ (FitsM.nil _)) fun e a m ⟨E', M', h1, h0, h2⟩ => by
   have key : (∃ r r', fn.results = #[r, r'] ∧ Res P E' M' r v ∧ Res P E' M' r' v') → a.defers = [] ∧ ∀ w, MemIn m w → (results fn a.tmps).run P w = .ok (.tuple #[v, v']) w := fun ⟨r, r', hr, hR, hR'⟩ => ⟨h1.defers, fun w hw => by
    have := yR h1 h0 hw hR
    have t' := yR h1 h0 hw hR'
    rw [yT, hr, zim]
    simp [this, t']⟩
   cases e <;> first | exact key h2 | exact h2.elim)
def wr : List Value → Nat → Env
 | [], _ => []
 | v :: r, i => (i, v) :: wr r (i + 1)
theorem z8w : ∀ (l : List Value) (i t : Nat) (v : Value), lk (wr l i) t = some v → i ≤ t ∧ l[t - i]? = some v
 | [], _, _, _, h => by simp [wr, lk] at h
 | x :: l, i, t, v, h => by
  unfold wr at h
  rw [z3N] at h
  split at h
  ·rename_i e; subst e; simpa using h
  ·have := z8w l (i + 1) t v h
   refine ⟨by omega, ?_⟩
   have e : t - i = (t - (i + 1)) + 1 := by omega
   rw [e]; simpa using this.2
theorem yS (l : List Value) : ∀ t v, lk (wr l 0) t = some v → l.toArray[t]? = some v := fun t v h => by
 have := (z8w l 0 t v h).2
 simpa using this
end
end Go.Proofs.YtlidhfijmcelpaaGreatDoor
namespace Go.Proofs.YtlidhfijmcelpaaGreatDoor
open Go Go.RowKit
variable {P : Program} {G : Mem} {R : Reg} {ops : Array Oper} {K : Act → Mem → Prop} {rest : List Oper} {a : Act} {m : Mem} {d : Option Tmp} {ty : TypeId} {pos : String} {aft : Array Edge}
variable {T T' : TypeId} {x y : Operand}
theorem wQ (b o j : Nat) : (⟨b, o, none⟩ : Addr).add j = ⟨b, o + j, none⟩ := by
 unfold Addr.add; split
 ·rename_i h0; subst h0; rfl
 ·simp
theorem Y6 {w : World} {z : Blk} (hin : RIn w z) (o l : Nat) (ho : o + l ≤ z.c.size) : ∀ (n i : Nat) (acc : Array Value), i + n = l →
  (loadCellsFrom ⟨z.b, o, none⟩ i n acc).run P w = .ok (acc ++ z.c.extract (o + i) (o + l)) w
 | 0, i, acc, h => by
  have : i = l := by omega
  subst this
  simp [loadCellsFrom]
  omega
 | n + 1, i, acc, h => by
  have hi : o + i < z.c.size := by omega
  have hcell : w.cell? ((⟨z.b, o, none⟩ : Addr).add i) = some z.c[o + i] := by
   rw [wQ, hin.2 (o + i) hi]; simp [hi]
  unfold loadCellsFrom
  simp only [Sem.run_bind, run_load, hcell, Result.andThen_ok]
  rw [Y6 hin o l ho n (i + 1) (acc.push z.c[o + i]) (by omega)]
  congr 1
  apply Array.ext
  ·simp; omega
  ·intro j h1 h2
   by_cases hj : j < acc.size
   ·have hj2 : j < acc.size + 1 := by omega
    simp [hj, hj2, Array.getElem_push]
   ·by_cases hj' : j = acc.size
    ·subst hj'; simp
    ·have : ¬ j < acc.size + 1 := by omega
     simp [Array.getElem_append, hj, this]
     congr 1; omega
theorem W3 {w : World} {z : Blk} {td : TypeDesc} {o l : Nat} (hin : RIn w z) (hT : P.underlying T = some td) (hn : zy td = true) (hs : (P.info? T).map (·.size) = some l) (ho : o + l ≤ z.c.size) :
  (loadVar T ⟨z.b, o, none⟩).run P w = .ok (.agg (z.c.extract o (o + l))) w := by
 cases hi : P.info? T with
 | none => simp [hi] at hs
 | some i =>
  have hsz : i.size = l := by simpa [hi] using hs
  have := Y6 (P := P) hin o l ho l 0 #[] (by omega)
  simp only [loadVar, loadCells, sizeOf, typeInfo]
  simp [yO hT, hn, hi, hsz, this]
theorem z5N {b i o l : Nat} {c : Array Value} {t : TypeId} {td : TypeDesc} (hT : P.underlying T = some td) (hn : zy td = true) (hs : (P.info? T).map (·.size) = some l)
  (hx : a.eval x = .pointer (some ⟨b, o, none⟩)) (hm : m[i]? = some ⟨b, c, t⟩) (hX : b ∉ R.X ∧ inL R.L b) (ho : o + l ≤ c.size) (h : z8 P G R ops K rest (a.put d (.agg (c.extract o (o + l)))) m) : z8 P G R ops K (⟨d, .load T x, ty, pos, aft, none⟩ :: rest) a m :=
 .inr ⟨rfl, .agg (c.extract o (o + l)), fun w _ hw => .inl (by
  have hin := (hw _ (xi hm) hX).read
  simp only [execOp, Instr.loadAt, hx, Instr.sureAddr]
  simp [W3 hin hT hn hs ho]), h⟩
theorem zdj {b o f sz : Nat} {fs : Array Field} {fd : Field} (hT : P.underlying T = some (.struct fs)) (hf : fs[f]? = some fd) (hs : (P.info? fd.type).map (·.size) = some (sz + 1)) (hx : a.eval x = .pointer (some ⟨b, o, none⟩))
  (h : z8 P G R ops K rest (a.put d (.pointer (some ⟨b, o + fd.offset, none⟩))) m) : z8 P G R ops K (⟨d, .fieldAddr T x f, ty, pos, aft, none⟩ :: rest) a m :=
 zK (v := .pointer (some ⟨b, o + fd.offset, none⟩)) rfl rfl (fun w => by
  cases hi : P.info? fd.type with
  | none => simp [hi] at hs
  | some i =>
   have hsz : i.size = sz + 1 := by simpa [hi] using hs
   simp only [execOp, Instr.fieldAt, hx, underlying, program, Instr.sureAddr, fieldPlace, sizeOf, typeInfo]
   simp [Sem.run, hT, hf, hi, hsz, wQ]) h
theorem zbA {z : Value} {fs : Array Field} {places : Array (Nat × Nat)} {parts : Array (Nat × Operand)} {pv : List (Nat × Value)} {c : Array Value} (hz : (P.info? T).bind (·.zero) = some z) (hT : P.underlying T = some (.struct fs))
  (hpl : ∀ w, (fs.mapM fun f => do pure (f.offset, ← sizeOf f.type) : Sem (Array (Nat × Nat))).run P w = .ok places w)
  (hp : parts.toList.map (fun p => (p.1, a.eval p.2)) = pv) (hf : Instr.fill (places[·]?) z.cells pv = some c)
  (h : z8 P G R ops K rest (a.put d (.agg c)) m) : z8 P G R ops K (⟨d, .build T parts, ty, pos, aft, none⟩ :: rest) a m :=
 zK (v := .agg c) rfl rfl (fun w => by
  cases hi : P.info? T with
  | none => simp [hi] at hz
  | some i =>
   have hz' : i.zero = some z := by simpa [hi] using hz
   have hp' : (parts.map fun (i, x) => (i, a.eval x)).toList = pv := by rw [← hp]; simp
   simp only [execOp, Instr.build, zeroValue, typeInfo, underlying, program]
   simp only [hp']
   simp only [Sem.run_bind, Sem.run, Sem.run_pure, Result.andThen_ok, hi, hz', hT, hpl, hf]) h
end Go.Proofs.YtlidhfijmcelpaaGreatDoor
namespace Go.Proofs.YtlidhfijmcelpaaGreatDoor
def wd (x j : Nat) : Nat := x / 2 ^ (64 * j) % 18446744073709551616
abbrev fe (x : Nat) : Value := .agg (arr .u64 4 (wd x))
theorem ZL (k : Nat) : 2 ^ (64 * (k + 1)) = 2 ^ (64 * k) * 18446744073709551616 := by
 rw [show 64 * (k + 1) = 64 * k + 64 by omega, Nat.pow_add]
theorem zF (k : Nat) : 0 < 2 ^ (64 * k) := Nat.pow_pos (by decide)
theorem y7 (x j : Nat) : wd x j < 18446744073709551616 := Nat.mod_lt _ (by decide)
theorem Zh (s t i k : Nat) (h : i < k) : wd (s + t * 2 ^ (64 * k)) i = wd s i := by
 unfold wd
 have e : (2 : Nat) ^ (64 * k) = 2 ^ (64 * i) * (18446744073709551616 * 2 ^ (64 * (k - i - 1))) := by
  rw [show (18446744073709551616 : Nat) = 2 ^ 64 by decide, ← Nat.pow_add, ← Nat.pow_add]; congr 1; omega
 rw [e, ← Nat.mul_assoc, Nat.mul_comm t, Nat.mul_assoc, Nat.add_mul_div_left _ _ (zF i), ← Nat.mul_assoc, Nat.mul_comm t, Nat.mul_assoc, Nat.add_mul_mod_self_left]
theorem z08 (s t k : Nat) : wd (s + t * 2 ^ (64 * k)) k = (s / 2 ^ (64 * k) + t) % 18446744073709551616 := by
 unfold wd
 rw [Nat.mul_comm t, Nat.add_mul_div_left _ _ (zF k)]
theorem Xx (s t k : Nat) : (s + t * 2 ^ (64 * k)) / 2 ^ (64 * (k + 1)) = (s / 2 ^ (64 * k) + t) / 18446744073709551616 := by
 rw [ZL, ← Nat.div_div_eq_div_mul, Nat.mul_comm t, Nat.add_mul_div_left _ _ (zF k)]
theorem xn (x k : Nat) : x % 2 ^ (64 * (k + 1)) = x % 2 ^ (64 * k) + wd x k * 2 ^ (64 * k) := by
 rw [ZL, Nat.mod_mul, Nat.mul_comm (2 ^ (64 * k))]; rfl
def car (a b k : Nat) : Nat := (a % 2 ^ (64 * k) + b % 2 ^ (64 * k)) / 2 ^ (64 * k)
theorem z5K (a b : Nat) : car a b 0 = 0 := by simp [car, Nat.mod_one]
theorem zdr (a b k : Nat) : car a b k ≤ 1 := by
 unfold car
 have h1 := Nat.mod_lt a (zF k)
 have h2 := Nat.mod_lt b (zF k)
 have : (a % 2 ^ (64 * k) + b % 2 ^ (64 * k)) / 2 ^ (64 * k) < 2 := by
  rw [Nat.div_lt_iff_lt_mul (zF k)]; omega
 omega
theorem VZ (a b k : Nat) : (wd a k + wd b k + car a b k) % 18446744073709551616 = wd (a + b) k := by
 have e1 := Nat.div_add_mod a (2 ^ (64 * k))
 have e2 := Nat.div_add_mod b (2 ^ (64 * k))
 have e : a + b = (a % 2 ^ (64 * k) + b % 2 ^ (64 * k)) + (a / 2 ^ (64 * k) + b / 2 ^ (64 * k)) * 2 ^ (64 * k) := by
  rw [Nat.add_mul, Nat.mul_comm (a / _), Nat.mul_comm (b / _)]; omega
 rw [e, z08]
 unfold wd car
 omega
theorem z59 (a b k : Nat) : (wd a k + wd b k + car a b k) / 18446744073709551616 = car a b (k + 1) := by
 unfold car
 rw [xn a, xn b]
 have e : a % 2 ^ (64 * k) + wd a k * 2 ^ (64 * k) + (b % 2 ^ (64 * k) + wd b k * 2 ^ (64 * k)) = (a % 2 ^ (64 * k) + b % 2 ^ (64 * k)) + (wd a k + wd b k) * 2 ^ (64 * k) := by
  rw [Nat.add_mul]; omega
 rw [e, Xx]
 congr 1; omega
def bor (a b k : Nat) : Nat := if a % 2 ^ (64 * k) < b % 2 ^ (64 * k) then 1 else 0
theorem z5d (a b : Nat) : bor a b 0 = 0 := by simp [bor, Nat.mod_one]
theorem z7c (a b k : Nat) : bor a b k ≤ 1 := by unfold bor; split <;> omega
theorem z61 (a b k : Nat) : (if wd a k < wd b k + bor a b k then 1 else 0) = bor a b (k + 1) := by
 unfold bor
 rw [xn a, xn b]
 have h1 := Nat.mod_lt a (zF k)
 have h2 := Nat.mod_lt b (zF k)
 generalize a % 2 ^ (64 * k) = a0 at *
 generalize b % 2 ^ (64 * k) = b0 at *
 generalize 2 ^ (64 * k) = X at *
 generalize wd a k = p
 generalize wd b k = q
 have key : (p < q + (if a0 < b0 then 1 else 0)) ↔ (a0 + p * X < b0 + q * X) := by
  rcases Nat.lt_trichotomy p q with h | h | h
  ·have : p * X + X ≤ q * X := by
    have := Nat.mul_le_mul_right X (show p + 1 ≤ q from h)
    rw [Nat.add_mul] at this; omega
   constructor
   ·intro _; omega
   ·intro _; split <;> omega
  ·subst h; split <;> omega
  ·have : q * X + X ≤ p * X := by
    have := Nat.mul_le_mul_right X (show q + 1 ≤ p from h)
    rw [Nat.add_mul] at this; omega
   constructor
   ·intro h3; split at h3 <;> omega
   ·intro _; omega
 simp only [key]
theorem z9D (x k : Nat) (hk : k < 4) : wd (x + 2 ^ 256) k = wd x k := by
 have := Zh x 1 k 4 hk
 simpa using this
theorem zcY (x k : Nat) (hk : k ≤ 4) : (x + 2 ^ 256) % 2 ^ (64 * k) = x % 2 ^ (64 * k) := by
 have e : (2 : Nat) ^ 256 = 2 ^ (64 * k) * 2 ^ (256 - 64 * k) := by rw [← Nat.pow_add]; congr 1; omega
 rw [e, Nat.add_mul_mod_self_left]
theorem zgb (a b k : Nat) (hk : k ≤ 4) (hb : b ≤ a + 2 ^ 256) : car (a + 2 ^ 256 - b) b k = bor a b k := by
 unfold car bor
 have e : (a + 2 ^ 256 - b + b) % 2 ^ (64 * k) = a % 2 ^ (64 * k) := by
  rw [Nat.sub_add_cancel hb, zcY a k hk]
 rw [Nat.add_mod] at e
 have h1 := Nat.mod_lt (a + 2 ^ 256 - b) (zF k)
 have h2 := Nat.mod_lt b (zF k)
 have hp := zF k
 generalize (a + 2 ^ 256 - b) % 2 ^ (64 * k) = z at *
 generalize b % 2 ^ (64 * k) = y at *
 generalize a % 2 ^ (64 * k) = x at *
 generalize 2 ^ (64 * k) = X at *
 rcases Nat.lt_or_ge (z + y) X with h | h
 ·rw [Nat.mod_eq_of_lt h] at e
  rw [Nat.div_eq_of_lt h]; split <;> omega
 ·have hx : (z + y) / X = 1 := by
   rw [Nat.div_eq_iff hp]; omega
  have hm : (z + y) % X = z + y - X := by
   rw [Nat.mod_eq_sub_mod h, Nat.mod_eq_of_lt (by omega)]
  rw [hm] at e
  rw [hx]; split <;> omega
theorem z4O (a b k : Nat) (hk : k < 4) (hb : b ≤ a + 2 ^ 256) : (wd a k + 18446744073709551616 - wd b k - bor a b k) % 18446744073709551616 = wd (a + 2 ^ 256 - b) k := by
 have h := VZ (a + 2 ^ 256 - b) b k
 rw [zgb a b k (by omega) hb, Nat.sub_add_cancel hb, z9D a k hk] at h
 have h1 := y7 (a + 2 ^ 256 - b) k
 have h2 := y7 b k
 have h3 := y7 a k
 have h4 := z7c a b k
 omega
theorem z06 {s : Nat → Nat} {x : Nat} (h : ∀ j, j < 4 → s j = wd x j) : fe x = .agg (arr .u64 4 s) := by rw [fe, zg h]
theorem yM {f g : Nat → Nat} {k v : Nat} (h : ∀ j, j < k → f j = g j) (hv : v = g k) : ∀ j, j < k + 1 → upd f k v j = g j := fun j hj => by
 unfold upd
 split
 ·rename_i e; rw [e]; exact hv
 ·exact h j (by omega)
end Go.Proofs.YtlidhfijmcelpaaGreatDoor
namespace Go.Proofs.YtlidhfijmcelpaaGreatDoor
abbrev PP : Nat := 57896044618658097711785492504343953926634992332820282019728792003956564819949
theorem Wp (x j : Nat) (hj : j < 4) : wd (x % 2 ^ 256) j = wd x j := by
 have e : x = x % 2 ^ 256 + x / 2 ^ 256 * 2 ^ (64 * 4) := by
  have := Nat.div_add_mod x (2 ^ 256)
  rw [Nat.mul_comm] at this
  show x = x % 2 ^ 256 + x / 2 ^ 256 * 2 ^ 256
  omega
 conv => rhs; rw [e]
 rw [Zh _ _ j 4 hj]
theorem z55 (a n k : Nat) (hn : n ≤ 1) : (wd a k &&& ((18446744073709551616 - n) % 18446744073709551616)) % 18446744073709551616 = wd (a * n) k := by
 have : n = 0 ∨ n = 1 := by omega
 have h := y7 a k
 rcases this with rfl | rfl
 ·simp [wd]
 ·have e : (18446744073709551616 - 1) % 18446744073709551616 = 2 ^ 64 - 1 := by decide
  rw [e, Nat.and_two_pow_sub_one_eq_mod, Nat.mul_one]
  omega
theorem Xk {f g : Nat → Nat} {k v : Nat} (h : ∀ j, k ≤ j → f j = g j) : ∀ j, k + 1 ≤ j → upd f k v j = g j := fun j hj => by
 unfold upd
 split
 ·omega
 ·exact h j (by omega)
theorem z9k (a b : Nat) : Value.bool (decide (((if a < b then 1 else 0 : Nat) : Int) = 1)) = .bool (decide (a < b)) := by
 by_cases h : a < b <;> simp [h]
theorem z76 (a : Nat) (ha : a < 2 ^ 256) : wd a 3 = a / 2 ^ 192 := by
 unfold wd
 have : a / 2 ^ (64 * 3) < 18446744073709551616 := by
  rw [Nat.div_lt_iff_lt_mul (zF 3)]; exact ha
 rw [Nat.mod_eq_of_lt this]
theorem zi2 (a ov : Nat) (ha : a < 2 ^ 256) (ho : ov < 2 ^ 50) : (ov * 2 ^ 1 % 18446744073709551616 ||| wd a 3 / 2 ^ 63) % 18446744073709551616 = 2 * ov + a / 2 ^ 255 := by
 have e1 : ov * 2 ^ 1 % 18446744073709551616 = ov <<< 1 := by rw [Nat.shiftLeft_eq]; omega
 have e2 : wd a 3 / 2 ^ 63 = a / 2 ^ 255 := by
  rw [z76 a ha, Nat.div_div_eq_div_mul, ← Nat.pow_add]
 have h2 : a / 2 ^ 255 < 2 ^ 1 := by
  rw [Nat.div_lt_iff_lt_mul (Nat.pow_pos (by decide))]; exact ha
 rw [e1, e2, ← Nat.shiftLeft_add_eq_or_of_lt h2, Nat.shiftLeft_eq]
 generalize a / 2 ^ 255 = t at *
 omega
theorem z4t (a : Nat) (ha : a < 2 ^ 256) : ∀ j, j < 4 → upd (wd a) 3 ((wd a 3 &&& 9223372036854775807) % 18446744073709551616) j = wd (a % 2 ^ 255) j := by
 intro j hj
 have e : a = a % 2 ^ 255 + a / 2 ^ 255 * 2 ^ 255 := by
  have := Nat.div_add_mod a (2 ^ 255)
  rw [Nat.mul_comm] at this; omega
 unfold upd
 split
 ·rename_i h; subst h
  rw [show (9223372036854775807 : Nat) = 2 ^ 63 - 1 by decide, Nat.and_two_pow_sub_one_eq_mod, z76 a ha]
  rw [z76 (a % 2 ^ 255) (Nat.lt_trans (Nat.mod_lt _ (Nat.pow_pos (by decide))) (by decide))]
  have h1 : a / 2 ^ 192 % 2 ^ 63 = a % 2 ^ 255 / 2 ^ 192 := by
   rw [show (2 : Nat) ^ 255 = 2 ^ 192 * 2 ^ 63 by rw [← Nat.pow_add], Nat.mod_mul_right_div_self]
  rw [h1]
  have : a % 2 ^ 255 / 2 ^ 192 < 2 ^ 63 := by
   rw [Nat.div_lt_iff_lt_mul (Nat.pow_pos (by decide)), ← Nat.pow_add]
   exact Nat.mod_lt _ (Nat.pow_pos (by decide))
  rw [Nat.mod_eq_of_lt (Nat.lt_trans this (by decide))]
 ·rename_i h
  have e3 : (a / 2 ^ 255) * 2 ^ 255 = (a / 2 ^ 255 * 2 ^ 63) * 2 ^ (64 * 3) := by
   rw [Nat.mul_assoc, ← Nat.pow_add]
  conv => lhs; rw [e, e3]
  rw [Zh _ _ j 3 (by omega)]
theorem z0U (x : Nat) (hx : x < 18446744073709551616) : Value.agg (arr .u64 4 (upd (fun _ => 0) 0 x)) = fe x := by
 rw [fe]
 congr 1
 refine zg fun j hj => ?_
 unfold upd wd
 split
 ·rename_i h; subst h; simp; omega
 ·rename_i h
  have : x / 2 ^ (64 * j) = 0 := by
   apply Nat.div_eq_of_lt
   have : 2 ^ 64 ≤ 2 ^ (64 * j) := Nat.pow_le_pow_right (by decide) (by omega)
   omega
  rw [this]
theorem ze7 (a ov Y : Nat) (ha : a < 2 ^ 256) (ho : ov < 2 ^ 50) (hY : Y = a % 2 ^ 255 + (2 * ov + a / 2 ^ 255) * 19) :
  ((Y + 2 ^ 256 - PP) % 2 ^ 256 + PP * (if Y < PP then 1 else 0)) % 2 ^ 256 = (a + ov * 2 ^ 256) % PP := by
 have e : a + ov * 2 ^ 256 = Y + PP * (2 * ov + a / 2 ^ 255) := by
  have := Nat.div_add_mod a (2 ^ 255)
  unfold PP
  omega
 rw [e, Nat.add_mul_mod_self_left]
 have h2 : Y < 2 * PP := by unfold PP; omega
 clear e hY
 unfold PP at *
 split
 ·rename_i h
  rw [Nat.mod_eq_of_lt h]; omega
 ·omega
theorem Yz : PP = 57896044618658097711785492504343953926634992332820282019728792003956564819949 := rfl
def bt (x j : Nat) : Nat := x / 2 ^ (8 * j) % 256
abbrev z7b (x : Nat) : Value := .agg (arr .u8 32 (bt x))
def vb (f : Nat → Nat) : Nat → Nat
 | 0 => 0
 | k + 1 => vb f k + f k * 2 ^ (8 * k)
theorem z20 (f : Nat → Nat) : ∀ k, (∀ j, j < k → f j < 256) → vb f k < 2 ^ (8 * k)
 | 0, _ => by simp [vb]
 | k + 1, h => by
  have h1 := z20 f k (fun j hj => h j (by omega))
  have h2 := h k (by omega)
  unfold vb
  have e : 2 ^ (8 * (k + 1)) = 2 ^ (8 * k) * 256 := by rw [show 8 * (k + 1) = 8 * k + 8 by omega, Nat.pow_add]
  have h3 : f k * 2 ^ (8 * k) ≤ 255 * 2 ^ (8 * k) := Nat.mul_le_mul_right _ (by omega)
  rw [e]; omega
theorem zdR (x : Nat) : ∀ k, vb (bt x) k = x % 2 ^ (8 * k)
 | 0 => by simp [vb, Nat.mod_one]
 | k + 1 => by
  unfold vb
  rw [zdR x k, show 8 * (k + 1) = 8 * k + 8 by omega, Nat.pow_add, Nat.mod_mul, Nat.mul_comm (2 ^ (8 * k))]
  rfl
theorem Xv {f g : Nat → Nat} : ∀ k, (∀ j, j < k → f j = g j) → vb f k = vb g k
 | 0, _ => rfl
 | k + 1, h => by unfold vb; rw [Xv k (fun j hj => h j (by omega)), h k (by omega)]
theorem zbM (f : Nat → Nat) (k : Nat) (hk : k < 32) (hf : ∀ j, j < 32 → f j < 256) :
  ∀ j, j < 4 → upd (wd (vb f k)) (k / 8) ((wd (vb f k) (k / 8) ||| (f k % 18446744073709551616 * 2 ^ (k % 8 * 8)) % 18446744073709551616) % 18446744073709551616) j = wd (vb f (k + 1)) j := by
 intro j hj
 have hlt := z20 f k (fun j hj => hf j (by omega))
 have hfk := hf k hk
 have hdm := Nat.div_add_mod k 8
 have e8 : 8 * k = 64 * (k / 8) + k % 8 * 8 := by omega
 have hm : k % 8 < 8 := Nat.mod_lt _ (by decide)
 have hnext : vb f (k + 1) = vb f k + (f k * 2 ^ (k % 8 * 8)) * 2 ^ (64 * (k / 8)) := by
  show vb f k + f k * 2 ^ (8 * k) = _
  rw [e8, Nat.pow_add, Nat.mul_assoc, Nat.mul_comm (2 ^ (64 * (k / 8)))]
 -- the word has room
 have hq : vb f k / 2 ^ (64 * (k / 8)) < 2 ^ (k % 8 * 8) := by
  rw [Nat.div_lt_iff_lt_mul (zF _), Nat.mul_comm, ← Nat.pow_add, ← e8]; exact hlt
 have hpw : 2 ^ (k % 8 * 8) ≤ 2 ^ 56 := Nat.pow_le_pow_right (by decide) (by omega)
 have hsh : f k * 2 ^ (k % 8 * 8) + 2 ^ (k % 8 * 8) ≤ 256 * 2 ^ (k % 8 * 8) := by
  have := Nat.mul_le_mul_right (2 ^ (k % 8 * 8)) (show f k + 1 ≤ 256 by omega)
  rw [Nat.add_mul] at this; omega
 unfold upd
 split
 ·rename_i h; subst h
  rw [hnext, z08]
  have ew : wd (vb f k) (k / 8) = vb f k / 2 ^ (64 * (k / 8)) := by
   unfold wd
   exact Nat.mod_eq_of_lt (Nat.lt_of_lt_of_le hq (Nat.le_trans hpw (by decide)))
  rw [ew, Nat.mod_eq_of_lt (show f k < 18446744073709551616 by omega), Nat.mod_eq_of_lt (show f k * 2 ^ (k % 8 * 8) < 18446744073709551616 by omega)]
  rw [Nat.or_comm, ← Nat.shiftLeft_eq, ← Nat.shiftLeft_add_eq_or_of_lt hq, Nat.shiftLeft_eq]
  congr 1; omega
 ·rename_i h
  rcases Nat.lt_or_gt_of_ne h with h1 | h1
  ·rw [hnext, Zh _ _ j _ h1]
  ·have hp : 2 ^ (8 * (k + 1)) ≤ 2 ^ (64 * j) := Nat.pow_le_pow_right (by decide) (by omega)
   have hl2 := z20 f (k + 1) (fun j hj => hf j (by omega))
   have hp' : 2 ^ (8 * k) ≤ 2 ^ (8 * (k + 1)) := Nat.pow_le_pow_right (by decide) (by omega)
   unfold wd
   rw [Nat.div_eq_of_lt (by omega), Nat.div_eq_of_lt (by omega)]
theorem z22 (f : Nat → Nat) (k : Nat) (s : Nat → Nat) (hk : k < 32) (hf : ∀ j, j < 32 → f j < 256) (hs : ∀ j, j < 4 → s j = wd (vb f k) j) :
  ∀ j, j < 4 → upd s (k / 8) ((s (k / 8) ||| (f k % 18446744073709551616 * 2 ^ (k % 8 * 8)) % 18446744073709551616) % 18446744073709551616) j = wd (vb f (k + 1)) j := by
 intro j hj
 rw [← zbM f k hk hf j hj, hs (k / 8) (by omega)]
 unfold upd
 split
 ·rfl
 ·exact hs j hj
theorem zeM (f : Nat → Nat) (s : Nat → Nat) (hf : ∀ j, j < 32 → f j < 256) (hs : ∀ j, j < 4 → s j = wd (vb f 32) j) :
  Value.agg (arr .u64 4 (upd s 3 ((s 3 &&& 9223372036854775807) % 18446744073709551616))) = fe (vb f 32 % 2 ^ 255) := by
 have hlt : vb f 32 < 2 ^ 256 := z20 f 32 hf
 rw [fe]
 congr 1
 refine zg fun j hj => ?_
 rw [← z4t (vb f 32) hlt j hj, hs 3 (by omega)]
 unfold upd
 split
 ·rfl
 ·exact hs j hj
theorem ziw (x j : Nat) : bt x j < 256 := Nat.mod_lt _ (by decide)
theorem zh5 (y : Nat) (hy : y < PP) : vb (bt y) 32 % 2 ^ 255 % PP = y := by
 unfold PP at *
 rw [zdR, Nat.mod_eq_of_lt (show y < 2 ^ (8 * 32) by omega)]
 omega
theorem z40 (a k : Nat) : (wd a (k / 8) / 2 ^ (k % 8 * 8)) % 256 = bt a k := by
 unfold wd bt
 have hm : k % 8 < 8 := Nat.mod_lt _ (by decide)
 have e8 : 8 * k = 64 * (k / 8) + k % 8 * 8 := by omega
 have e64 : (18446744073709551616 : Nat) = 2 ^ (k % 8 * 8) * (256 * 2 ^ (56 - k % 8 * 8)) := by
  rw [show (256 : Nat) = 2 ^ 8 by decide, ← Nat.pow_add, ← Nat.pow_add, show k % 8 * 8 + (8 + (56 - k % 8 * 8)) = 64 by omega]
 rw [e64, Nat.mod_mul_right_div_self, Nat.mod_mul_right_mod, Nat.div_div_eq_div_mul, ← Nat.pow_add, ← e8]
theorem z4K {f : Nat → Nat} {x : Nat} (h : ∀ j, j < 32 → f j = bt x j) : Value.agg (arr .u8 32 f) = z7b x := by rw [z7b, zg h]
end Go.Proofs.YtlidhfijmcelpaaGreatDoor
