/-
  The operations' rules, one by one: what each does to a call's own blocks.
-/
import Derived.Test.YtmnmhmpklknleaaSep
import Derived.Laws.Externs
import Derived.Laws.StructEq
namespace Go.Proofs.Ytmnmhmpklknleaa
open Go Go.RowKit

abbrev u (p : Nat) : Value := .int .u64 (p : Int)
abbrev by8 (p : Nat) : Value := .int .u8 (p : Int)
abbrev ii (p : Nat) : Value := .int .i64 (p : Int)

/-- An array of n integers. -/
def arr (k : IntKind) (n : Nat) (f : Nat → Nat) : Array Value := ((List.range n).map fun i => .int k (f i : Int)).toArray
def upd (f : Nat → Nat) (j v : Nat) : Nat → Nat := fun i => if i = j then v else f i

theorem arr_size (k : IntKind) (n : Nat) (f : Nat → Nat) : (arr k n f).size = n := by simp [arr]
theorem arr_sz (k k' : IntKind) (n : Nat) (f g : Nat → Nat) : (arr k n f).size = (arr k' n g).size := by rw [arr_size, arr_size]
theorem arr_get {k : IntKind} {n : Nat} {f : Nat → Nat} {j : Nat} (h : j < n) : (arr k n f)[j]? = some (.int k (f j : Int)) := by
  simp [arr, h]
theorem arr_set {k : IntKind} {n : Nat} {f : Nat → Nat} (j v : Nat) : (arr k n f).setIfInBounds j (.int k (v : Int)) = arr k n (upd f j v) := by
  apply Array.ext
  · simp [arr_size]
  · intro i h1 h2
    have hi : i < n := by simpa [arr_size] using h2
    by_cases e : j = i
    · subst e; simp [arr, upd]
    · have e' : ¬ i = j := fun h => e h.symm
      simp [arr, upd, e, e']
theorem arr_congr {k : IntKind} {n : Nat} {f g : Nat → Nat} (h : ∀ j, j < n → f j = g j) : arr k n f = arr k n g := by
  unfold arr
  congr 1
  refine List.map_congr_left fun i hi => ?_
  rw [h i (by simpa using hi)]

theorem get_set_ne {α : Type} (xs : Array α) {i j : Nat} (v : α) (hne : ¬ i = j) (h : j < (xs.setIfInBounds i v).size) (h' : j < xs.size) : (xs.setIfInBounds i v)[j] = xs[j] := by
  have := Array.getElem?_setIfInBounds_ne (xs := xs) (a := v) hne
  rw [Array.getElem?_eq_getElem h, Array.getElem?_eq_getElem h'] at this
  simpa using this

section
variable {P : Program} {G : Mem} {R : Reg} {ops : Array Oper} {K : Act → Mem → Prop} {rest : List Oper} {a : Act} {m : Mem} {d : Option Tmp} {ty : TypeId} {pos : String} {aft : Array Edge}
variable {T T' : TypeId} {x y : Operand}

/-! ### Numbers -/
theorem wrap_u64 (z : Int) : IntKind.u64.wrap z = z % 18446744073709551616 := by
  simp [IntKind.wrap, IntKind.signed, IntKind.bits]
theorem wrap_u8 (z : Int) : IntKind.u8.wrap z = z % 256 := by
  simp [IntKind.wrap, IntKind.signed, IntKind.bits]
theorem wrap_i64 {z : Int} (h0 : -9223372036854775808 ≤ z) (h1 : z < 9223372036854775808) : IntKind.i64.wrap z = z := by
  simp only [IntKind.wrap, IntKind.signed, IntKind.bits]
  simp
  split <;> omega

theorem st_bin {op : BinOp} {v : Value} (h1 : ∀ w, ((do eqGuard op T x y (a.eval x) (a.eval y); binOp op T (a.eval x) (a.eval y)) : Sem Value).run P w = .ok v w)
    (h : opsM P G R ops K rest (a.put d v) m) : opsM P G R ops K (⟨d, .binOp op T x y T', ty, pos, aft, none⟩ :: rest) a m :=
  st_quiet (v := v) rfl rfl (fun w => by
    have := h1 w
    simp only [execOp]
    rw [Sem.run_bind, this]
    rfl) h

theorem st_add_u {p q : Nat} (hx : a.eval x = u p) (hy : a.eval y = u q) (h : opsM P G R ops K rest (a.put d (u ((p + q) % 18446744073709551616))) m) :
    opsM P G R ops K (⟨d, .binOp .add T x y T', ty, pos, aft, none⟩ :: rest) a m :=
  st_bin (fun w => by simp [hx, hy, eqGuard, binOp, Op.intArith, wrap_u64]) h

theorem st_sub_u {p q : Nat} (hx : a.eval x = u p) (hy : a.eval y = u q) (hq : q ≤ 18446744073709551616) (h : opsM P G R ops K rest (a.put d (u ((p + 18446744073709551616 - q) % 18446744073709551616))) m) :
    opsM P G R ops K (⟨d, .binOp .sub T x y T', ty, pos, aft, none⟩ :: rest) a m :=
  st_bin (fun w => by simp [hx, hy, eqGuard, binOp, Op.intArith, wrap_u64]; omega) h

theorem st_mul_u {p q : Nat} (hx : a.eval x = u p) (hy : a.eval y = u q) (h : opsM P G R ops K rest (a.put d (u ((p * q) % 18446744073709551616))) m) :
    opsM P G R ops K (⟨d, .binOp .mul T x y T', ty, pos, aft, none⟩ :: rest) a m :=
  st_bin (fun w => by simp [hx, hy, eqGuard, binOp, Op.intArith, wrap_u64]) h

theorem bits_and (p q : Nat) : IntKind.u64.wrap ((BitVec.ofNat 64 p &&& BitVec.ofNat 64 q).toNat : Int) = ((p &&& q : Nat) : Int) % 18446744073709551616 := by
  rw [wrap_u64]
  rw [BitVec.toNat_and, BitVec.toNat_ofNat, BitVec.toNat_ofNat, ← Nat.and_mod_two_pow]
  omega
theorem bits_or (p q : Nat) : IntKind.u64.wrap ((BitVec.ofNat 64 p ||| BitVec.ofNat 64 q).toNat : Int) = ((p ||| q : Nat) : Int) % 18446744073709551616 := by
  rw [wrap_u64]
  rw [BitVec.toNat_or, BitVec.toNat_ofNat, BitVec.toNat_ofNat, ← Nat.or_mod_two_pow]
  omega

theorem st_and_u {p q : Nat} (hx : a.eval x = u p) (hy : a.eval y = u q) (h : opsM P G R ops K rest (a.put d (u ((p &&& q) % 18446744073709551616))) m) :
    opsM P G R ops K (⟨d, .binOp .and T x y T', ty, pos, aft, none⟩ :: rest) a m :=
  st_bin (fun w => by
    have := bits_and p q
    simp only [hx, hy, eqGuard, binOp, Op.intBits, IntKind.bits]
    simp
    exact this) h
theorem st_or_u {p q : Nat} (hx : a.eval x = u p) (hy : a.eval y = u q) (h : opsM P G R ops K rest (a.put d (u ((p ||| q) % 18446744073709551616))) m) :
    opsM P G R ops K (⟨d, .binOp .or T x y T', ty, pos, aft, none⟩ :: rest) a m :=
  st_bin (fun w => by
    have := bits_or p q
    simp only [hx, hy, eqGuard, binOp, Op.intBits, IntKind.bits]
    simp
    exact this) h

theorem st_shl_u {k' : IntKind} {p s : Nat} (hx : a.eval x = u p) (hy : a.eval y = .int k' (s : Int)) (hs : s ≤ 64) (h : opsM P G R ops K rest (a.put d (u ((p * 2 ^ s) % 18446744073709551616))) m) :
    opsM P G R ops K (⟨d, .binOp .shl T x y T', ty, pos, aft, none⟩ :: rest) a m :=
  st_bin (fun w => by
    have h0 : ¬ ((s : Int) < 0) := by omega
    have h1 : min ((s : Int).toNat) (IntKind.u64.bits) = s := by simp [IntKind.bits]; omega
    simp only [hx, hy, eqGuard, binOp, Op.shift, h0, if_false, h1, wrap_u64]
    simp) h
theorem st_shr_u {k' : IntKind} {p s : Nat} (hx : a.eval x = u p) (hy : a.eval y = .int k' (s : Int)) (hs : s ≤ 64) (h : opsM P G R ops K rest (a.put d (u (p / 2 ^ s))) m) :
    opsM P G R ops K (⟨d, .binOp .shr T x y T', ty, pos, aft, none⟩ :: rest) a m :=
  st_bin (fun w => by
    have h0 : ¬ ((s : Int) < 0) := by omega
    have h1 : min ((s : Int).toNat) (IntKind.u64.bits) = s := by simp [IntKind.bits]; omega
    simp only [hx, hy, eqGuard, binOp, Op.shift, h0, if_false, h1]
    have e : (p : Int).fdiv (2 ^ s) = ((p / 2 ^ s : Nat) : Int) := by
      rw [Int.fdiv_eq_ediv_of_nonneg _ (by exact Int.le_of_lt (Int.pow_pos (by decide)))]
      simp
    simp [e]) h

theorem st_quo_u {p q : Nat} (hx : a.eval x = u p) (hy : a.eval y = u q) (hp : p < 18446744073709551616) (hq : 0 < q) (h : opsM P G R ops K rest (a.put d (u (p / q))) m) :
    opsM P G R ops K (⟨d, .binOp .quo T x y T', ty, pos, aft, none⟩ :: rest) a m :=
  st_bin (fun w => by
    have h0 : ¬ ((q : Int) = 0) := by omega
    have e : ((p : Int).tdiv (q : Int)) % 18446744073709551616 = ((p / q : Nat) : Int) := by
      rw [Int.tdiv_eq_ediv_of_nonneg (by omega)]
      have h3 : p / q ≤ p := Nat.div_le_self _ _
      have e2 : ((p : Int) / (q : Int)) = ((p / q : Nat) : Int) := by simp
      rw [e2]
      generalize p / q = t at *
      omega
    simp only [hx, hy, eqGuard, binOp, Op.intDiv, h0, if_false, wrap_u64, e]
    simp) h
theorem st_rem_u {p q : Nat} (hx : a.eval x = u p) (hy : a.eval y = u q) (hq : 0 < q) (h : opsM P G R ops K rest (a.put d (u (p % q))) m) :
    opsM P G R ops K (⟨d, .binOp .rem T x y T', ty, pos, aft, none⟩ :: rest) a m :=
  st_bin (fun w => by
    have h0 : ¬ ((q : Int) = 0) := by omega
    have e : ((p : Int).tmod (q : Int)) = ((p % q : Nat) : Int) := by
      rw [Int.tmod_eq_emod_of_nonneg (by omega)]; simp
    simp only [hx, hy, eqGuard, binOp, Op.intDiv, h0, if_false, e]
    simp) h

/-! Go's int, not below 0. -/
theorem st_add_i {p q : Nat} (hx : a.eval x = ii p) (hy : a.eval y = ii q) (hb : p + q < 9223372036854775808) (h : opsM P G R ops K rest (a.put d (ii (p + q))) m) :
    opsM P G R ops K (⟨d, .binOp .add T x y T', ty, pos, aft, none⟩ :: rest) a m :=
  st_bin (fun w => by
    have : IntKind.i64.wrap ((p : Int) + q) = ((p + q : Nat) : Int) := by rw [wrap_i64 (by omega) (by omega)]; omega
    simp [hx, hy, eqGuard, binOp, Op.intArith, this]) h
theorem st_mul_i {p q : Nat} (hx : a.eval x = ii p) (hy : a.eval y = ii q) (hb : p * q < 9223372036854775808) (h : opsM P G R ops K rest (a.put d (ii (p * q))) m) :
    opsM P G R ops K (⟨d, .binOp .mul T x y T', ty, pos, aft, none⟩ :: rest) a m :=
  st_bin (fun w => by
    have e : ((p : Int) * q) = ((p * q : Nat) : Int) := by simp
    have : IntKind.i64.wrap ((p : Int) * q) = ((p * q : Nat) : Int) := by rw [e, wrap_i64 (by omega) (by omega)]
    simp [hx, hy, eqGuard, binOp, Op.intArith, this]) h
theorem st_quo_i {p q : Nat} (hx : a.eval x = ii p) (hy : a.eval y = ii q) (hp : p < 9223372036854775808) (hq : 0 < q) (h : opsM P G R ops K rest (a.put d (ii (p / q))) m) :
    opsM P G R ops K (⟨d, .binOp .quo T x y T', ty, pos, aft, none⟩ :: rest) a m :=
  st_bin (fun w => by
    have h0 : ¬ ((q : Int) = 0) := by omega
    have e : IntKind.i64.wrap ((p : Int).tdiv (q : Int)) = ((p / q : Nat) : Int) := by
      rw [Int.tdiv_eq_ediv_of_nonneg (by omega)]
      have h3 : p / q ≤ p := Nat.div_le_self _ _
      have e2 : ((p : Int) / (q : Int)) = ((p / q : Nat) : Int) := by simp
      rw [e2]
      generalize p / q = t at *
      rw [wrap_i64 (by omega) (by omega)]
    simp only [hx, hy, eqGuard, binOp, Op.intDiv, h0, if_false, e]
    simp) h
theorem st_rem_i {p q : Nat} (hx : a.eval x = ii p) (hy : a.eval y = ii q) (hq : 0 < q) (h : opsM P G R ops K rest (a.put d (ii (p % q))) m) :
    opsM P G R ops K (⟨d, .binOp .rem T x y T', ty, pos, aft, none⟩ :: rest) a m :=
  st_bin (fun w => by
    have h0 : ¬ ((q : Int) = 0) := by omega
    have e : ((p : Int).tmod (q : Int)) = ((p % q : Nat) : Int) := by
      rw [Int.tmod_eq_emod_of_nonneg (by omega)]; simp
    simp only [hx, hy, eqGuard, binOp, Op.intDiv, h0, if_false, e]
    simp) h
/-- Go's int, whatever it is. -/
theorem st_sub_z {p q : Int} (hx : a.eval x = .int .i64 p) (hy : a.eval y = .int .i64 q) (h0 : -9223372036854775808 ≤ p - q) (h1 : p - q < 9223372036854775808) (h : opsM P G R ops K rest (a.put d (.int .i64 (p - q))) m) :
    opsM P G R ops K (⟨d, .binOp .sub T x y T', ty, pos, aft, none⟩ :: rest) a m :=
  st_bin (fun w => by simp [hx, hy, eqGuard, binOp, Op.intArith, wrap_i64 h0 h1]) h

/-! Comparisons. -/
theorem st_lt {k : IntKind} {p q : Int} (hx : a.eval x = .int k p) (hy : a.eval y = .int k q) (h : opsM P G R ops K rest (a.put d (.bool (decide (p < q)))) m) :
    opsM P G R ops K (⟨d, .binOp .lss T x y T', ty, pos, aft, none⟩ :: rest) a m :=
  st_bin (fun w => by simp [hx, hy, eqGuard, binOp, Op.intCmp]) h
theorem st_gt {k : IntKind} {p q : Int} (hx : a.eval x = .int k p) (hy : a.eval y = .int k q) (h : opsM P G R ops K rest (a.put d (.bool (decide (q < p)))) m) :
    opsM P G R ops K (⟨d, .binOp .gtr T x y T', ty, pos, aft, none⟩ :: rest) a m :=
  st_bin (fun w => by simp [hx, hy, eqGuard, binOp, Op.intCmp]) h
theorem st_ge {k : IntKind} {p q : Int} (hx : a.eval x = .int k p) (hy : a.eval y = .int k q) (h : opsM P G R ops K rest (a.put d (.bool (decide (q ≤ p)))) m) :
    opsM P G R ops K (⟨d, .binOp .geq T x y T', ty, pos, aft, none⟩ :: rest) a m :=
  st_bin (fun w => by simp [hx, hy, eqGuard, binOp, Op.intCmp]) h
theorem st_eq {k : IntKind} {p q : Int} (hx : a.eval x = .int k p) (hy : a.eval y = .int k q) (h : opsM P G R ops K rest (a.put d (.bool (decide (p = q)))) m) :
    opsM P G R ops K (⟨d, .binOp .eql T x y T', ty, pos, aft, none⟩ :: rest) a m :=
  st_bin (fun w => by
    have e : (p == q) = decide (p = q) := by by_cases h : p = q <;> simp [h]
    simp [hx, hy, eqGuard, binOp, Op.intCmp, e]) h
theorem st_ne {k : IntKind} {p q : Int} (hx : a.eval x = .int k p) (hy : a.eval y = .int k q) (h : opsM P G R ops K rest (a.put d (.bool (decide (p ≠ q)))) m) :
    opsM P G R ops K (⟨d, .binOp .neq T x y T', ty, pos, aft, none⟩ :: rest) a m :=
  st_bin (fun w => by
    have e : (p != q) = decide (p ≠ q) := by by_cases h : p = q <;> simp [h]
    simp [hx, hy, eqGuard, binOp, Op.intCmp, e]) h

/-! One operand; conversions. -/
theorem st_not {b : Bool} (hx : a.eval x = .bool b) (h : opsM P G R ops K rest (a.put d (.bool (!b))) m) : opsM P G R ops K (⟨d, .unOp .not T x, ty, pos, aft, none⟩ :: rest) a m :=
  st_quiet (v := .bool (!b)) rfl rfl (fun w => by simp [execOp, hx, Op.unary]) h
theorem st_neg_u {p : Nat} (hx : a.eval x = u p) (hp : p ≤ 18446744073709551616) (h : opsM P G R ops K rest (a.put d (u ((18446744073709551616 - p) % 18446744073709551616))) m) :
    opsM P G R ops K (⟨d, .unOp .neg T x, ty, pos, aft, none⟩ :: rest) a m :=
  st_quiet (v := u ((18446744073709551616 - p) % 18446744073709551616)) rfl rfl (fun w => by simp [execOp, hx, Op.unary, Op.intArith, wrap_u64]; omega) h
theorem cls_conv {o : Oper} {S T : TypeId} {x : Operand} (ho : o.op = .convert S T x) (hv : kconv R S T = 1) : cls R o = 1 := by
  simp only [cls, ho, hv]
theorem st_conv {v : Value} (hv : kconv R T T' = 1) (hr : ∀ w, MemR G w → vis R m w → (execOp a.eval ⟨d, .convert T T' x, ty, pos, aft, none⟩).run P w = .ok (.value v) w) (h : opsM P G R ops K rest (a.put d v) m) :
    opsM P G R ops K (⟨d, .convert T T' x, ty, pos, aft, none⟩ :: rest) a m :=
  .inr ⟨rfl, by rw [cls_conv rfl hv]; exact ⟨v, fun w hG hm => .inl (hr w hG hm), h⟩⟩
theorem st_conv_u {k : IntKind} {dk : TypeDesc} {p : Nat} (hv : kconv R T T' = 1) (hs : P.underlying T = some dk) (ht : P.underlying T' = some (.int .u64)) (hx : a.eval x = .int k (p : Int))
    (h : opsM P G R ops K rest (a.put d (u (p % 18446744073709551616))) m) : opsM P G R ops K (⟨d, .convert T T' x, ty, pos, aft, none⟩ :: rest) a m :=
  st_conv hv (v := u (p % 18446744073709551616)) (fun w _ _ => by
    simp only [execOp, convert, underlying, program, hx]
    simp [Sem.run, hs, ht, Conv.intToInt, wrap_u64]) h
theorem st_conv_u8 {k : IntKind} {dk : TypeDesc} {p : Nat} (hv : kconv R T T' = 1) (hs : P.underlying T = some dk) (ht : P.underlying T' = some (.int .u8)) (hx : a.eval x = .int k (p : Int))
    (h : opsM P G R ops K rest (a.put d (by8 (p % 256))) m) : opsM P G R ops K (⟨d, .convert T T' x, ty, pos, aft, none⟩ :: rest) a m :=
  st_conv hv (v := by8 (p % 256)) (fun w _ _ => by
    simp only [execOp, convert, underlying, program, hx]
    simp [Sem.run, hs, ht, Conv.intToInt, wrap_u8]) h

/-! ### Memory -/
theorem st_alloc {z : Value} (hz : (P.info? T).bind (·.zero) = some z) (h : ∀ r, (∀ x ∈ m, x.b ≠ r) → opsM P G R ops K rest (a.put d (ptr r)) (m ++ [⟨r, z.cells, T⟩])) :
    opsM P G R ops K (⟨d, .alloc T, ty, pos, aft, none⟩ :: rest) a m :=
  .inr ⟨rfl, z.cells, T, ptr, fun w => by
    cases hi : P.info? T with
    | none => simp [hi] at hz
    | some i =>
      have hz' : i.zero = some z := by simpa [hi] using hz
      simp [execOp, Instr.alloc, zeroValue, typeInfo, hi, hz', newVar, newRow, ptr], h⟩

theorem st_box {v : Value} (hx : a.eval x = v) (h : ∀ r, (∀ x ∈ m, x.b ≠ r) → opsM P G R ops K rest (a.put d (ptr r)) (m ++ [⟨r, v.cells, T⟩])) :
    opsM P G R ops K (⟨d, .box T x, ty, pos, aft, none⟩ :: rest) a m :=
  .inr ⟨rfl, v.cells, T, ptr, fun w => by simp [execOp, Instr.box, newVar, newRow, ptr, hx], h⟩

def rowLike : TypeDesc → Bool
  | .struct _ | .array _ _ => true
  | _ => false

theorem run_isAgg {td : TypeDesc} (hT : P.underlying T = some td) (w : World) : (isAgg T).run P w = .ok (rowLike td) w := by
  simp only [isAgg, underlying, program]
  simp only [Sem.run_bind, Sem.run, Result.andThen_ok, hT]
  cases td <;> rfl

theorem mem_of_get {i : Nat} {z : Blk} (hm : m[i]? = some z) : z ∈ m := List.mem_of_getElem? hm

/-- A read of one cell. -/
theorem st_load1 {b o i : Nat} {c : Array Value} {t : TypeId} {v : Value} {td : TypeDesc} (hT : P.underlying T = some td) (hn : rowLike td = false) (hx : a.eval x = .pointer (some ⟨b, o, none⟩))
    (hm : m[i]? = some ⟨b, c, t⟩) (hX : b ∉ R.X) (hc : c[o]? = some v) (h : opsM P G R ops K rest (a.put d v) m) : opsM P G R ops K (⟨d, .load T x, ty, pos, aft, none⟩ :: rest) a m :=
  .inr ⟨rfl, v, fun w _ hw => .inl (by
    have hin := hw _ (mem_of_get hm) hX
    have hcell : w.cell? ⟨b, o, none⟩ = some v := by rw [In.cell hin o]; exact hc
    simp only [execOp, Instr.loadAt, hx, Instr.sureAddr, loadVar]
    simp [run_isAgg hT, hn, hcell]), h⟩

/-- The same, of a package variable. -/
theorem st_load1g {b o i : Nat} {c : Array Value} {t : TypeId} {v : Value} {td : TypeDesc} (hT : P.underlying T = some td) (hn : rowLike td = false) (hx : a.eval x = .pointer (some ⟨b, o, none⟩))
    (hm : G[i]? = some ⟨b, c, t⟩) (hc : c[o]? = some v) (h : opsM P G R ops K rest (a.put d v) m) : opsM P G R ops K (⟨d, .load T x, ty, pos, aft, none⟩ :: rest) a m :=
  .inr ⟨rfl, v, fun w hw _ => .inl (by
    have hin := hw _ (mem_of_get hm)
    have hcell : w.cell? ⟨b, o, none⟩ = some v := by rw [hin.2 o (Array.getElem?_eq_some_iff.1 hc).1]; exact hc
    simp only [execOp, Instr.loadAt, hx, Instr.sureAddr, loadVar]
    simp [run_isAgg hT, hn, hcell]), h⟩

theorem run_loadCellsFrom {w : World} {z : Blk} (hin : RIn w z) : ∀ (n i : Nat) (acc : Array Value), i + n = z.c.size →
    (loadCellsFrom ⟨z.b, 0, none⟩ i n acc).run P w = .ok (acc ++ z.c.extract i z.c.size) w
  | 0, i, acc, h => by
    have : i = z.c.size := by omega
    subst this
    simp [loadCellsFrom]
  | n + 1, i, acc, h => by
    have hi : i < z.c.size := by omega
    have hcell : w.cell? ((⟨z.b, 0, none⟩ : Addr).add i) = some z.c[i] := by
      have e : (⟨z.b, 0, none⟩ : Addr).add i = ⟨z.b, i, none⟩ := by
        unfold Addr.add; split
        · rename_i h0; subst h0; rfl
        · simp
      rw [e, hin.2 i hi]; simp [hi]
    unfold loadCellsFrom
    simp only [Sem.run_bind, run_load, hcell, Result.andThen_ok]
    rw [run_loadCellsFrom hin n (i + 1) (acc.push z.c[i]) (by omega)]
    congr 1
    apply Array.ext
    · simp; omega
    · intro j h1 h2
      by_cases hj : j < acc.size
      · have hj2 : j < acc.size + 1 := by omega
        simp [hj, hj2, Array.getElem_push]
      · by_cases hj' : j = acc.size
        · subst hj'; simp
        · have : ¬ j < acc.size + 1 := by omega
          simp [Array.getElem_append, hj, this]
          congr 1; omega

theorem run_loadAll {w : World} {z : Blk} {td : TypeDesc} (hin : RIn w z) (hT : P.underlying T = some td) (hn : rowLike td = true) (hs : (P.info? T).map (·.size) = some z.c.size) :
    (loadVar T ⟨z.b, 0, none⟩).run P w = .ok (.agg z.c) w := by
  cases hi : P.info? T with
  | none => simp [hi] at hs
  | some i =>
    have hsz : i.size = z.c.size := by simpa [hi] using hs
    have := run_loadCellsFrom (P := P) hin z.c.size 0 #[] (by omega)
    simp only [loadVar, loadCells, sizeOf, typeInfo]
    simp [run_isAgg hT, hn, hi, hsz, this]

/-- A read of a whole block. -/
theorem st_loadA {b i : Nat} {c : Array Value} {t : TypeId} {td : TypeDesc} (hT : P.underlying T = some td) (hn : rowLike td = true) (hs : (P.info? T).map (·.size) = some c.size)
    (hx : a.eval x = .pointer (some ⟨b, 0, none⟩)) (hm : m[i]? = some ⟨b, c, t⟩) (hX : b ∉ R.X) (h : opsM P G R ops K rest (a.put d (.agg c)) m) : opsM P G R ops K (⟨d, .load T x, ty, pos, aft, none⟩ :: rest) a m :=
  .inr ⟨rfl, .agg c, fun w _ hw => .inl (by
    have hin := (hw _ (mem_of_get hm) hX).read
    simp only [execOp, Instr.loadAt, hx, Instr.sureAddr]
    simp [run_loadAll hin hT hn hs]), h⟩
theorem st_loadAg {b i : Nat} {c : Array Value} {t : TypeId} {td : TypeDesc} (hT : P.underlying T = some td) (hn : rowLike td = true) (hs : (P.info? T).map (·.size) = some c.size)
    (hx : a.eval x = .pointer (some ⟨b, 0, none⟩)) (hm : G[i]? = some ⟨b, c, t⟩) (h : opsM P G R ops K rest (a.put d (.agg c)) m) : opsM P G R ops K (⟨d, .load T x, ty, pos, aft, none⟩ :: rest) a m :=
  .inr ⟨rfl, .agg c, fun w hw _ => .inl (by
    have hin := hw _ (mem_of_get hm)
    simp only [execOp, Instr.loadAt, hx, Instr.sureAddr]
    simp [run_loadAll hin hT hn hs]), h⟩

/-! The stores. -/
theorem setBlk_setCell {w : World} {z : Blk} (hin : In w z) (o : Nat) (v : Value) : w.setCell ⟨z.b, o, none⟩ v = setBlk w ⟨z.b, z.c.setIfInBounds o v, z.t⟩ := by
  obtain ⟨q, h1, _⟩ := hin
  exact setCell_eq_setRow w z.b o z.c z.t q v h1
/-- Stores into a block of one's own. -/
theorem run_storeCells_in (g o : Nat) (t : TypeId) : ∀ (vs : List Value) (i : Nat) (cur : Array Value) (w : World), In w ⟨g, cur, t⟩ → o + i + vs.length ≤ cur.size → (∀ v ∈ vs, v.oneCell' = true) →
    (storeCells ⟨g, o, none⟩ vs i).run P w = .ok () (w.setRow g (cur.toList.take (o + i) ++ vs ++ cur.toList.drop (o + i + vs.length)).toArray)
  | [], i, cur, w, ⟨q, hg, _⟩, _, _ => by
    simp only [storeCells, List.append_nil, List.length_nil, Nat.add_zero, List.take_append_drop, Array.toArray_toList]
    rw [setRow_self w g cur t q hg]
    rfl
  | v :: rest, i, cur, w, hin, hl, h1 => by
    have hi : o + i < cur.size := by simp at hl; omega
    have hadd : (⟨g, o, none⟩ : Addr).add i = ⟨g, o + i, none⟩ := by unfold Addr.add; split <;> simp_all
    have hcell : w.cell? ⟨g, o + i, none⟩ = some cur[o + i] := by rw [In.cell hin]; simp [hi]
    have hfro : w.frozen? ⟨g, o + i, none⟩ = false := In.frozen hin hi
    have hsc := setBlk_setCell hin (o + i) v
    have hst : (store ((⟨g, o, none⟩ : Addr).add i) v).run P w = .ok () (w.setRow g (cur.setIfInBounds (o + i) v)) := by
      rw [hadd, run_store P w _ v _ (h1 v (by simp)), hcell]
      simp only [setBlk] at hsc
      simp [hfro, hsc]
    have ih := run_storeCells_in g o t rest (i + 1) (cur.setIfInBounds (o + i) v) (w.setRow g (cur.setIfInBounds (o + i) v)) (hin.set (by simp)) (by simp at hl ⊢; omega) (fun x hx => h1 x (by simp [hx]))
    simp only [storeCells, Sem.run_bind, hst, Result.andThen_ok, ih, setRow_setRow]
    congr 3
    have e := list_seg_step cur.toList (o + i) v rest (by simp at hl ⊢; omega)
    simpa [Array.toList_setIfInBounds, Nat.add_assoc] using e

theorem store_at {i : Nat} {z : Blk} (hm : m[i]? = some z) (hX : R.X = [] ∨ z.b ∈ R.X) (c' : Array Value) (hsz : c'.size = z.c.size) (hrun : ∀ w, In w z → (execOp a.eval ⟨d, .store T x y, ty, pos, aft, none⟩).run P w = .ok .skip (setBlk w ⟨z.b, c', z.t⟩))
    (h : opsM P G R ops K rest (a.put d undef) (m.set i ⟨z.b, c', z.t⟩)) : opsM P G R ops K (⟨d, .store T x y, ty, pos, aft, none⟩ :: rest) a m := by
  have hi : i < m.length := (List.getElem?_eq_some_iff.1 hm).1
  have hz : m[i] = z := (List.getElem?_eq_some_iff.1 hm).2
  refine .inr ⟨rfl, m.take i, z, m.drop (i + 1), c', ?_, ⟨hX, hsz⟩, hrun, ?_⟩
  · rw [← hz, List.getElem_cons_drop, List.take_append_drop]
  · rw [List.set_eq_take_append_cons_drop, if_pos hi] at h
    exact h

/-- A store into one cell. -/
theorem st_store1 {b o i : Nat} {c : Array Value} {t : TypeId} {v : Value} (hs : (P.info? T).map (·.size) = some 1) (hx : a.eval x = .pointer (some ⟨b, o, none⟩)) (hy : a.eval y = v) (hv : v.oneCell' = true)
    (hm : m[i]? = some ⟨b, c, t⟩) (hX : R.X = [] ∨ b ∈ R.X) (ho : o < c.size) (h : opsM P G R ops K rest (a.put d undef) (m.set i ⟨b, c.setIfInBounds o v, t⟩)) : opsM P G R ops K (⟨d, .store T x y, ty, pos, aft, none⟩ :: rest) a m :=
  store_at hm hX (c.setIfInBounds o v) (by simp) (fun w hin => by
    have hcell : w.cell? ⟨b, o, none⟩ = some c[o] := by rw [In.cell hin o]; simp [ho]
    have hfz := In.frozen hin ho
    simp only at hfz
    have hcs : v.cells = #[v] := by cases v <;> first | rfl | (simp [Value.oneCell'] at hv)
    cases hi : P.info? T with
    | none => simp [hi] at hs
    | some j =>
      have hsz : j.size = 1 := by simpa [hi] using hs
      have e0 : (⟨b, o, none⟩ : Addr).add 0 = ⟨b, o, none⟩ := rfl
      simp only [execOp, Instr.storeAt, hx, hy, Instr.sureAddr, storeVar, sizeOf, typeInfo]
      simp [hi, hsz, hcs, storeCells, e0, run_store _ _ _ _ _ hv, hcell, hfz, setBlk_setCell hin]) h

/-- A store into one cell of an array of numbers. -/
theorem st_storeN {b o i n v : Nat} {k : IntKind} {f : Nat → Nat} {t : TypeId} (hs : (P.info? T).map (·.size) = some 1) (hx : a.eval x = .pointer (some ⟨b, o, none⟩)) (hy : a.eval y = .int k (v : Int))
    (hm : m[i]? = some ⟨b, arr k n f, t⟩) (hX : R.X = [] ∨ b ∈ R.X) (ho : o < n) (h : opsM P G R ops K rest (a.put d undef) (m.set i ⟨b, arr k n (upd f o v), t⟩)) : opsM P G R ops K (⟨d, .store T x y, ty, pos, aft, none⟩ :: rest) a m :=
  st_store1 hs hx hy rfl hm hX (by rw [arr_size]; exact ho) (by rw [arr_set]; exact h)

/-- A store of a whole block. -/
theorem st_storeA {b i : Nat} {c c' : Array Value} {t : TypeId} (hs : (P.info? T).map (·.size) = some c'.size) (hx : a.eval x = .pointer (some ⟨b, 0, none⟩)) (hy : a.eval y = .agg c')
    (hv : ∀ v ∈ c', v.oneCell' = true) (hm : m[i]? = some ⟨b, c, t⟩) (hX : R.X = [] ∨ b ∈ R.X) (ho : c'.size = c.size) (h : opsM P G R ops K rest (a.put d undef) (m.set i ⟨b, c', t⟩)) : opsM P G R ops K (⟨d, .store T x y, ty, pos, aft, none⟩ :: rest) a m :=
  store_at hm hX c' ho (fun w hin => by
    have key : (storeCells ⟨b, 0, none⟩ c'.toList 0).run P w = .ok () (setBlk w ⟨b, c', t⟩) := by
      have h1 := run_storeCells_in (P := P) b 0 t c'.toList 0 c w hin (by simp [ho]) (fun v h => hv v (by simpa using h))
      rw [h1]
      congr 1
      unfold setBlk
      congr 1
      apply Array.ext'
      simp [ho]
    cases hi : P.info? T with
    | none => simp [hi] at hs
    | some j =>
      have hsz : j.size = c'.size := by simpa [hi] using hs
      simp only [execOp, Instr.storeAt, hx, hy, Instr.sureAddr, storeVar, sizeOf, typeInfo]
      simp [hi, hsz, Value.cells, key]) h

/-! The address of an element. -/
theorem st_index {b o j n : Nat} {k : IntKind} {e : TypeId} (hT : P.underlying T = some (.array n e)) (hs : (P.info? e).map (·.size) = some 1) (hx : a.eval x = .pointer (some ⟨b, o, none⟩)) (hy : a.eval y = .int k (j : Int)) (hj : j < n)
    (h : opsM P G R ops K rest (a.put d (.pointer (some ⟨b, o + j, none⟩))) m) : opsM P G R ops K (⟨d, .indexAddr T x y, ty, pos, aft, none⟩ :: rest) a m :=
  st_quiet (v := .pointer (some ⟨b, o + j, none⟩)) rfl rfl (fun w => by
    cases hi : P.info? e with
    | none => simp [hi] at hs
    | some i =>
      have hsz : i.size = 1 := by simpa [hi] using hs
      have h0 : (0 : Int) ≤ j ∧ (j : Int) < n := by omega
      have ha : (⟨b, o, none⟩ : Addr).add j = ⟨b, o + j, none⟩ := by
        unfold Addr.add; split
        · rename_i h0; subst h0; rfl
        · simp
      simp only [execOp, Instr.indexAt, hx, hy, asIntOf, underlying, program, sizeOf, typeInfo, Instr.sureAddr]
      simp [Sem.run, hT, hi, hsz, h0, ha, hj]) h

/-! An element of an array that is a value. -/
theorem st_idx {j n : Nat} {k k' k2 : IntKind} {e : TypeId} {f : Nat → Nat} (hT : P.underlying T = some (.array n e)) (he : P.underlying e = some (.int k')) (hs : (P.info? e).map (·.size) = some 1) (hx : a.eval x = .agg (arr k n f)) (hy : a.eval y = .int k2 (j : Int)) (hj : j < n)
    (h : opsM P G R ops K rest (a.put d (.int k (f j : Int))) m) : opsM P G R ops K (⟨d, .index T x y, ty, pos, aft, none⟩ :: rest) a m :=
  st_quiet (v := .int k (f j : Int)) rfl rfl (fun w => by
    cases hi : P.info? e with
    | none => simp [hi] at hs
    | some i =>
      have hsz : i.size = 1 := by simpa [hi] using hs
      have h0 : (0 : Int) ≤ j ∧ (j : Int) < n := by omega
      have hp : (part e (arr k n f) j).run P w = .ok (.int k (f j : Int)) w := by
        unfold part
        simp [run_isAgg he, rowLike, arr_get hj]
      simp only [execOp, Instr.index, hx, hy, asIntOf, underlying, program, sizeOf, typeInfo]
      simp [Sem.run, hT, hi, hsz, hj, hp]) h

/-! A composite of nothing: all zero. -/
theorem st_build0 {z : Value} {n : Nat} {e : TypeId} (hz : (P.info? T).bind (·.zero) = some z) (hT : P.underlying T = some (.array n e)) (hs : ((P.info? e).map (·.size)).isSome = true)
    (h : opsM P G R ops K rest (a.put d (.agg z.cells)) m) : opsM P G R ops K (⟨d, .build T #[], ty, pos, aft, none⟩ :: rest) a m :=
  st_quiet (v := .agg z.cells) rfl rfl (fun w => by
    cases hi : P.info? T with
    | none => simp [hi] at hz
    | some i =>
      have hz' : i.zero = some z := by simpa [hi] using hz
      cases he : P.info? e with
      | none => simp [he] at hs
      | some j =>
        simp only [execOp, Instr.build, zeroValue, typeInfo, underlying, program, sizeOf]
        simp [Sem.run, hi, hz', hT, he, Instr.fill]) h

/-! A composite whose parts are given. -/
theorem st_build {z : Value} {l : Nat} {e : TypeId} {parts : Array (Nat × Operand)} {pv : List (Nat × Value)} {c : Array Value} (hz : (P.info? T).bind (·.zero) = some z) (hT : P.underlying T = some (.array l e)) (hs : (P.info? e).map (·.size) = some 1)
    (hp : parts.toList.map (fun p => (p.1, a.eval p.2)) = pv) (hf : Instr.fill (fun i => some (i * 1, 1)) z.cells pv = some c)
    (h : opsM P G R ops K rest (a.put d (.agg c)) m) : opsM P G R ops K (⟨d, .build T parts, ty, pos, aft, none⟩ :: rest) a m :=
  st_quiet (v := .agg c) rfl rfl (fun w => by
    cases hi : P.info? T with
    | none => simp [hi] at hz
    | some i =>
      have hz' : i.zero = some z := by simpa [hi] using hz
      cases he : P.info? e with
      | none => simp [he] at hs
      | some j =>
        have hsz : j.size = 1 := by simpa [he] using hs
        have hp' : (parts.map fun (i, x) => (i, a.eval x)).toList = pv := by rw [← hp]; simp
        simp only [execOp, Instr.build, zeroValue, typeInfo, underlying, program, sizeOf]
        simp only [hp']
        simp only [Sem.run_bind, Sem.run, Sem.run_pure, Result.andThen_ok, hi, hz', hT, he, hsz, hf]) h

/-! Choices. -/
theorem st_pick {p q r : Operand} {t : Bool} {v : Value} (hc : a.eval p = .bool t) (hv : (if t then a.eval q else a.eval r) = v) (h : opsM P G R ops K rest (a.put d v) m) :
    opsM P G R ops K (⟨d, .pick p q r, ty, pos, aft, none⟩ :: rest) a m :=
  st_quiet (v := v) rfl rfl (fun w => by simp [execOp, hc, asBool, hv]) h

/-! Guards. -/
theorem st_yes {op : Op} {g : Nat} {want : Bool} (hw : yielded ops a.tmps g = some want) (h : opsM P G R ops K (⟨d, op, ty, pos, aft, none⟩ :: rest) a m) : opsM P G R ops K (⟨d, op, ty, pos, aft, some (g, want)⟩ :: rest) a m := by
  rcases h with ⟨h1, _⟩ | ⟨_, h2⟩
  · simp [Region.wanted] at h1
  · exact .inr ⟨by simp [Region.wanted, hw], h2⟩
theorem st_no {op : Op} {g : Nat} {want b : Bool} (hw : yielded ops a.tmps g = some b) (hne : b ≠ want) (h : opsM P G R ops K rest (a.put d undef) m) : opsM P G R ops K (⟨d, op, ty, pos, aft, some (g, want)⟩ :: rest) a m :=
  .inl ⟨by simp [Region.wanted, hw, hne], h⟩

/-! Arrays of numbers, one against the other. -/
def allEq (l : Nat) (f g : Nat → Nat) : Bool := (List.range l).all fun j => f j == g j
theorem allEq_iff {l : Nat} {f g : Nat → Nat} : allEq l f g = true ↔ ∀ j, j < l → f j = g j := by simp [allEq]

theorem run_part {e : TypeId} {k k' : IntKind} {n : Nat} {f : Nat → Nat} {i : Nat} (he : P.underlying e = some (.int k')) (hi : i < n) (w : World) :
    (part e (arr k n f) i).run P w = .ok (.int k (f i : Int)) w := by
  unfold part
  simp [run_isAgg he, rowLike, arr_get hi]

theorem run_equalArr {dp : Nat} {e : TypeId} {k k' : IntKind} {n : Nat} {f g : Nat → Nat} (hT : P.underlying T = some (.array n e)) (he : P.underlying e = some (.int k')) (hs : (P.info? e).map (·.size) = some 1) (w : World) :
    (Op.equalIn (dp + 2) T (.agg (arr k n f)) (.agg (arr k n g))).run P w = .ok (allEq n f g) w := by
  cases hi : P.info? e with
  | none => simp [hi] at hs
  | some i =>
    have hsz : i.size = 1 := by simpa [hi] using hs
    have key : ∀ l : List Nat, (∀ j ∈ l, j < n) → (forIn l ((none : Option Bool), ()) (fun i __s => do
            let __do_lift ← part e (arr k n f) i
            let __do_lift_1 ← part e (arr k n g) i
            let __do_lift ← Op.equalIn (dp + 1) e __do_lift __do_lift_1
            if __do_lift = false then pure (ForInStep.done (some false, ())) else pure (ForInStep.yield (none, ())))).run P w
        = .ok (if (l.all fun j => f j == g j) then none else some false, ()) w := by
      intro l
      induction l with
      | nil => intro _; rfl
      | cons j l ih =>
        intro hl
        have hj := hl j (by simp)
        rw [List.forIn_cons]
        simp only [Sem.run_bind, run_part he hj, Result.andThen_ok, run_equalIn_int w dp e k k' _ _ he]
        by_cases hfg : f j = g j
        · simp [hfg, ih (fun x hx => hl x (by simp [hx]))]
        · have : ((f j : Int) == (g j : Int)) = false := by simp; omega
          simp [this, hfg]
    unfold Op.equalIn
    simp only [underlying, program, sizeOf, typeInfo]
    simp [Sem.run, hT, hi, hsz]
    rw [key _ (fun j hj => by simpa using hj)]
    unfold allEq
    rw [List.range_eq_range']
    simp only [Result.andThen_ok]
    cases ((List.range' 0 n).all fun j => f j == g j) <;> rfl

theorem st_eqA {e : TypeId} {k k' : IntKind} {n : Nat} {f g : Nat → Nat} (hT : P.underlying T = some (.array n e)) (he : P.underlying e = some (.int k')) (hs : (P.info? e).map (·.size) = some 1) (hg : P.eqGuardType P.depth T = false)
    (hx : a.eval x = .agg (arr k n f)) (hy : a.eval y = .agg (arr k n g)) (h : opsM P G R ops K rest (a.put d (.bool (allEq n f g))) m) : opsM P G R ops K (⟨d, .binOp .eql T x y T', ty, pos, aft, none⟩ :: rest) a m :=
  st_bin (fun w => by
    rw [hx, hy]
    have := run_equalArr (dp := 9998) (k := k) (f := f) (g := g) hT he hs w
    simp only [Sem.run_bind, run_eqGuard_agg w .eql T x y _ _ hg, Result.andThen_ok, run_eql_struct, this]) h
theorem st_neA {e : TypeId} {k k' : IntKind} {n : Nat} {f g : Nat → Nat} (hT : P.underlying T = some (.array n e)) (he : P.underlying e = some (.int k')) (hs : (P.info? e).map (·.size) = some 1) (hg : P.eqGuardType P.depth T = false)
    (hx : a.eval x = .agg (arr k n f)) (hy : a.eval y = .agg (arr k n g)) (h : opsM P G R ops K rest (a.put d (.bool (!allEq n f g))) m) : opsM P G R ops K (⟨d, .binOp .neq T x y T', ty, pos, aft, none⟩ :: rest) a m :=
  st_bin (fun w => by
    rw [hx, hy]
    have := run_equalArr (dp := 9998) (k := k) (f := f) (g := g) hT he hs w
    simp only [Sem.run_bind, run_eqGuard_agg w .neq T x y _ _ hg, Result.andThen_ok, run_neq_struct, this]) h
theorem st_eqB {p q : Bool} (hT : P.underlying T = some .bool) (hx : a.eval x = .bool p) (hy : a.eval y = .bool q) (h : opsM P G R ops K rest (a.put d (.bool (p == q))) m) :
    opsM P G R ops K (⟨d, .binOp .eql T x y T', ty, pos, aft, none⟩ :: rest) a m :=
  st_bin (fun w => by
    have h1 : (Op.equalIn 10000 T (.bool p) (.bool q)).run P w = .ok (p == q) w := run_equalIn_bool' w 9999 T p q hT
    rw [hx, hy]
    simp only [Sem.run_bind, eqGuard, binOp, Op.equal, Op.maxDepth]
    simp [h1]) h

/-! ### Calls -/
/-- A call that gives a value, and leaves all as it was: whatever kind the region's calls are of. -/
def callOk (R : Reg) : Bool := R.c == 1 || R.c == 4 || R.c == 5
theorem core_call (hR : callOk R = true) {o : Oper} {v : Value} (hr : ∀ w, MemR G w → vis R m w → Yl P o a w v) (h : K (a.put o.dst v) m) : coreM P G R o K a m R.c := by
  have key : ∀ w, Yl P o a w v → ∀ S : Value → Mem → Mem → Prop, S v [] [] → Ye P o a w [] S := fun w hy S hS => by
    rcases hy with h1 | ⟨f, args, h1, hc⟩
    · exact .inl ⟨v, [], [], w, h1, hS, Post.of_below (Below.refl _ _)⟩
    · exact .inr ⟨f, args, h1, hc.mono fun e w' ⟨he, hb⟩ => ⟨v, [], [], he, hS, Post.of_below hb⟩⟩
  have fr : FreshM m [] := ⟨by simp, by simp⟩
  unfold callOk at hR
  generalize R.c = k at hR
  match k with
  | 0 => simp at hR
  | 1 => exact ⟨v, hr, h⟩
  | 2 => simp at hR
  | 3 => simp at hR
  | 4 =>
    refine ⟨fun v' nw => v' = v ∧ nw = [], ⟨v, [], ⟨rfl, rfl⟩, fr⟩, fun w h1 h2 => key w (hr w h1 h2) _ ⟨rfl, rfl, rfl⟩, ?_⟩
    rintro v' nw ⟨rfl, rfl⟩ _
    simpa using h
  | 5 =>
    refine ⟨[], m, fun v' l1 nw => v' = v ∧ l1 = [] ∧ nw = [], by simp, ⟨v, [], [], ⟨rfl, rfl, rfl⟩, fr⟩, ?_, fun w h1 h2 _ => key w (hr w h1 (fun z hz _ => h2 z hz)) _ ⟨rfl, rfl, rfl⟩, ?_⟩
    · rintro v' l1 nw ⟨_, rfl, _⟩; rfl
    · rintro v' l1 nw ⟨rfl, rfl, rfl⟩ _
      simpa using h
theorem st_callE (hR : callOk R = true) {f : FuncId} {args : Array Operand} {tys : Array TypeId} {vs : Array Value} {v : Value} (hargs : args.map a.eval = vs) (hr : ∀ w, (callFunc f vs).run P w = .ok (.value v) w)
    (h : opsM P G R ops K rest (a.put d v) m) : opsM P G R ops K (⟨d, .call ⟨.value (.func f), args, tys⟩, ty, pos, aft, none⟩ :: rest) a m :=
  .inr ⟨rfl, core_call hR (v := v) (fun w _ _ => .inl (by
    have := hr w
    have e1 : a.eval (.func f) = .func (.func f) #[] #[] := rfl
    simp only [execOp, resolve, e1, hargs, Deferred.ofValue, invoke]
    simp [this])) h⟩

theorem run_call {f : FuncId} {fn : Func} {vs : Array Value} (hf : P.funcs[f]? = some fn) (hn : (fn.name == "runtime.NumGoroutine") = false) (hb : fn.body.isNone = false) (w : World) :
    (callFunc f vs).run P w = .ok (.enter f vs) w := by
  have h1 : fn.name ≠ "runtime.NumGoroutine" := by simpa using hn
  have h2 : ¬ fn.body = none := by intro e; rw [e] at hb; cases hb
  simp [callFunc, hf, h1, h2]

/-- May this function be entered? -/
def enters (P : Program) (f : FuncId) : Bool := match P.funcs[f]? with
  | some fn => !(fn.name == "runtime.NumGoroutine") && !fn.body.isNone
  | none => false

theorem enters_run {f : FuncId} {vs : Array Value} (h : enters P f = true) (w : World) : (callFunc f vs).run P w = .ok (.enter f vs) w := by
  unfold enters at h
  split at h
  · rename_i fn hf
    simp only [Bool.and_eq_true, Bool.not_eq_true'] at h
    exact run_call hf h.1 h.2 w
  · cases h

theorem st_callV (hR : callOk R = true) {fo : Operand} {f : FuncId} {args : Array Operand} {tys : Array TypeId} {vs cap : Array Value} {v : Value} (hf : a.eval fo = .func (.func f) #[] cap) (hargs : args.map a.eval = vs) (he : enters P f = true)
    (hF : ∀ w, MemR G w → vis R m w → Calls P f (vs ++ cap) w (fun e w' => e = .returned v ∧ Below w.heap.size w w'))
    (h : opsM P G R ops K rest (a.put d v) m) : opsM P G R ops K (⟨d, .call ⟨.value fo, args, tys⟩, ty, pos, aft, none⟩ :: rest) a m :=
  .inr ⟨rfl, core_call hR (v := v) (fun w hG hm => .inr ⟨f, vs ++ cap, by
    have := enters_run (P := P) (vs := vs ++ cap) he w
    simp only [execOp, resolve, hf, hargs, Deferred.ofValue, invoke]
    simp [this], hF w hG hm⟩) h⟩

theorem st_func {fn : Go.Fn} {fs cs : Array Operand} {vf vc : Array Value} (h1 : fs.map a.eval = vf) (h2 : cs.map a.eval = vc) (h : opsM P G R ops K rest (a.put d (.func fn vf vc)) m) :
    opsM P G R ops K (⟨d, .makeFunc fn fs cs, ty, pos, aft, none⟩ :: rest) a m :=
  st_quiet (v := .func fn vf vc) rfl rfl (fun w => by
    simp only [execOp, Instr.makeFunc, h1, h2]
    rfl) h

theorem st_call (hR : callOk R = true) {f : FuncId} {args : Array Operand} {tys : Array TypeId} {vs : Array Value} {v : Value} (hargs : args.map a.eval = vs) (he : enters P f = true) (hF : Fn P G f vs v)
    (h : opsM P G R ops K rest (a.put d v) m) : opsM P G R ops K (⟨d, .call ⟨.value (.func f), args, tys⟩, ty, pos, aft, none⟩ :: rest) a m :=
  .inr ⟨rfl, core_call hR (v := v) (fun w hG _ => .inr ⟨f, vs, by
    have := enters_run (P := P) (vs := vs) he w
    have e1 : a.eval (.func f) = .func (.func f) #[] #[] := rfl
    simp only [execOp, resolve, e1, hargs, Deferred.ofValue, invoke]
    simp [this], hF w hG⟩) h⟩

/-- A call by a contract of the other kind; l0: what is written, lr: the other blocks. -/
theorem st_callX (hR : R.c = 5) {fo : Operand} {f : FuncId} {args : Array Operand} {tys : Array TypeId} {vs cap : Array Value} {g' l0 lr : Mem} {S : Value → Mem → Mem → Prop} (hf : a.eval fo = .func (.func f) #[] cap) (hargs : args.map a.eval = vs) (he : enters P f = true)
    (hF : Fx P g' l0 f (vs ++ cap) S) (hp : List.Perm m (l0 ++ lr)) (hS : ∃ v l1 nw, S v l1 nw ∧ FreshM m nw) (hi : ∀ v l1 nw, S v l1 nw → l1.map (·.b) = l0.map (·.b)) (hg : ∀ w, MemR G w → MemIn m w → MemR g' w) (hn : (l0.map (·.b)).Nodup) (hgl : (∀ x ∈ G, ∀ y ∈ m, x.b ≠ y.b) → ∀ x ∈ g', x.b ∉ l0.map (·.b))
    (h : ∀ v l1 nw, S v l1 nw → FreshM m nw → opsM P G R ops K rest (a.put d v) (l1 ++ lr ++ nw)) : opsM P G R ops K (⟨d, .call ⟨.value fo, args, tys⟩, ty, pos, aft, none⟩ :: rest) a m :=
  .inr ⟨rfl, by show coreM _ _ _ _ _ _ _ R.c; rw [hR]; exact ⟨l0, lr, S, hp, hS, hi, fun w hG hm hA => .inr ⟨f, vs ++ cap, by
    have := enters_run (P := P) (vs := vs ++ cap) he w
    simp only [execOp, resolve, hf, hargs, Deferred.ofValue, invoke]
    simp [this], hF w (hg w hG hm) (fun x hx => hm x (hp.mem_iff.2 (by simp [hx]))) hn (hgl hA)⟩, h⟩⟩
/-- The same, where nothing is written. -/
theorem st_callM (hR : R.c = 4) {fo : Operand} {f : FuncId} {args : Array Operand} {tys : Array TypeId} {vs cap : Array Value} {g' : Mem} {S : Value → Mem → Prop} (hf : a.eval fo = .func (.func f) #[] cap) (hargs : args.map a.eval = vs) (he : enters P f = true)
    (hF : Fx P g' [] f (vs ++ cap) (fun v l1 nw => l1 = [] ∧ S v nw)) (hS : ∃ v nw, S v nw ∧ FreshM m nw) (hg : ∀ w, MemR G w → vis R m w → MemR g' w)
    (h : ∀ v nw, S v nw → FreshM m nw → opsM P G R ops K rest (a.put d v) (m ++ nw)) : opsM P G R ops K (⟨d, .call ⟨.value fo, args, tys⟩, ty, pos, aft, none⟩ :: rest) a m :=
  .inr ⟨rfl, by show coreM _ _ _ _ _ _ _ R.c; rw [hR]; exact ⟨S, hS, fun w hG hm => .inr ⟨f, vs ++ cap, by
    have := enters_run (P := P) (vs := vs ++ cap) he w
    simp only [execOp, resolve, hf, hargs, Deferred.ofValue, invoke]
    simp [this], hF w (hg w hG hm) (by simp [MemIn]) (by simp) (by simp)⟩, h⟩⟩

end
end Go.Proofs.Ytmnmhmpklknleaa
