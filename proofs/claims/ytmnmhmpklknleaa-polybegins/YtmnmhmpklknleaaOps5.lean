/-
  More operations: words of 32 bits; strings; len, min, copy; makes; slices that are read.
-/
import Derived.Test.YtmnmhmpklknleaaOps4
import Derived.Laws.MakeOwn
import Derived.Laws.AppendOwn
import Derived.Laws.Concat
import Derived.Laws.Strings
namespace Go.Proofs.Ytmnmhmpklknleaa
open Go Go.RowKit
variable {P : Program} {G : Mem} {R : Reg} {ops : Array Oper} {K : Act → Mem → Prop} {rest : List Oper} {a : Act} {m : Mem} {d : Option Tmp} {ty : TypeId} {pos : String} {aft : Array Edge}
variable {T T' : TypeId} {x y : Operand}

abbrev uw (p : Nat) : Value := .int .u32 (p : Int)
theorem wrap_u32 (z : Int) : IntKind.u32.wrap z = z % 4294967296 := by
  simp [IntKind.wrap, IntKind.signed, IntKind.bits]
theorem bits_and32 (p q : Nat) : IntKind.u32.wrap ((BitVec.ofNat 32 p &&& BitVec.ofNat 32 q).toNat : Int) = ((p &&& q : Nat) : Int) % 4294967296 := by
  rw [wrap_u32]
  rw [BitVec.toNat_and, BitVec.toNat_ofNat, BitVec.toNat_ofNat, ← Nat.and_mod_two_pow]
  omega
theorem bits_or32 (p q : Nat) : IntKind.u32.wrap ((BitVec.ofNat 32 p ||| BitVec.ofNat 32 q).toNat : Int) = ((p ||| q : Nat) : Int) % 4294967296 := by
  rw [wrap_u32]
  rw [BitVec.toNat_or, BitVec.toNat_ofNat, BitVec.toNat_ofNat, ← Nat.or_mod_two_pow]
  omega
theorem bits_xor32 (p q : Nat) : IntKind.u32.wrap ((BitVec.ofNat 32 p ^^^ BitVec.ofNat 32 q).toNat : Int) = ((p ^^^ q : Nat) : Int) % 4294967296 := by
  rw [wrap_u32]
  rw [BitVec.toNat_xor, BitVec.toNat_ofNat, BitVec.toNat_ofNat, ← Nat.xor_mod_two_pow]
  omega
theorem st_add_w {p q : Nat} (hx : a.eval x = uw p) (hy : a.eval y = uw q) (h : opsM P G R ops K rest (a.put d (uw ((p + q) % 4294967296))) m) :
    opsM P G R ops K (⟨d, .binOp .add T x y T', ty, pos, aft, none⟩ :: rest) a m :=
  st_bin (fun w => by simp [hx, hy, eqGuard, binOp, Op.intArith, wrap_u32]) h
theorem st_sub_w {p q : Nat} (hx : a.eval x = uw p) (hy : a.eval y = uw q) (hq : q ≤ 4294967296) (h : opsM P G R ops K rest (a.put d (uw ((p + 4294967296 - q) % 4294967296))) m) :
    opsM P G R ops K (⟨d, .binOp .sub T x y T', ty, pos, aft, none⟩ :: rest) a m :=
  st_bin (fun w => by simp [hx, hy, eqGuard, binOp, Op.intArith, wrap_u32]; omega) h
theorem st_and_w {p q : Nat} (hx : a.eval x = uw p) (hy : a.eval y = uw q) (h : opsM P G R ops K rest (a.put d (uw ((p &&& q) % 4294967296))) m) :
    opsM P G R ops K (⟨d, .binOp .and T x y T', ty, pos, aft, none⟩ :: rest) a m :=
  st_bin (fun w => by
    have := bits_and32 p q
    simp only [hx, hy, eqGuard, binOp, Op.intBits, IntKind.bits]
    simp
    exact this) h
theorem st_or_w {p q : Nat} (hx : a.eval x = uw p) (hy : a.eval y = uw q) (h : opsM P G R ops K rest (a.put d (uw ((p ||| q) % 4294967296))) m) :
    opsM P G R ops K (⟨d, .binOp .or T x y T', ty, pos, aft, none⟩ :: rest) a m :=
  st_bin (fun w => by
    have := bits_or32 p q
    simp only [hx, hy, eqGuard, binOp, Op.intBits, IntKind.bits]
    simp
    exact this) h
theorem st_xor_w {p q : Nat} (hx : a.eval x = uw p) (hy : a.eval y = uw q) (h : opsM P G R ops K rest (a.put d (uw ((p ^^^ q) % 4294967296))) m) :
    opsM P G R ops K (⟨d, .binOp .xor T x y T', ty, pos, aft, none⟩ :: rest) a m :=
  st_bin (fun w => by
    have := bits_xor32 p q
    simp only [hx, hy, eqGuard, binOp, Op.intBits, IntKind.bits]
    simp
    exact this) h
theorem st_shl_w {k' : IntKind} {p s : Nat} (hx : a.eval x = uw p) (hy : a.eval y = .int k' (s : Int)) (hs : s ≤ 32) (h : opsM P G R ops K rest (a.put d (uw ((p * 2 ^ s) % 4294967296))) m) :
    opsM P G R ops K (⟨d, .binOp .shl T x y T', ty, pos, aft, none⟩ :: rest) a m :=
  st_bin (fun w => by
    have h0 : ¬ ((s : Int) < 0) := by omega
    have h1 : min ((s : Int).toNat) (IntKind.u32.bits) = s := by simp [IntKind.bits]; omega
    simp only [hx, hy, eqGuard, binOp, Op.shift, h0, if_false, h1, wrap_u32]
    simp) h
theorem st_shr_w {k' : IntKind} {p s : Nat} (hx : a.eval x = uw p) (hy : a.eval y = .int k' (s : Int)) (hs : s ≤ 32) (h : opsM P G R ops K rest (a.put d (uw (p / 2 ^ s))) m) :
    opsM P G R ops K (⟨d, .binOp .shr T x y T', ty, pos, aft, none⟩ :: rest) a m :=
  st_bin (fun w => by
    have h0 : ¬ ((s : Int) < 0) := by omega
    have h1 : min ((s : Int).toNat) (IntKind.u32.bits) = s := by simp [IntKind.bits]; omega
    simp only [hx, hy, eqGuard, binOp, Op.shift, h0, if_false, h1]
    have e : (p : Int).fdiv (2 ^ s) = ((p / 2 ^ s : Nat) : Int) := by
      rw [Int.fdiv_eq_ediv_of_nonneg _ (by exact Int.le_of_lt (Int.pow_pos (by decide)))]
      simp
    simp [e]) h
theorem st_conv_w {k : IntKind} {dk : TypeDesc} {p : Nat} (hv : kconv R T T' = 1) (hs : P.underlying T = some dk) (ht : P.underlying T' = some (.int .u32)) (hx : a.eval x = .int k (p : Int))
    (h : opsM P G R ops K rest (a.put d (uw (p % 4294967296))) m) : opsM P G R ops K (⟨d, .convert T T' x, ty, pos, aft, none⟩ :: rest) a m :=
  st_conv hv (v := uw (p % 4294967296)) (fun w _ _ => by
    simp only [execOp, convert, underlying, program, hx]
    simp [Sem.run, hs, ht, Conv.intToInt, wrap_u32]) h
theorem st_conv_i {k : IntKind} {dk : TypeDesc} {p : Nat} (hv : kconv R T T' = 1) (hs : P.underlying T = some dk) (ht : P.underlying T' = some (.int .i64)) (hx : a.eval x = .int k (p : Int)) (hp : p < 9223372036854775808)
    (h : opsM P G R ops K rest (a.put d (ii p)) m) : opsM P G R ops K (⟨d, .convert T T' x, ty, pos, aft, none⟩ :: rest) a m :=
  st_conv hv (v := ii p) (fun w _ _ => by
    have := wrap_i64 (z := (p : Int)) (by omega) (by omega)
    simp only [execOp, convert, underlying, program, hx]
    simp [Sem.run, hs, ht, Conv.intToInt, this]) h
theorem st_conv_u8z {k : IntKind} {dk : TypeDesc} {z : Int} (hv : kconv R T T' = 1) (hs : P.underlying T = some dk) (ht : P.underlying T' = some (.int .u8)) (hx : a.eval x = .int k z)
    (h : opsM P G R ops K rest (a.put d (by8 (z % 256).toNat)) m) : opsM P G R ops K (⟨d, .convert T T' x, ty, pos, aft, none⟩ :: rest) a m :=
  st_conv hv (v := by8 (z % 256).toNat) (fun w _ _ => by
    have e : (((z % 256).toNat : Nat) : Int) = z % 256 := by omega
    simp only [execOp, convert, underlying, program, hx]
    simp [Sem.run, hs, ht, Conv.intToInt, wrap_u8, e]) h

/-! ### Strings, by lists of bytes -/
def bstr (l : List Nat) : ByteArray := ⟨(l.map UInt8.ofNat).toArray⟩
abbrev sv (l : List Nat) : Value := .string (bstr l)
theorem bstr_size (l : List Nat) : (bstr l).size = l.length := by simp [bstr, ByteArray.size]
theorem bstr_app (l k : List Nat) : bstr l ++ bstr k = bstr (l ++ k) := by
  apply ByteArray.ext
  simp [bstr, ByteArray.data_append]
theorem str_nums (l : List Nat) : strOfNums (l.map fun n : Nat => (n : Int)) = bstr l := by
  unfold strOfNums bstr
  rw [List.map_map]
  have : l.map ((fun n : Int => UInt8.ofNat n.toNat) ∘ fun n : Nat => (n : Int)) = l.map UInt8.ofNat := List.map_congr_left fun n _ => rfl
  rw [this]
theorem st_catS {l k : List Nat} (hx : a.eval x = sv l) (hy : a.eval y = sv k) (hl : l.length + k.length ≤ 9223372036854775807) (h : opsM P G R ops K rest (a.put d (sv (l ++ k))) m) :
    opsM P G R ops K (⟨d, .binOp .add T x y T', ty, pos, aft, none⟩ :: rest) a m :=
  st_bin (fun w => by
    have := run_string_add_sum (P := P) (w := w) (bstr l) (bstr k) (by rw [bstr_size, bstr_size]; exact hl)
    rw [hx, hy]
    simp only [Sem.run_bind, eqGuard, binOp]
    rw [bstr_app] at this
    simp [this]) h
theorem bstr_cut (l : List Nat) (i j : Nat) : (bstr l).extract i j = bstr ((l.drop i).take (j - i)) := by
  apply ByteArray.ext
  rw [ByteArray.data_extract]
  unfold bstr
  simp only
  apply Array.ext'
  simp [List.map_drop, List.map_take, List.extract_eq_take_drop]
/-- A part of a string. -/
theorem st_sliceStr {l : List Nat} {i j : Nat} {lo hi : Option Operand} (hT : P.underlying T = some .string) (hx : a.eval x = sv l) (hl : isB (lo.map a.eval) i 0) (hh : isB (hi.map a.eval) j l.length) (h1 : i ≤ j) (h2 : j ≤ l.length)
    (hK : opsM P G R ops K rest (a.put d (sv ((l.drop i).take (j - i)))) m) : opsM P G R ops K (⟨d, .slice T x lo hi none, ty, pos, aft, none⟩ :: rest) a m :=
  st_quiet (v := sv ((l.drop i).take (j - i))) rfl rfl (fun w => by
    have hb := run_bounds (P := P) (isS := false) (len := (bstr l).size) (cap := (bstr l).size) hl (by rw [bstr_size]; exact hh) h1 (by rw [bstr_size]; exact h2) w
    simp only [execOp, Instr.sliceAt, Instr.slice, hx, Option.map_none]
    simp [run_underlying hT, hb, bstr_cut]) hK
/-- A byte of a string. -/
theorem st_idxStr {l : List Nat} {j b : Nat} {k : IntKind} (hT : P.underlying T = some .string) (hx : a.eval x = sv l) (hy : a.eval y = .int k (j : Int)) (hj : l[j]? = some b) (hb : b < 256)
    (h : opsM P G R ops K rest (a.put d (by8 b)) m) : opsM P G R ops K (⟨d, .index T x y, ty, pos, aft, none⟩ :: rest) a m :=
  st_quiet (v := by8 b) rfl rfl (fun w => by
    have hlt : j < l.length := (List.getElem?_eq_some_iff.1 hj).1
    have hg : l[j] = b := (List.getElem?_eq_some_iff.1 hj).2
    have hsz : j < (bstr l).size := by rw [bstr_size]; exact hlt
    have h0 : (0 : Int) ≤ j ∧ (j : Int) < ((bstr l).size : Nat) := by omega
    have hb2 : ((bstr l)[j]'hsz).toNat = b := by
      show ((bstr l).data[j]).toNat = b
      simp [bstr, hg]
      omega
    have hb3 : (bstr l)[j]? = some ((bstr l)[j]'hsz) := getElem?_pos (bstr l) j hsz
    simp only [execOp, Instr.index, hx, hy, asIntOf, underlying, program]
    simp [Sem.run, hT, hb3, hb2]) h
theorem st_eqStr {l k : List Nat} (hl : ∀ b ∈ l, b < 256) (hk : ∀ b ∈ k, b < 256) (hx : a.eval x = sv l) (hy : a.eval y = sv k) (h : opsM P G R ops K rest (a.put d (.bool (decide (l = k)))) m) :
    opsM P G R ops K (⟨d, .binOp .eql T x y T', ty, pos, aft, none⟩ :: rest) a m :=
  st_eqS hx hy (by
    have key : ((bstr l).toList == (bstr k).toList) = decide (l = k) := by
      have e : ∀ r : List Nat, (bstr r).toList = r.map UInt8.ofNat := fun r => by
        rw [ByteArray.toList_eq]
        simp [bstr]
      rw [e, e]
      by_cases hlk : l = k
      · subst hlk; simp
      · have : l.map UInt8.ofNat ≠ k.map UInt8.ofNat := fun he => hlk (by
          have e2 := congrArg (List.map UInt8.toNat) he
          rw [List.map_map, List.map_map] at e2
          have f : ∀ r : List Nat, (∀ b ∈ r, b < 256) → r.map (UInt8.toNat ∘ UInt8.ofNat) = r := fun r hr => by
            conv => rhs; rw [← List.map_id r]
            exact List.map_congr_left fun b hb => by
              have := hr b hb
              simp
              omega
          rw [f l hl, f k hk] at e2
          exact e2)
        simp [hlk, this]
    rw [key]; exact h)

end Go.Proofs.Ytmnmhmpklknleaa
