import Derived.Test.YtmnmhmpklknleaaK1
import Derived.Laws.BytesArg
import Derived.Laws.MakeOwn
import Derived.Laws.AppendOwn
import Derived.Laws.Concat
import Derived.Laws.Strings
import Derived.Laws.CopyRow

/-
  More operations: bytes; exclusive or; arrays of arrays.
-/
namespace Go.Proofs.Ytmnmhmpklknleaa
open Go Go.RowKit
variable {P : Program} {G : Mem} {R : Reg} {ops : Array Oper} {K : Act → Mem → Prop} {rest : List Oper} {a : Act} {m : Mem} {d : Option Tmp} {ty : TypeId} {pos : String} {aft : Array Edge}
variable {T T' : TypeId} {x y : Operand}

theorem bits_xor (p q : Nat) : IntKind.u64.wrap ((BitVec.ofNat 64 p ^^^ BitVec.ofNat 64 q).toNat : Int) = ((p ^^^ q : Nat) : Int) % 18446744073709551616 := by
  rw [wrap_u64]
  rw [BitVec.toNat_xor, BitVec.toNat_ofNat, BitVec.toNat_ofNat, ← Nat.xor_mod_two_pow]
  omega
theorem st_xor_u {p q : Nat} (hx : a.eval x = u p) (hy : a.eval y = u q) (h : opsM P G R ops K rest (a.put d (u ((p ^^^ q) % 18446744073709551616))) m) :
    opsM P G R ops K (⟨d, .binOp .xor T x y T', ty, pos, aft, none⟩ :: rest) a m :=
  st_bin (fun w => by
    have := bits_xor p q
    simp only [hx, hy, eqGuard, binOp, Op.intBits, IntKind.bits]
    simp
    exact this) h
theorem bits_and8 (p q : Nat) : IntKind.u8.wrap ((BitVec.ofNat 8 p &&& BitVec.ofNat 8 q).toNat : Int) = ((p &&& q : Nat) : Int) % 256 := by
  rw [wrap_u8]
  rw [BitVec.toNat_and, BitVec.toNat_ofNat, BitVec.toNat_ofNat, ← Nat.and_mod_two_pow]
  omega
theorem bits_or8 (p q : Nat) : IntKind.u8.wrap ((BitVec.ofNat 8 p ||| BitVec.ofNat 8 q).toNat : Int) = ((p ||| q : Nat) : Int) % 256 := by
  rw [wrap_u8]
  rw [BitVec.toNat_or, BitVec.toNat_ofNat, BitVec.toNat_ofNat, ← Nat.or_mod_two_pow]
  omega
theorem bits_xor8 (p q : Nat) : IntKind.u8.wrap ((BitVec.ofNat 8 p ^^^ BitVec.ofNat 8 q).toNat : Int) = ((p ^^^ q : Nat) : Int) % 256 := by
  rw [wrap_u8]
  rw [BitVec.toNat_xor, BitVec.toNat_ofNat, BitVec.toNat_ofNat, ← Nat.xor_mod_two_pow]
  omega
theorem st_and_b {p q : Nat} (hx : a.eval x = by8 p) (hy : a.eval y = by8 q) (h : opsM P G R ops K rest (a.put d (by8 ((p &&& q) % 256))) m) :
    opsM P G R ops K (⟨d, .binOp .and T x y T', ty, pos, aft, none⟩ :: rest) a m :=
  st_bin (fun w => by
    have := bits_and8 p q
    simp only [hx, hy, eqGuard, binOp, Op.intBits, IntKind.bits]
    simp
    exact this) h
theorem st_or_b {p q : Nat} (hx : a.eval x = by8 p) (hy : a.eval y = by8 q) (h : opsM P G R ops K rest (a.put d (by8 ((p ||| q) % 256))) m) :
    opsM P G R ops K (⟨d, .binOp .or T x y T', ty, pos, aft, none⟩ :: rest) a m :=
  st_bin (fun w => by
    have := bits_or8 p q
    simp only [hx, hy, eqGuard, binOp, Op.intBits, IntKind.bits]
    simp
    exact this) h
theorem st_xor_b {p q : Nat} (hx : a.eval x = by8 p) (hy : a.eval y = by8 q) (h : opsM P G R ops K rest (a.put d (by8 ((p ^^^ q) % 256))) m) :
    opsM P G R ops K (⟨d, .binOp .xor T x y T', ty, pos, aft, none⟩ :: rest) a m :=
  st_bin (fun w => by
    have := bits_xor8 p q
    simp only [hx, hy, eqGuard, binOp, Op.intBits, IntKind.bits]
    simp
    exact this) h
theorem st_add_b {p q : Nat} (hx : a.eval x = by8 p) (hy : a.eval y = by8 q) (h : opsM P G R ops K rest (a.put d (by8 ((p + q) % 256))) m) :
    opsM P G R ops K (⟨d, .binOp .add T x y T', ty, pos, aft, none⟩ :: rest) a m :=
  st_bin (fun w => by simp [hx, hy, eqGuard, binOp, Op.intArith, wrap_u8]) h
theorem st_sub_b {p q : Nat} (hx : a.eval x = by8 p) (hy : a.eval y = by8 q) (hq : q ≤ 256) (h : opsM P G R ops K rest (a.put d (by8 ((p + 256 - q) % 256))) m) :
    opsM P G R ops K (⟨d, .binOp .sub T x y T', ty, pos, aft, none⟩ :: rest) a m :=
  st_bin (fun w => by simp [hx, hy, eqGuard, binOp, Op.intArith, wrap_u8]; omega) h
theorem st_rem_b {p q : Nat} (hx : a.eval x = by8 p) (hy : a.eval y = by8 q) (hq : 0 < q) (h : opsM P G R ops K rest (a.put d (by8 (p % q))) m) :
    opsM P G R ops K (⟨d, .binOp .rem T x y T', ty, pos, aft, none⟩ :: rest) a m :=
  st_bin (fun w => by
    have h0 : ¬ ((q : Int) = 0) := by omega
    have e : ((p : Int).tmod (q : Int)) = ((p % q : Nat) : Int) := by
      rw [Int.tmod_eq_emod_of_nonneg (by omega)]; simp
    simp only [hx, hy, eqGuard, binOp, Op.intDiv, h0, if_false, e]
    simp) h
theorem st_shr_b {k' : IntKind} {p s : Nat} (hx : a.eval x = by8 p) (hy : a.eval y = .int k' (s : Int)) (hs : s ≤ 8) (h : opsM P G R ops K rest (a.put d (by8 (p / 2 ^ s))) m) :
    opsM P G R ops K (⟨d, .binOp .shr T x y T', ty, pos, aft, none⟩ :: rest) a m :=
  st_bin (fun w => by
    have h0 : ¬ ((s : Int) < 0) := by omega
    have h1 : min ((s : Int).toNat) (IntKind.u8.bits) = s := by simp [IntKind.bits]; omega
    simp only [hx, hy, eqGuard, binOp, Op.shift, h0, if_false, h1]
    have e : (p : Int).fdiv (2 ^ s) = ((p / 2 ^ s : Nat) : Int) := by
      rw [Int.fdiv_eq_ediv_of_nonneg _ (by exact Int.le_of_lt (Int.pow_pos (by decide)))]
      simp
    simp [e]) h

/-! ### Arrays of arrays: an element has z cells -/
theorem st_indexZ {b o j n z : Nat} {k : IntKind} {e : TypeId} (hT : P.underlying T = some (.array n e)) (hs : (P.info? e).map (·.size) = some (z + 1)) (hx : a.eval x = .pointer (some ⟨b, o, none⟩)) (hy : a.eval y = .int k (j : Int)) (hj : j < n)
    (h : opsM P G R ops K rest (a.put d (.pointer (some ⟨b, o + j * (z + 1), none⟩))) m) : opsM P G R ops K (⟨d, .indexAddr T x y, ty, pos, aft, none⟩ :: rest) a m :=
  st_quiet (v := .pointer (some ⟨b, o + j * (z + 1), none⟩)) rfl rfl (fun w => by
    cases hi : P.info? e with
    | none => simp [hi] at hs
    | some i =>
      have hsz : i.size = z + 1 := by simpa [hi] using hs
      have h0 : (0 : Int) ≤ j ∧ (j : Int) < n := by omega
      simp only [execOp, Instr.indexAt, hx, hy, asIntOf, underlying, program, sizeOf, typeInfo, Instr.sureAddr]
      simp [Sem.run, hT, hi, hsz, h0, add_off, hj]) h
theorem st_idxZ {j n z : Nat} {k2 : IntKind} {e : TypeId} {td : TypeDesc} {c : Array Value} (hT : P.underlying T = some (.array n e)) (he : P.underlying e = some td) (hn : rowLike td = true) (hs : (P.info? e).map (·.size) = some z) (hx : a.eval x = .agg c) (hy : a.eval y = .int k2 (j : Int)) (hj : j < n)
    (h : opsM P G R ops K rest (a.put d (.agg (c.extract (j * z) (j * z + z)))) m) : opsM P G R ops K (⟨d, .index T x y, ty, pos, aft, none⟩ :: rest) a m :=
  st_quiet (v := .agg (c.extract (j * z) (j * z + z))) rfl rfl (fun w => by
    cases hi : P.info? e with
    | none => simp [hi] at hs
    | some i =>
      have hsz : i.size = z := by simpa [hi] using hs
      have h0 : (0 : Int) ≤ j ∧ (j : Int) < n := by omega
      have hp : (part e c (j * z)).run P w = .ok (.agg (c.extract (j * z) (j * z + z))) w := by
        unfold part
        simp [run_isAgg he, hn, sizeOf, typeInfo, hi, hsz]
      simp only [execOp, Instr.index, hx, hy, asIntOf, underlying, program, sizeOf, typeInfo]
      simp [Sem.run, hT, hi, hsz, hj, hp]) h
theorem st_buildZ {zv : Value} {l z : Nat} {e : TypeId} {parts : Array (Nat × Operand)} {pv : List (Nat × Value)} {c : Array Value} (hz : (P.info? T).bind (·.zero) = some zv) (hT : P.underlying T = some (.array l e)) (hs : (P.info? e).map (·.size) = some z)
    (hp : parts.toList.map (fun p => (p.1, a.eval p.2)) = pv) (hf : Instr.fill (fun i => some (i * z, z)) zv.cells pv = some c)
    (h : opsM P G R ops K rest (a.put d (.agg c)) m) : opsM P G R ops K (⟨d, .build T parts, ty, pos, aft, none⟩ :: rest) a m :=
  st_quiet (v := .agg c) rfl rfl (fun w => by
    cases hi : P.info? T with
    | none => simp [hi] at hz
    | some i =>
      have hz' : i.zero = some zv := by simpa [hi] using hz
      cases he : P.info? e with
      | none => simp [he] at hs
      | some j =>
        have hsz : j.size = z := by simpa [he] using hs
        have hp' : (parts.map fun (i, x) => (i, a.eval x)).toList = pv := by rw [← hp]; simp
        simp only [execOp, Instr.build, zeroValue, typeInfo, underlying, program, sizeOf]
        simp only [hp']
        simp only [Sem.run_bind, Sem.run, Sem.run_pure, Result.andThen_ok, hi, hz', hT, he, hsz, hf]) h

/-! ### Where a struct's fields lie -/
theorem places_run {fs : Array Field} {l : List (Nat × Nat)} (h : (fs.toList.mapM fun f => (P.info? f.type).map fun i => (f.offset, i.size)) = some l) (w : World) :
    ((fs.mapM fun f => do pure (f.offset, ← sizeOf f.type) : Sem (Array (Nat × Nat)))).run P w = .ok l.toArray w := by
  have key : ∀ (fs : List Field) (l : List (Nat × Nat)), (fs.mapM fun f => (P.info? f.type).map fun i => (f.offset, i.size)) = some l →
      ((fs.mapM fun f => do pure (f.offset, ← sizeOf f.type) : Sem (List (Nat × Nat)))).run P w = .ok l w := by
    intro fs
    induction fs with
    | nil => intro l h; simp at h; subst h; rfl
    | cons f fs ih =>
      intro l h
      rw [List.mapM_cons] at h ⊢
      cases hi : P.info? f.type with
      | none => simp [hi] at h
      | some i =>
        cases hr : (fs.mapM fun f => (P.info? f.type).map fun i => (f.offset, i.size)) with
        | none => rw [hi, hr] at h; simp at h
        | some r =>
          rw [hi, hr] at h
          simp at h
          subst h
          have := ih r hr
          have h1 : (do pure (f.offset, ← sizeOf f.type) : Sem (Nat × Nat)).run P w = .ok (f.offset, i.size) w := by simp [sizeOf, typeInfo, hi]
          rw [Sem.run_bind, h1, Result.andThen_ok, Sem.run_bind, this]
          rfl
  rw [Array.mapM_eq_mapM_toList]
  have := key fs.toList l h
  rw [map_eq_pure_bind, Sem.run_bind, this]
  rfl

end Go.Proofs.Ytmnmhmpklknleaa

/-
  More operations: slices, strings, Go's int below 0.
-/
namespace Go.Proofs.Ytmnmhmpklknleaa
open Go Go.RowKit
variable {P : Program} {G : Mem} {R : Reg} {ops : Array Oper} {K : Act → Mem → Prop} {rest : List Oper} {a : Act} {m : Mem} {d : Option Tmp} {ty : TypeId} {pos : String} {aft : Array Edge}
variable {T T' : TypeId} {x y : Operand}

theorem st_rem_z {p q : Int} (hx : a.eval x = .int .i64 p) (hy : a.eval y = .int .i64 q) (hq : q ≠ 0) (h : opsM P G R ops K rest (a.put d (.int .i64 (p.tmod q))) m) :
    opsM P G R ops K (⟨d, .binOp .rem T x y T', ty, pos, aft, none⟩ :: rest) a m :=
  st_bin (fun w => by
    simp only [hx, hy, eqGuard, binOp, Op.intDiv, hq, if_false]
    simp) h
theorem st_add_z {p q : Int} (hx : a.eval x = .int .i64 p) (hy : a.eval y = .int .i64 q) (h0 : -9223372036854775808 ≤ p + q) (h1 : p + q < 9223372036854775808) (h : opsM P G R ops K rest (a.put d (.int .i64 (p + q))) m) :
    opsM P G R ops K (⟨d, .binOp .add T x y T', ty, pos, aft, none⟩ :: rest) a m :=
  st_bin (fun w => by simp [hx, hy, eqGuard, binOp, Op.intArith, wrap_i64 h0 h1]) h

theorem st_mul_z {p q : Int} (hx : a.eval x = .int .i64 p) (hy : a.eval y = .int .i64 q) (h0 : -9223372036854775808 ≤ p * q) (h1 : p * q < 9223372036854775808) (h : opsM P G R ops K rest (a.put d (.int .i64 (p * q))) m) :
    opsM P G R ops K (⟨d, .binOp .mul T x y T', ty, pos, aft, none⟩ :: rest) a m :=
  st_bin (fun w => by simp [hx, hy, eqGuard, binOp, Op.intArith, wrap_i64 h0 h1]) h

/-- A slice of given parts. -/
theorem st_buildSl {zv : Value} {len z : Nat} {e : TypeId} {parts : Array (Nat × Operand)} {pv : List (Nat × Value)} {c : Array Value} (hT : P.underlying T = some (.slice e)) (hs : (P.info? e).map (·.size) = some z) (hz : (P.info? e).bind (·.zero) = some zv)
    (h0 : len * z ≠ 0) (h1 : len * z ≤ 16777216) (hp : parts.toList.map (fun p => (p.1, a.eval p.2)) = pv) (hf : Instr.fill (fun i => some (i * z, z)) ((Array.range (len * z)).map (zv.cells[· % zv.cells.size]!)) pv = some c)
    (h : ∀ r, (∀ x ∈ m, x.b ≠ r) → opsM P G R ops K rest (a.put d (.slice (some ⟨r, 0, none⟩) len len)) (m ++ [⟨r, c, e⟩])) : opsM P G R ops K (⟨d, .buildSlice T len parts, ty, pos, aft, none⟩ :: rest) a m :=
  .inr ⟨rfl, c, e, fun r => .slice (some ⟨r, 0, none⟩) len len, fun w => by
    cases hi : P.info? e with
    | none => simp [hi] at hz
    | some j =>
      have hz' : j.zero = some zv := by simpa [hi] using hz
      have hsz : j.size = z := by simpa [hi] using hs
      have hp' : (parts.map fun (i, x) => (i, a.eval x)).toList = pv := by rw [← hp]; simp
      have h2 : ¬ len * z > 2 ^ 24 := by omega
      simp only [execOp, Instr.buildSlice, zeroValue, typeInfo, underlying, program, sizeOf, newRow, newObj]
      simp only [hp']
      simp [Sem.run, hT, hi, hz', hsz, h0, h2, hf], h⟩

/-- The place of an element of a slice. -/
theorem st_indexSl {b o j len cap z : Nat} {k : IntKind} {e : TypeId} (hT : P.underlying T = some (.slice e)) (hs : (P.info? e).map (·.size) = some (z + 1)) (hx : a.eval x = .slice (some ⟨b, o, none⟩) len cap) (hy : a.eval y = .int k (j : Int)) (hj : j < len)
    (h : opsM P G R ops K rest (a.put d (.pointer (some ⟨b, o + j * (z + 1), none⟩))) m) : opsM P G R ops K (⟨d, .indexAddr T x y, ty, pos, aft, none⟩ :: rest) a m :=
  st_quiet (v := .pointer (some ⟨b, o + j * (z + 1), none⟩)) rfl rfl (fun w => by
    cases hi : P.info? e with
    | none => simp [hi] at hs
    | some i =>
      have hsz : i.size = z + 1 := by simpa [hi] using hs
      have h0 : (0 : Int) ≤ j ∧ (j : Int) < len := by omega
      simp only [execOp, Instr.indexAt, hx, hy, asIntOf, underlying, program, sizeOf, typeInfo]
      simp [Sem.run, hT, hi, hsz, add_off, hj]) h

/-- A bound that is told, or not. -/
def isB : Option Value → Nat → Nat → Prop
  | none, l, dflt => l = dflt
  | some v, l, _ => ∃ k, v = .int k (l : Int)
theorem run_bounds {isS : Bool} {len cap l h : Nat} {lo hi : Option Value} (hl : isB lo l 0) (hh : isB hi h len) (h1 : l ≤ h) (h2 : h ≤ cap) (w : World) : (Instr.sliceBounds isS len cap lo hi none).run P w = .ok (l, h, cap) w := by
  have hb : ∀ (k : IntKind) (n y : Nat) (code : BoundsCode), n ≤ y → (Instr.sliceBound (.int k (n : Int)) y code).run P w = .ok n w := fun k n y code hn => by
    have h0 : (0 : Int) ≤ n ∧ (n : Int) ≤ y := by omega
    simp [Instr.sliceBound, asIntOf, hn]
  unfold Instr.sliceBounds
  cases lo with
  | none =>
    cases hi with
    | none => simp only [isB] at hl hh; subst hl hh; simp
    | some v => obtain ⟨k, rfl⟩ := hh; simp only [isB] at hl; subst hl; simp [hb k h cap _ h2]
  | some u =>
    obtain ⟨k', rfl⟩ := hl
    cases hi with
    | none => simp only [isB] at hh; subst hh; simp [hb k' l _ _ h1]
    | some v => obtain ⟨k, rfl⟩ := hh; simp [hb k h cap _ h2, hb k' l _ _ h1]
/-- A slice of an array. -/
theorem st_sliceA {b o N l h z : Nat} {e : TypeId} {lo hi : Option Operand} (hT : P.underlying T = some (.array N e)) (hs : (P.info? e).map (·.size) = some z) (hx : a.eval x = .pointer (some ⟨b, o, none⟩)) (hl : isB (lo.map a.eval) l 0) (hh : isB (hi.map a.eval) h N) (h1 : l ≤ h) (h2 : h ≤ N) (h3 : l < N)
    (hK : opsM P G R ops K rest (a.put d (.slice (some ⟨b, o + l * z, none⟩) (h - l) (N - l))) m) : opsM P G R ops K (⟨d, .slice T x lo hi none, ty, pos, aft, none⟩ :: rest) a m :=
  st_quiet (v := .slice (some ⟨b, o + l * z, none⟩) (h - l) (N - l)) rfl rfl (fun w => by
    cases hi' : P.info? e with
    | none => simp [hi'] at hs
    | some i =>
      have hsz : i.size = z := by simpa [hi'] using hs
      have hb := run_bounds (P := P) (isS := false) hl hh h1 h2 w
      have hne : ¬ N = l := by omega
      simp only [execOp, Instr.sliceAt, hx, underlying, program, sizeOf, typeInfo, Instr.sureAddr, Option.map_none]
      simp only [Sem.run_bind, Sem.run, Sem.run_pure, Result.andThen_ok, hT, hb, hi', hsz, hne, if_false, add_off]) hK
/-- A slice of a slice. -/
theorem st_sliceS {b o len cap l h z : Nat} {e : TypeId} {lo hi : Option Operand} (hT : P.underlying T = some (.slice e)) (hs : (P.info? e).map (·.size) = some z) (hx : a.eval x = .slice (some ⟨b, o, none⟩) len cap) (hl : isB (lo.map a.eval) l 0) (hh : isB (hi.map a.eval) h len) (h1 : l ≤ h) (h2 : h ≤ cap)
    (hK : opsM P G R ops K rest (a.put d (.slice (some (if cap = l then ⟨b, o, none⟩ else ⟨b, o + l * z, none⟩)) (h - l) (cap - l))) m) : opsM P G R ops K (⟨d, .slice T x lo hi none, ty, pos, aft, none⟩ :: rest) a m :=
  st_quiet (v := .slice (some (if cap = l then ⟨b, o, none⟩ else ⟨b, o + l * z, none⟩)) (h - l) (cap - l)) rfl rfl (fun w => by
    cases hi' : P.info? e with
    | none => simp [hi'] at hs
    | some i =>
      have hsz : i.size = z := by simpa [hi'] using hs
      have hb := run_bounds (P := P) (isS := true) hl hh h1 h2 w
      simp only [execOp, Instr.sliceAt, Instr.slice, hx, underlying, program, sizeOf, typeInfo, Option.map_none]
      simp only [Sem.run_bind, Sem.run, Sem.run_pure, Result.andThen_ok, hT, hb, hi', hsz]
      by_cases hc : cap = l
      · simp [hc]
      · simp [hc, add_off]) hK

/-- Bytes become a string. -/
theorem st_conv_str {b o N len cap i : Nat} {e : TypeId} {f : Nat → Nat} {t : TypeId} (hv : kconv R T T' = 1) (hs : P.underlying T = some (.slice e)) (he : P.underlying e = some (.int .u8)) (ht : P.underlying T' = some .string) (hx : a.eval x = .slice (some ⟨b, o, none⟩) len cap)
    (hm : m[i]? = some ⟨b, arr .u8 N f, t⟩) (hX : b ∉ R.X) (ho : o + len ≤ N) (h : opsM P G R ops K rest (a.put d (.string (strOfNums ((List.range len).map fun j => (f (o + j) : Int))))) m) : opsM P G R ops K (⟨d, .convert T T' x, ty, pos, aft, none⟩ :: rest) a m :=
  st_conv hv (v := .string (strOfNums ((List.range len).map fun j => (f (o + j) : Int)))) (fun w _ hw => by
    have hin := hw _ (mem_of_get hm) hX
    have := run_convert_bytes_arg (P := P) w T e hs he b o len cap ((List.range len).map fun j => (f (o + j) : Int)) (by simp) (fun j hj => by
      have h1 : w.cell? ⟨b, o + j, none⟩ = (arr .u8 N f)[o + j]? := In.cell hin (o + j)
      rw [h1, arr_get (by omega)]
      simp [List.getD, hj]) T' ht
    simp only [execOp, hx]
    simp [this]) h
theorem st_eqS {p q : ByteArray} (hx : a.eval x = .string p) (hy : a.eval y = .string q) (h : opsM P G R ops K rest (a.put d (.bool (p.toList == q.toList))) m) :
    opsM P G R ops K (⟨d, .binOp .eql T x y T', ty, pos, aft, none⟩ :: rest) a m :=
  st_bin (fun w => by simp [hx, hy, eqGuard, binOp, Op.stringOp]) h

end Go.Proofs.Ytmnmhmpklknleaa

/-
  More operations: words of 32 bits; strings; len, min, copy; makes; slices that are read.
-/
namespace Go.Proofs.Ytmnmhmpklknleaa
open Go Go.RowKit
variable {P : Program} {G : Mem} {R : Reg} {ops : Array Oper} {K : Act → Mem → Prop} {rest : List Oper} {a : Act} {m : Mem} {d : Option Tmp} {ty : TypeId} {pos : String} {aft : Array Edge}
variable {T T' : TypeId} {x y : Operand}

abbrev uw (p : Nat) : Value := .int .u32 (p : Int)
theorem wrap_u32 (z : Int) : IntKind.u32.wrap z = z % 4294967296 := by
  simp [IntKind.wrap, IntKind.signed, IntKind.bits]
theorem bits_and32 (p q : Nat) : IntKind.u32.wrap ((BitVec.ofNat 32 p &&& BitVec.ofNat 32 q).toNat : Int) = ((p &&& q : Nat) : Int) % 4294967296 := by
  rw [wrap_u32]
  rw [BitVec.toNat_and, BitVec.toNat_ofNat, BitVec.toNat_ofNat, ← Nat.and_mod_two_pow]
  omega
theorem bits_or32 (p q : Nat) : IntKind.u32.wrap ((BitVec.ofNat 32 p ||| BitVec.ofNat 32 q).toNat : Int) = ((p ||| q : Nat) : Int) % 4294967296 := by
  rw [wrap_u32]
  rw [BitVec.toNat_or, BitVec.toNat_ofNat, BitVec.toNat_ofNat, ← Nat.or_mod_two_pow]
  omega
theorem bits_xor32 (p q : Nat) : IntKind.u32.wrap ((BitVec.ofNat 32 p ^^^ BitVec.ofNat 32 q).toNat : Int) = ((p ^^^ q : Nat) : Int) % 4294967296 := by
  rw [wrap_u32]
  rw [BitVec.toNat_xor, BitVec.toNat_ofNat, BitVec.toNat_ofNat, ← Nat.xor_mod_two_pow]
  omega
theorem st_add_w {p q : Nat} (hx : a.eval x = uw p) (hy : a.eval y = uw q) (h : opsM P G R ops K rest (a.put d (uw ((p + q) % 4294967296))) m) :
    opsM P G R ops K (⟨d, .binOp .add T x y T', ty, pos, aft, none⟩ :: rest) a m :=
  st_bin (fun w => by simp [hx, hy, eqGuard, binOp, Op.intArith, wrap_u32]) h
theorem st_sub_w {p q : Nat} (hx : a.eval x = uw p) (hy : a.eval y = uw q) (hq : q ≤ 4294967296) (h : opsM P G R ops K rest (a.put d (uw ((p + 4294967296 - q) % 4294967296))) m) :
    opsM P G R ops K (⟨d, .binOp .sub T x y T', ty, pos, aft, none⟩ :: rest) a m :=
  st_bin (fun w => by simp [hx, hy, eqGuard, binOp, Op.intArith, wrap_u32]; omega) h
theorem st_and_w {p q : Nat} (hx : a.eval x = uw p) (hy : a.eval y = uw q) (h : opsM P G R ops K rest (a.put d (uw ((p &&& q) % 4294967296))) m) :
    opsM P G R ops K (⟨d, .binOp .and T x y T', ty, pos, aft, none⟩ :: rest) a m :=
  st_bin (fun w => by
    have := bits_and32 p q
    simp only [hx, hy, eqGuard, binOp, Op.intBits, IntKind.bits]
    simp
    exact this) h
theorem st_or_w {p q : Nat} (hx : a.eval x = uw p) (hy : a.eval y = uw q) (h : opsM P G R ops K rest (a.put d (uw ((p ||| q) % 4294967296))) m) :
    opsM P G R ops K (⟨d, .binOp .or T x y T', ty, pos, aft, none⟩ :: rest) a m :=
  st_bin (fun w => by
    have := bits_or32 p q
    simp only [hx, hy, eqGuard, binOp, Op.intBits, IntKind.bits]
    simp
    exact this) h
theorem st_xor_w {p q : Nat} (hx : a.eval x = uw p) (hy : a.eval y = uw q) (h : opsM P G R ops K rest (a.put d (uw ((p ^^^ q) % 4294967296))) m) :
    opsM P G R ops K (⟨d, .binOp .xor T x y T', ty, pos, aft, none⟩ :: rest) a m :=
  st_bin (fun w => by
    have := bits_xor32 p q
    simp only [hx, hy, eqGuard, binOp, Op.intBits, IntKind.bits]
    simp
    exact this) h
theorem st_shl_w {k' : IntKind} {p s : Nat} (hx : a.eval x = uw p) (hy : a.eval y = .int k' (s : Int)) (hs : s ≤ 32) (h : opsM P G R ops K rest (a.put d (uw ((p * 2 ^ s) % 4294967296))) m) :
    opsM P G R ops K (⟨d, .binOp .shl T x y T', ty, pos, aft, none⟩ :: rest) a m :=
  st_bin (fun w => by
    have h0 : ¬ ((s : Int) < 0) := by omega
    have h1 : min ((s : Int).toNat) (IntKind.u32.bits) = s := by simp [IntKind.bits]; omega
    simp only [hx, hy, eqGuard, binOp, Op.shift, h0, if_false, h1, wrap_u32]
    simp) h
theorem st_shr_w {k' : IntKind} {p s : Nat} (hx : a.eval x = uw p) (hy : a.eval y = .int k' (s : Int)) (hs : s ≤ 32) (h : opsM P G R ops K rest (a.put d (uw (p / 2 ^ s))) m) :
    opsM P G R ops K (⟨d, .binOp .shr T x y T', ty, pos, aft, none⟩ :: rest) a m :=
  st_bin (fun w => by
    have h0 : ¬ ((s : Int) < 0) := by omega
    have h1 : min ((s : Int).toNat) (IntKind.u32.bits) = s := by simp [IntKind.bits]; omega
    simp only [hx, hy, eqGuard, binOp, Op.shift, h0, if_false, h1]
    have e : (p : Int).fdiv (2 ^ s) = ((p / 2 ^ s : Nat) : Int) := by
      rw [Int.fdiv_eq_ediv_of_nonneg _ (by exact Int.le_of_lt (Int.pow_pos (by decide)))]
      simp
    simp [e]) h
theorem st_conv_w {k : IntKind} {dk : TypeDesc} {p : Nat} (hv : kconv R T T' = 1) (hs : P.underlying T = some dk) (ht : P.underlying T' = some (.int .u32)) (hx : a.eval x = .int k (p : Int))
    (h : opsM P G R ops K rest (a.put d (uw (p % 4294967296))) m) : opsM P G R ops K (⟨d, .convert T T' x, ty, pos, aft, none⟩ :: rest) a m :=
  st_conv hv (v := uw (p % 4294967296)) (fun w _ _ => by
    simp only [execOp, convert, underlying, program, hx]
    simp [Sem.run, hs, ht, Conv.intToInt, wrap_u32]) h
theorem st_conv_i {k : IntKind} {dk : TypeDesc} {p : Nat} (hv : kconv R T T' = 1) (hs : P.underlying T = some dk) (ht : P.underlying T' = some (.int .i64)) (hx : a.eval x = .int k (p : Int)) (hp : p < 9223372036854775808)
    (h : opsM P G R ops K rest (a.put d (ii p)) m) : opsM P G R ops K (⟨d, .convert T T' x, ty, pos, aft, none⟩ :: rest) a m :=
  st_conv hv (v := ii p) (fun w _ _ => by
    have := wrap_i64 (z := (p : Int)) (by omega) (by omega)
    simp only [execOp, convert, underlying, program, hx]
    simp [Sem.run, hs, ht, Conv.intToInt, this]) h
theorem st_conv_u8z {k : IntKind} {dk : TypeDesc} {z : Int} (hv : kconv R T T' = 1) (hs : P.underlying T = some dk) (ht : P.underlying T' = some (.int .u8)) (hx : a.eval x = .int k z)
    (h : opsM P G R ops K rest (a.put d (by8 (z % 256).toNat)) m) : opsM P G R ops K (⟨d, .convert T T' x, ty, pos, aft, none⟩ :: rest) a m :=
  st_conv hv (v := by8 (z % 256).toNat) (fun w _ _ => by
    have e : (((z % 256).toNat : Nat) : Int) = z % 256 := by omega
    simp only [execOp, convert, underlying, program, hx]
    simp [Sem.run, hs, ht, Conv.intToInt, wrap_u8, e]) h

/-! ### Strings, by lists of bytes -/
def bstr (l : List Nat) : ByteArray := ⟨(l.map UInt8.ofNat).toArray⟩
abbrev sv (l : List Nat) : Value := .string (bstr l)
theorem bstr_size (l : List Nat) : (bstr l).size = l.length := by simp [bstr, ByteArray.size]
theorem bstr_app (l k : List Nat) : bstr l ++ bstr k = bstr (l ++ k) := by
  apply ByteArray.ext
  simp [bstr, ByteArray.data_append]
theorem str_nums (l : List Nat) : strOfNums (l.map fun n : Nat => (n : Int)) = bstr l := by
  unfold strOfNums bstr
  rw [List.map_map]
  have : l.map ((fun n : Int => UInt8.ofNat n.toNat) ∘ fun n : Nat => (n : Int)) = l.map UInt8.ofNat := List.map_congr_left fun n _ => rfl
  rw [this]
theorem st_catS {l k : List Nat} (hx : a.eval x = sv l) (hy : a.eval y = sv k) (hl : l.length + k.length ≤ 9223372036854775807) (h : opsM P G R ops K rest (a.put d (sv (l ++ k))) m) :
    opsM P G R ops K (⟨d, .binOp .add T x y T', ty, pos, aft, none⟩ :: rest) a m :=
  st_bin (fun w => by
    have := run_string_add_sum (P := P) (w := w) (bstr l) (bstr k) (by rw [bstr_size, bstr_size]; exact hl)
    rw [hx, hy]
    simp only [Sem.run_bind, eqGuard, binOp]
    rw [bstr_app] at this
    simp [this]) h
theorem bstr_cut (l : List Nat) (i j : Nat) : (bstr l).extract i j = bstr ((l.drop i).take (j - i)) := by
  apply ByteArray.ext
  rw [ByteArray.data_extract]
  unfold bstr
  simp only
  apply Array.ext'
  simp [List.map_drop, List.map_take, List.extract_eq_take_drop]
/-- A part of a string. -/
theorem st_sliceStr {l : List Nat} {i j : Nat} {lo hi : Option Operand} (hT : P.underlying T = some .string) (hx : a.eval x = sv l) (hl : isB (lo.map a.eval) i 0) (hh : isB (hi.map a.eval) j l.length) (h1 : i ≤ j) (h2 : j ≤ l.length)
    (hK : opsM P G R ops K rest (a.put d (sv ((l.drop i).take (j - i)))) m) : opsM P G R ops K (⟨d, .slice T x lo hi none, ty, pos, aft, none⟩ :: rest) a m :=
  st_quiet (v := sv ((l.drop i).take (j - i))) rfl rfl (fun w => by
    have hb := run_bounds (P := P) (isS := false) (len := (bstr l).size) (cap := (bstr l).size) hl (by rw [bstr_size]; exact hh) h1 (by rw [bstr_size]; exact h2) w
    simp only [execOp, Instr.sliceAt, Instr.slice, hx, Option.map_none]
    simp [run_underlying hT, hb, bstr_cut]) hK
/-- A byte of a string. -/
theorem st_idxStr {l : List Nat} {j b : Nat} {k : IntKind} (hT : P.underlying T = some .string) (hx : a.eval x = sv l) (hy : a.eval y = .int k (j : Int)) (hj : l[j]? = some b) (hb : b < 256)
    (h : opsM P G R ops K rest (a.put d (by8 b)) m) : opsM P G R ops K (⟨d, .index T x y, ty, pos, aft, none⟩ :: rest) a m :=
  st_quiet (v := by8 b) rfl rfl (fun w => by
    have hlt : j < l.length := (List.getElem?_eq_some_iff.1 hj).1
    have hg : l[j] = b := (List.getElem?_eq_some_iff.1 hj).2
    have hsz : j < (bstr l).size := by rw [bstr_size]; exact hlt
    have h0 : (0 : Int) ≤ j ∧ (j : Int) < ((bstr l).size : Nat) := by omega
    have hb2 : ((bstr l)[j]'hsz).toNat = b := by
      show ((bstr l).data[j]).toNat = b
      simp [bstr, hg]
      omega
    have hb3 : (bstr l)[j]? = some ((bstr l)[j]'hsz) := getElem?_pos (bstr l) j hsz
    simp only [execOp, Instr.index, hx, hy, asIntOf, underlying, program]
    simp [Sem.run, hT, hb3, hb2]) h
theorem st_eqStr {l k : List Nat} (hl : ∀ b ∈ l, b < 256) (hk : ∀ b ∈ k, b < 256) (hx : a.eval x = sv l) (hy : a.eval y = sv k) (h : opsM P G R ops K rest (a.put d (.bool (decide (l = k)))) m) :
    opsM P G R ops K (⟨d, .binOp .eql T x y T', ty, pos, aft, none⟩ :: rest) a m :=
  st_eqS hx hy (by
    have key : ((bstr l).toList == (bstr k).toList) = decide (l = k) := by
      have e : ∀ r : List Nat, (bstr r).toList = r.map UInt8.ofNat := fun r => by
        rw [ByteArray.toList_eq]
        simp [bstr]
      rw [e, e]
      by_cases hlk : l = k
      · subst hlk; simp
      · have : l.map UInt8.ofNat ≠ k.map UInt8.ofNat := fun he => hlk (by
          have e2 := congrArg (List.map UInt8.toNat) he
          rw [List.map_map, List.map_map] at e2
          have f : ∀ r : List Nat, (∀ b ∈ r, b < 256) → r.map (UInt8.toNat ∘ UInt8.ofNat) = r := fun r hr => by
            conv => rhs; rw [← List.map_id r]
            exact List.map_congr_left fun b hb => by
              have := hr b hb
              simp
              omega
          rw [f l hl, f k hk] at e2
          exact e2)
        simp [hlk, this]
    rw [key]; exact h)

end Go.Proofs.Ytmnmhmpklknleaa

/-
  More operations: slices that are read, made, appended to and copied to.
-/
namespace Go.Proofs.Ytmnmhmpklknleaa
open Go Go.RowKit
variable {P : Program} {G : Mem} {R : Reg} {ops : Array Oper} {K : Act → Mem → Prop} {rest : List Oper} {a : Act} {m : Mem} {d : Option Tmp} {ty : TypeId} {pos : String} {aft : Array Edge}
variable {T T' : TypeId} {x y : Operand}

abbrev nilS : Value := .slice none 0 0
/-- The slice v shows n elements (of z cells each), whose cells are xs; its block is one of B. -/
def Shows (B : Mem) (z : Nat) (v : Value) (n : Nat) (xs : List Value) : Prop :=
  (n = 0 ∧ xs = [] ∧ ∃ oa cap, v = .slice oa 0 cap ∧ (oa = none → cap = 0)) ∨ ∃ b o cap c t, v = .slice (some ⟨b, o, none⟩) n cap ∧ n ≤ cap ∧ (⟨b, c, t⟩ : Blk) ∈ B ∧ xs.length = n * z ∧ o + n * z ≤ c.size ∧ ∀ j u, xs[j]? = some u → c[o + j]? = some u
/-- The place of a slice's element. -/
def slAddr (v : Value) (j : Nat) : Value := match v with
  | .slice (some ⟨b, o, s⟩) _ _ => .pointer (some ⟨b, o + j, s⟩)
  | _ => undef
/-- A part of a slice. -/
def slPart (z : Nat) (v : Value) (i j : Nat) : Value := match v with
  | .slice (some ⟨b, o, s⟩) _ cap => .slice (some (if cap = i then ⟨b, o, s⟩ else ⟨b, o + i * z, s⟩)) (j - i) (cap - i)
  | v => v
theorem Shows.len {B : Mem} {z n : Nat} {v : Value} {xs : List Value} (h : Shows B z v n xs) : xs.length = n * z := by
  rcases h with ⟨rfl, rfl, _⟩ | ⟨b, o, cap, c, t, _, _, _, h, _⟩
  · simp
  · exact h
theorem Shows.part {B : Mem} {z n i j : Nat} {v : Value} {xs : List Value} (h : Shows B z v n xs) (h1 : i ≤ j) (h2 : j ≤ n) : Shows B z (slPart z v i j) (j - i) ((xs.drop (i * z)).take ((j - i) * z)) := by
  rcases h with ⟨rfl, rfl, oa, cap, rfl, hoa⟩ | ⟨b, o, cap, c, t, rfl, hc, hB, hl, ho, hx⟩
  · left
    have e1 : i = 0 := by omega
    have e2 : j = 0 := by omega
    subst e1 e2
    refine ⟨rfl, by simp, ?_⟩
    cases oa with
    | none => exact ⟨none, cap, rfl, hoa⟩
    | some a => exact ⟨some (if cap = 0 then ⟨a.block, a.off, a.spot⟩ else ⟨a.block, a.off + 0 * z, a.spot⟩), cap - 0, rfl, fun h => by cases h⟩
  · right
    have hm1 : i * z + (j - i) * z = j * z := by rw [← Nat.add_mul]; congr 1; omega
    have hm2 : j * z ≤ n * z := Nat.mul_le_mul_right _ h2
    refine ⟨b, if cap = i then o else o + i * z, cap - i, c, t, ?_, by omega, hB, ?_, ?_, fun k u hk => ?_⟩
    · show Value.slice (some (if cap = i then ⟨b, o, none⟩ else ⟨b, o + i * z, none⟩)) (j - i) (cap - i) = _
      split <;> rfl
    · simp [hl]; omega
    · split <;> omega
    · rw [List.getElem?_take] at hk
      split at hk
      · rename_i hlt
        rw [List.getElem?_drop] at hk
        have := hx _ _ hk
        by_cases e : cap = i
        · have : j - i = 0 := by omega
          rw [this] at hlt; omega
        · rw [if_neg e, Nat.add_assoc]; exact this
      · cases hk
theorem Shows.mono {B B' : Mem} {z n : Nat} {v : Value} {xs : List Value} (h : Shows B z v n xs) (hs : ∀ x ∈ B, x ∈ B') : Shows B' z v n xs := by
  rcases h with h | ⟨b, o, cap, c, t, h1, h2, h3, h4⟩
  · exact .inl h
  · exact .inr ⟨b, o, cap, c, t, h1, h2, hs _ h3, h4⟩
/-- Blocks that may be read. -/
def Seen (G : Mem) (R : Reg) (m B : Mem) : Prop := ∀ z ∈ B, z ∈ G ∨ (z ∈ m ∧ z.b ∉ R.X)
theorem Seen.rin {B : Mem} (h : Seen G R m B) {w : World} (hG : MemR G w) (hm : vis R m w) {z : Blk} (hz : z ∈ B) : RIn w z := by
  rcases h z hz with h1 | ⟨h1, h2⟩
  · exact hG z h1
  · exact (hm z h1 h2).read

/-! ### len, min -/
theorem st_value {b : Builtin} {args : Array Operand} {tys : Array TypeId} {v : Value} (hc : cls R ⟨d, .call ⟨.builtin b, args, tys⟩, ty, pos, aft, none⟩ = R.c) (hR : callOk R = true) (hr : ∀ w, (execOp a.eval ⟨d, .call ⟨.builtin b, args, tys⟩, ty, pos, aft, none⟩).run P w = .ok (.value v) w) (h : opsM P G R ops K rest (a.put d v) m) :
    opsM P G R ops K (⟨d, .call ⟨.builtin b, args, tys⟩, ty, pos, aft, none⟩ :: rest) a m :=
  .inr ⟨rfl, by rw [hc]; exact core_call hR (v := v) (fun w _ _ => .inl (hr w)) h⟩
theorem st_lenS {e : TypeId} {v : Value} {B : Mem} {z n : Nat} {xs : List Value} (hR : callOk R = true) (hT : P.underlying T = some (.slice e)) (hx : a.eval x = v) (hv : Shows B z v n xs) (h : opsM P G R ops K rest (a.put d (ii n)) m) :
    opsM P G R ops K (⟨d, .call ⟨.builtin .len, #[x], #[T]⟩, ty, pos, aft, none⟩ :: rest) a m :=
  st_value rfl hR (fun w => by
    have : (Builtin.len_ #[T] ty #[v]).run P w = .ok (ii n) w := by
      rcases hv with ⟨rfl, _, oa, cap, rfl, _⟩ | ⟨b, o, cap, c, t, rfl, _⟩ <;> simp [Builtin.len_, run_underlying hT, goInt]
    simp only [execOp, resolve, invoke, builtin, Sem.run_bind, Sem.run_pure, Result.andThen_ok, List.map_toArray, List.map_cons, List.map_nil, hx, this]) h
theorem st_lenStr {l : List Nat} (hR : callOk R = true) (hT : P.underlying T = some .string) (hx : a.eval x = sv l) (h : opsM P G R ops K rest (a.put d (ii l.length)) m) :
    opsM P G R ops K (⟨d, .call ⟨.builtin .len, #[x], #[T]⟩, ty, pos, aft, none⟩ :: rest) a m :=
  st_value rfl hR (fun w => by
    have : (Builtin.len_ #[T] ty #[sv l]).run P w = .ok (ii l.length) w := by simp [Builtin.len_, run_underlying hT, goInt, bstr_size]
    simp only [execOp, resolve, invoke, builtin, Sem.run_bind, Sem.run_pure, Result.andThen_ok, List.map_toArray, List.map_cons, List.map_nil, hx, this]) h

theorem st_min {k k' : IntKind} {p q : Nat} (hR : callOk R = true) (hx : a.eval x = .int k (p : Int)) (hy : a.eval y = .int k' (q : Int)) (h : opsM P G R ops K rest (a.put d (.int k ((min p q : Nat) : Int))) m) :
    opsM P G R ops K (⟨d, .call ⟨.builtin .min, #[x, y], #[T, T']⟩, ty, pos, aft, none⟩ :: rest) a m :=
  st_value rfl hR (fun w => by
    have e : (if q < p then (q : Int) else p) = ((min p q : Nat) : Int) := by split <;> omega
    have : (Builtin.min_ #[T, T'] ty #[.int k (p : Int), .int k' (q : Int)]).run P w = .ok (.int k ((min p q : Nat) : Int)) w := by simp [Builtin.min_, Builtin.min2, e]
    simp only [execOp, resolve, invoke, builtin, Sem.run_bind, Sem.run_pure, Result.andThen_ok, List.map_toArray, List.map_cons, List.map_nil, hx, hy, this]) h

/-! ### Elements -/
theorem st_atV {e : TypeId} {k : IntKind} {v : Value} {B : Mem} {z n j : Nat} {xs : List Value} (hT : P.underlying T = some (.slice e)) (hs : (P.info? e).map (·.size) = some z) (hx : a.eval x = v) (hy : a.eval y = .int k (j : Int)) (hv : Shows B z v n xs) (hj : j < n)
    (h : opsM P G R ops K rest (a.put d (slAddr v (j * z))) m) : opsM P G R ops K (⟨d, .indexAddr T x y, ty, pos, aft, none⟩ :: rest) a m :=
  st_quiet (v := slAddr v (j * z)) rfl rfl (fun w => by
    rcases hv with ⟨rfl, _⟩ | ⟨b, o, cap, c, t, rfl, _⟩
    · omega
    · cases hi : P.info? e with
      | none => simp [hi] at hs
      | some i =>
        have hsz : i.size = z := by simpa [hi] using hs
        have h0 : (0 : Int) ≤ j ∧ (j : Int) < n := by omega
        simp only [execOp, Instr.indexAt, hx, hy, asIntOf, underlying, program, sizeOf, typeInfo]
        simp [Sem.run, hT, hi, hsz, add_off, hj, slAddr]) h
/-- One cell of an element that is one cell. -/
theorem st_loadV {td : TypeDesc} {v u : Value} {B : Mem} {n j : Nat} {xs : List Value} (hB : Seen G R m B) (hT : P.underlying T = some td) (hn : rowLike td = false) (hx : a.eval x = slAddr v j) (hv : Shows B 1 v n xs) (hj : xs[j]? = some u)
    (h : opsM P G R ops K rest (a.put d u) m) : opsM P G R ops K (⟨d, .load T x, ty, pos, aft, none⟩ :: rest) a m :=
  .inr ⟨rfl, u, fun w hG hm => .inl (by
    rcases hv with ⟨_, rfl, _⟩ | ⟨b, o, cap, c, t, rfl, _, hb, hl, ho, hc⟩
    · simp at hj
    · have hin := hB.rin hG hm hb
      have hlt : o + j < c.size := (Array.getElem?_eq_some_iff.1 (hc j u hj)).1
      have hcell : w.cell? ⟨b, o + j, none⟩ = some u := by rw [hin.2 (o + j) hlt]; exact hc j u hj
      simp only [execOp, Instr.loadAt, hx, slAddr, Instr.sureAddr, loadVar]
      simp [run_isAgg hT, hn, hcell]), h⟩
/-- A part of a slice. -/
theorem st_sliceV {e : TypeId} {v : Value} {B : Mem} {z n i j : Nat} {xs : List Value} {lo hi : Option Operand} (hT : P.underlying T = some (.slice e)) (hs : (P.info? e).map (·.size) = some z) (hx : a.eval x = v) (hv : Shows B z v n xs) (hl : isB (lo.map a.eval) i 0) (hh : isB (hi.map a.eval) j n) (h1 : i ≤ j) (h2 : j ≤ n)
    (hK : opsM P G R ops K rest (a.put d (slPart z v i j)) m) : opsM P G R ops K (⟨d, .slice T x lo hi none, ty, pos, aft, none⟩ :: rest) a m := by
  rcases hv with ⟨rfl, _, oa, cap, rfl, hoa⟩ | ⟨b, o, cap, c, t, rfl, hc, _⟩
  · refine st_quiet (v := slPart z (.slice oa 0 cap) i j) rfl rfl (fun w => ?_) hK
    cases hi' : P.info? e with
    | none => simp [hi'] at hs
    | some k =>
      have hsz : k.size = z := by simpa [hi'] using hs
      have hb := run_bounds (P := P) (isS := true) (len := 0) (cap := cap) hl hh h1 (by omega) w
      have e1 : i = 0 := by omega
      have e2 : j = 0 := by omega
      subst e1 e2
      simp only [execOp, Instr.sliceAt, Instr.slice, hx, Option.map_none]
      cases oa with
      | none =>
        have := hoa rfl
        subst this
        simp [run_underlying hT, hb, sizeOf, typeInfo, hi', slPart]
      | some a =>
        obtain ⟨ab, ao, asp⟩ := a
        by_cases hc0 : cap = 0
        · subst hc0
          simp [run_underlying hT, hb, sizeOf, typeInfo, hi', slPart]
        · simp [run_underlying hT, hb, sizeOf, typeInfo, hi', slPart, hc0, Addr.add]
  · refine st_sliceS hT hs hx hl hh h1 (by omega) ?_
    simpa [slPart] using hK
/-- Bytes that are read become a string. -/
theorem st_conv_strV {e : TypeId} {v : Value} {B : Mem} {l : List Nat} (hq : kconv R T T' = 1) (hB : Seen G R m B) (hs : P.underlying T = some (.slice e)) (he : P.underlying e = some (.int .u8)) (ht : P.underlying T' = some .string) (hx : a.eval x = v) (hv : Shows B 1 v l.length (l.map by8))
    (h : opsM P G R ops K rest (a.put d (sv l)) m) : opsM P G R ops K (⟨d, .convert T T' x, ty, pos, aft, none⟩ :: rest) a m :=
  st_conv hq (v := sv l) (fun w hG hm => by
    rcases hv with ⟨h0, _, oa, cap, rfl, _⟩ | ⟨b, o, cap, c, t, rfl, _, hb, hl, ho, hc⟩
    · have : l = [] := List.eq_nil_of_length_eq_zero h0
      subst this
      have hr : (convert T T' (.slice oa 0 cap)).run P w = .ok (.string ByteArray.empty) w := by
        rw [run_convert_bytes_string w T T' e oa 0 cap hs he ht]
        cases oa with
        | none => simp [Conv.bytesToString]
        | some a =>
          have := run_bytesToString (P := P) w a 0 cap [] (by simp [loadCells, loadCellsFrom])
          simpa using this
      simp only [execOp, hx]
      simp [hr]; rfl
    · have hin := hB.rin hG hm hb
      have := run_convert_bytes_arg (P := P) w T e hs he b o l.length cap (l.map fun n : Nat => (n : Int)) (by simp) (fun j hj => by
        have e1 : (l.map by8)[j]? = some (by8 l[j]) := by simp [hj]
        have h1 := hc j _ e1
        have hlt : o + j < c.size := (Array.getElem?_eq_some_iff.1 h1).1
        rw [hin.2 (o + j) hlt]
        simp only []
        rw [h1]
        simp [List.getD, hj]) T' ht
      rw [str_nums] at this
      simp only [execOp, hx]
      simp [this]) h

/-! ### Makes -/
theorem made_arr {z : Value} {n : Nat} {k : IntKind} (hz : z.cells = #[.int k 0]) : madeCells z.cells n = arr k n (fun _ => 0) := by
  rw [hz]
  apply Array.ext
  · simp [madeCells, arr]
  · intro i h1 h2
    simp [madeCells, arr, Nat.mod_one]
theorem st_make {e : TypeId} {kl kc k : IntKind} {n b : Nat} {z : Value} (hT : P.underlying T = some (.slice e)) (hs : (P.info? e).map (·.size) = some 1) (hb : (P.info? e).map (·.bytes) = some b) (hz : (P.info? e).bind (·.zero) = some z) (hzc : z.cells = #[.int k 0])
    (hx : a.eval x = .int kl (n : Int)) (hy : a.eval y = .int kc (n : Int)) (hn : b * n ≤ 281474976710656) (h63 : n ≤ 9223372036854775807)
    (h : ∀ r, (∀ x ∈ m, x.b ≠ r) → opsM P G R ops K rest (a.put d (.slice (some ⟨r, 0, none⟩) n n)) (m ++ [⟨r, arr k n (fun _ => 0), e⟩])) : opsM P G R ops K (⟨d, .makeSlice T x y, ty, pos, aft, none⟩ :: rest) a m :=
  .inr ⟨rfl, arr k n (fun _ => 0), e, fun r => .slice (some ⟨r, 0, none⟩) n n, fun w => by
    cases hi : P.info? e with
    | none => simp [hi] at hs
    | some i =>
      have hsz : i.size = 1 := by simpa [hi] using hs
      have hbz : i.bytes = b := by simpa [hi] using hb
      have hz' : i.zero = some z := by simpa [hi] using hz
      have hbn : ((b * n : Nat) : Int) ≤ 281474976710656 := by omega
      rw [Int.natCast_mul] at hbn
      have := run_make (P := P) w T e i z hT hi hz' kl kc n n (by omega) (by omega) (by rw [hbz]; exact hbn) (by omega)
      rw [hsz] at this
      simp only [Int.toNat_natCast, Nat.mul_one, made_arr hzc] at this
      simp only [execOp, hx, hy]
      simp [this], h⟩

/-! ### Writes by copy and append -/
theorem post_row {w : World} {b : Nat} {c c' : Array Value} {t : TypeId} (hin : In w ⟨b, c, t⟩) (hsz : c'.size = c.size) : Post [⟨b, c, t⟩] [⟨b, c', t⟩] [] w (w.setRow b c') :=
  ⟨⟨rfl, rfl, rfl, by simp [World.setRow], fun k _ hk => setRow_other w b k c' (by simpa using hk)⟩, fun x hx => by
    simp at hx; subst hx
    exact hin.set hsz, by simp [MemIn], by simp, by simp⟩
theorem post_drew (w : World) (c : Array Value) (t : TypeId) (l0 : Mem) (h0 : MemIn l0 w) : Post l0 l0 [⟨w.heap.size, c, t⟩] w (w.drew.alloc (.cells c t)) := by
  have hb : Below w.heap.size w (w.drew.alloc (.cells c t)) := (Below.refl w.heap.size w).drew.alloc (Nat.le_refl _) _
  refine ⟨Keep.of_below hb _, h0.later hb, fun x hx => ?_, by simp, by simp⟩
  simp at hx; subst hx
  refine In.of ?_
  show (w.heap.push _)[w.heap.size]? = _
  simp
/-- The run-time marks the place behind a string's bytes. -/
theorem post_marked (w : World) (c : Array Value) (t : TypeId) : Post [] [] [⟨w.heap.size, c, t⟩] w (w.drew.alloc (.cells c t (c.size, c.size + 1))) := by
  have hb : Below w.heap.size w (w.drew.alloc (.cells c t (c.size, c.size + 1))) := (Below.refl w.heap.size w).drew.alloc (Nat.le_refl _) _
  refine ⟨Keep.of_below hb _, by simp [MemIn], fun x hx => ?_, by simp, by simp⟩
  simp at hx; subst hx
  refine ⟨(c.size, c.size + 1), ?_, .inr (Nat.le_refl _)⟩
  show (w.heap.push _)[w.heap.size]? = _
  simp
/-- A string is copied into a block of bytes. -/
theorem st_copyStr {e : TypeId} {b o N dl cap i : Nat} {f : Nat → Nat} {t : TypeId} {l : List Nat} (hT : P.underlying T = some (.slice e)) (hs : (P.info? e).map (·.size) = some 1) (hx : a.eval x = .slice (some ⟨b, o, none⟩) dl cap) (hy : a.eval y = sv l) (hl : ∀ n ∈ l, n < 256)
    (hm : m[i]? = some ⟨b, arr .u8 N f, t⟩) (ho : o + dl ≤ N)
    (h : ∀ lr, List.Perm m (⟨b, arr .u8 N f, t⟩ :: lr) → opsM P G R ops K rest (a.put d (ii (min l.length dl))) (⟨b, arr .u8 N (fun j => if o ≤ j ∧ j < o + min l.length dl then l.getD (j - o) 0 else f j), t⟩ :: lr)) : opsM P G R ops K (⟨d, .call ⟨.builtin .copy, #[x, y], #[T, T']⟩, ty, pos, aft, none⟩ :: rest) a m := by
  have hmem : (⟨b, arr .u8 N f, t⟩ : Blk) ∈ m := mem_of_get hm
  obtain ⟨l1, l2, hml⟩ := List.append_of_mem hmem
  have hp : List.Perm m (⟨b, arr .u8 N f, t⟩ :: (l1 ++ l2)) := by rw [hml]; exact List.perm_middle
  obtain ⟨c', hc'⟩ : ∃ c', c' = arr .u8 N (fun j => if o ≤ j ∧ j < o + min l.length dl then l.getD (j - o) 0 else f j) := ⟨_, rfl⟩
  refine .inr ⟨rfl, ?_⟩
  show coreM _ _ _ _ _ _ _ 5
  refine ⟨[⟨b, arr .u8 N f, t⟩], l1 ++ l2, fun v r1 nw => v = ii (min l.length dl) ∧ r1 = [⟨b, c', t⟩] ∧ nw = [], by simpa using hp, ⟨_, _, _, ⟨rfl, rfl, rfl⟩, by simp, by simp⟩, ?_, ?_, ?_⟩
  · rintro v r1 nw ⟨_, rfl, _⟩; rfl
  · intro w _ hw _
    have hin := hw _ hmem
    refine .inl ⟨_, _, _, w.setRow b c', ?_, ⟨rfl, rfl, rfl⟩, post_row hin (by rw [hc', arr_size, arr_size])⟩
    cases hi : P.info? e with
    | none => simp [hi] at hs
    | some k =>
      have hsz : k.size = 1 := by simpa [hi] using hs
      have hf : (Builtin.firstCells 1 (min l.length dl) (sv l)).run P w = .ok ((l.take (min l.length dl)).map by8).toArray w := by
        simp only [Builtin.firstCells]
        rw [bstr_cut]
        simp only [Sem.run_pure, List.drop_zero, Nat.sub_zero]
        congr 1
        unfold bstr
        apply Array.ext'
        simp only [Array.toList_map, List.map_map]
        exact List.map_congr_left fun n hn => by
          have := hl n (List.mem_of_mem_take hn)
          simp
          omega
      have hst := run_storeCells_in (P := P) b o t ((l.take (min l.length dl)).map by8) 0 (arr .u8 N f) w hin (by simp [arr_size]; omega) (fun v hv => by
        obtain ⟨n, _, rfl⟩ := List.mem_map.1 hv; rfl)
      have hc2 : ((arr .u8 N f).toList.take (o + 0) ++ (l.take (min l.length dl)).map by8 ++ (arr .u8 N f).toList.drop (o + 0 + ((l.take (min l.length dl)).map by8).length)).toArray = c' := by
        rw [hc']
        apply Array.ext
        · simp [arr]; omega
        · intro j h1 h2
          have hjN : j < N := by simpa [arr] using h2
          simp only [List.getElem_toArray]
          by_cases ha : j < o
          · rw [List.getElem_append_left (by simp [arr]; omega), List.getElem_append_left (by simp [arr]; omega)]
            have : ¬ (o ≤ j ∧ j < o + min l.length dl) := by omega
            simp [arr, this]
          · by_cases hb2 : j < o + min l.length dl
            · rw [List.getElem_append_left (by simp [arr]; omega), List.getElem_append_right (by simp [arr]; omega)]
              have h3 : o ≤ j ∧ j < o + min l.length dl := by omega
              have h4 : j - o < l.length := by omega
              have h5 : min o N = o := by omega
              simp [arr, h3, h5, List.getD, h4]
            · rw [List.getElem_append_right (by simp [arr]; omega)]
              have h3 : ¬ (o ≤ j ∧ j < o + min l.length dl) := by omega
              have h5 : min o N = o := by omega
              simp [arr, h3, h5]
              congr 2
              omega
      rw [hc2] at hst
      generalize (l.take (min l.length dl)).map by8 = vs at hf hst
      have hmin : Nat.min l.length dl = min l.length dl := rfl
      simp only [execOp, resolve, invoke, builtin, Sem.run_bind, Sem.run_pure, Result.andThen_ok, List.map_toArray, List.map_cons, List.map_nil, hx, hy]
      simp [Builtin.copy_, run_underlying hT, Builtin.lenOf, bstr_size, sizeOf, typeInfo, hi, hsz, hmin, hf, hst, goInt]
  · rintro v r1 nw ⟨rfl, rfl, rfl⟩ _
    rw [hc']
    simpa using h (l1 ++ l2) hp

end Go.Proofs.Ytmnmhmpklknleaa

/-
  append to a slice of one's own.
-/
namespace Go.Proofs.Ytmnmhmpklknleaa
open Go Go.RowKit
variable {P : Program} {G : Mem} {R : Reg} {ops : Array Oper} {K : Act → Mem → Prop} {rest : List Oper} {a : Act} {m : Mem} {d : Option Tmp} {ty : TypeId} {pos : String} {aft : Array Edge}
variable {T T' : TypeId} {x y : Operand}

/-- A slice of one's own: nil, or a whole block l of its own; its n elements' cells are xs. -/
def OwnS (e : TypeId) (z : Nat) (v : Value) (n : Nat) (xs : List Value) (l : Mem) : Prop :=
  (v = nilS ∧ n = 0 ∧ xs = [] ∧ l = []) ∨ ∃ r cap c, v = .slice (some ⟨r, 0, none⟩) n cap ∧ l = [⟨r, c, e⟩] ∧ n ≤ cap ∧ cap ≤ maxLen ∧ c.size = cap * z ∧ xs.length = n * z ∧ c.toList.take (n * z) = xs
theorem OwnS.shows {e : TypeId} {z n : Nat} {v : Value} {xs : List Value} {l : Mem} (h : OwnS e z v n xs l) : Shows l z v n xs := by
  rcases h with ⟨h1, h2, h3, _⟩ | ⟨r, cap, c, h1, rfl, h3, _, h4, h5, h6⟩
  · exact .inl ⟨h2, h3, none, 0, h1, fun _ => rfl⟩
  · refine .inr ⟨r, 0, cap, c, e, h1, h3, by simp, h5, ?_, fun j u hj => ?_⟩
    · rw [h4, Nat.zero_add]; exact Nat.mul_le_mul_right _ h3
    · rw [← h6, List.getElem?_take] at hj
      split at hj
      · rw [Nat.zero_add]; simpa using hj
      · cases hj
theorem OwnS.len {e : TypeId} {z n : Nat} {v : Value} {xs : List Value} {l : Mem} (h : OwnS e z v n xs l) : xs.length = n * z := h.shows.len
theorem shows_new {z len r : Nat} (c : Array Value) (e : TypeId) (h : c.size = len * z) : Shows [⟨r, c, e⟩] z (.slice (some ⟨r, 0, none⟩) len len) len c.toList :=
  .inr ⟨r, 0, len, c, e, rfl, Nat.le_refl _, by simp, by simpa using h, by omega, fun j u hj => by rw [Nat.zero_add]; simpa using hj⟩
theorem own_nil (e : TypeId) (z : Nat) : OwnS e z nilS 0 [] [] := .inl ⟨rfl, rfl, rfl, rfl⟩

theorem run_append_in (w : World) (t ty e : TypeId) (i : TypeInfo) (ht : P.underlying t = some (.slice e)) (hi : P.info? e = some i)
    (g sLen sCap : Nat) (cur : Array Value) (hg : In w ⟨g, cur, e⟩)
    (a : Addr) (m c : Nat) (news : List Value) (hl : news.length = m * i.size) (hnews : ∀ j u, news[j]? = some u → w.cell? (a.add j) = some u) (h1 : ∀ u ∈ news, u.oneCell' = true)
    (hroom : sLen + m ≤ sCap) (hfit : sLen * i.size + news.length ≤ cur.size) :
    (Builtin.append_ #[t, t] ty #[.slice (some ⟨g, 0, none⟩) sLen sCap, .slice (some a) m c]).run P w =
      .ok (.slice (some ⟨g, 0, none⟩) (sLen + m) sCap) (w.setRow g (cur.toList.take (sLen * i.size) ++ news ++ cur.toList.drop (sLen * i.size + news.length)).toArray) := by
  have hf := run_firstCells_some (P := P) w i.size m a m c news hl hnews
  have hst := run_storeCells_in (P := P) g (sLen * i.size) e news 0 cur w hg (by simpa using hfit) h1
  simp only [Nat.add_zero] at hst
  simp [Builtin.append_, run_underlying ht, sizeOf, typeInfo, hi, Builtin.lenOf, hroom, hf, Addr.add_lit, hst]
theorem st_append {e : TypeId} {z n k bytes : Nat} {zv v vy : Value} {xs news : List Value} {l0 lr B : Mem} (hT : P.underlying T = some (.slice e)) (hs : (P.info? e).map (·.size) = some z) (hb : (P.info? e).map (·.bytes) = some bytes) (hz : (P.info? e).bind (·.zero) = some zv) (hzs : zv.cells.size = z)
    (hx : a.eval x = v) (hy : a.eval y = vy) (hown : OwnS e z v n xs l0) (hp : List.Perm m (l0 ++ lr)) (hsrc : Shows B z vy k news) (hB : ∀ q ∈ B, q ∈ G ∨ q ∈ m) (h1 : ∀ u ∈ news, u.oneCell' = true) (h63 : n + k ≤ maxLen) (hbytes : (n + k) * bytes ≤ 140737488355328)
    (h : ∀ v' l', OwnS e z v' (n + k) (xs ++ news) l' → (l'.map (·.b) = l0.map (·.b) → opsM P G R ops K rest (a.put d v') (l' ++ lr ++ [])) ∧ (FreshM m l' → opsM P G R ops K rest (a.put d v') (l0 ++ lr ++ l'))) :
    opsM P G R ops K (⟨d, .call ⟨.builtin .append, #[x, y], #[T, T]⟩, ty, pos, aft, none⟩ :: rest) a m := by
  have hlen : (xs ++ news).length = (n + k) * z := by rw [List.length_append, hown.len, hsrc.len, Nat.add_mul]
  refine .inr ⟨rfl, ?_⟩
  show coreM _ _ _ _ _ _ _ 5
  refine ⟨l0, lr, fun v' r1 nw => ∃ l', OwnS e z v' (n + k) (xs ++ news) l' ∧ ((r1 = l' ∧ nw = [] ∧ l'.map (·.b) = l0.map (·.b)) ∨ (r1 = l0 ∧ nw = l')), hp, ?_, ?_, ?_, ?_⟩
  · obtain ⟨r, hr⟩ := fresh_of m
    exact ⟨.slice (some ⟨r, 0, none⟩) (n + k) (n + k), l0, [⟨r, (xs ++ news).toArray, e⟩], ⟨_, .inr ⟨r, n + k, (xs ++ news).toArray, rfl, rfl, Nat.le_refl _, h63, by simp only [List.size_toArray]; exact hlen, hlen, by rw [← hlen]; exact List.take_length⟩, .inr ⟨rfl, rfl⟩⟩, by simp, by simpa using hr⟩
  · rintro v' r1 nw ⟨l', _, ⟨rfl, _, h3⟩ | ⟨rfl, _⟩⟩
    · exact h3
    · rfl
  · intro w hG hm _
    have hrun : ∀ v' w', (Builtin.append_ #[T, T] ty #[v, vy]).run P w = .ok v' w' → (execOp a.eval ⟨d, .call ⟨.builtin .append, #[x, y], #[T, T]⟩, ty, pos, aft, none⟩).run P w = .ok (.value v') w' := fun v' w' hr => by
      simp only [execOp, resolve, invoke, builtin, Sem.run_bind, Sem.run_pure, Result.andThen_ok, List.map_toArray, List.map_cons, List.map_nil, hx, hy, hr]
    have hl0 : MemIn l0 w := fun q hq => hm q (hp.mem_iff.2 (by simp [hq]))
    left
    cases hi : P.info? e with
    | none => simp [hi] at hs
    | some i =>
      have hsz : i.size = z := by simpa [hi] using hs
      have hby : i.bytes = bytes := by simpa [hi] using hb
      have hz' : i.zero = some zv := by simpa [hi] using hz
      have hsmall : n + k ≤ 9223372036854775807 := by simp only [maxLen] at h63; omega
      have grown : ∀ old (w0 : World), w0 = w → (∃ c', c' = xs.toArray ++ news.toArray ++ Builtin.zeroCells zv.cells (grownCap w (n + k) old e - (n + k)) ∧
          OwnS e z (.slice (some ⟨w.heap.size, 0, none⟩) (n + k) (grownCap w (n + k) old e)) (n + k) (xs ++ news) [⟨w.heap.size, c', e⟩]) := fun old _ _ => by
        have hge := grownCap_ge w (n + k) old e
        refine ⟨_, rfl, .inr ⟨_, _, _, rfl, rfl, hge, grownCap_le_maxLen w (n + k) old e h63, ?_, hlen, ?_⟩⟩
        · simp only [Array.size_append, List.size_toArray, size_zeroCells, hzs, hown.len, hsrc.len, ← Nat.add_mul]
          congr 1
          omega
        · simp only [Array.toList_append, List.append_assoc]
          rw [← List.append_assoc, ← hlen]
          exact List.take_left
      rcases hsrc with ⟨rfl, rfl, oa, cp, rfl, hoa⟩ | ⟨b, o, cp, c, t, rfl, hkc, hbB, hnl, ho, hnc⟩
      · -- nothing is appended
        refine ⟨v, l0, [], w, hrun _ _ ?_, ⟨l0, by simpa using hown, .inl ⟨rfl, rfl, rfl⟩⟩, Keep.refl _ _ _, hl0, by simp [MemIn], by simp, by simp⟩
        have hf : ∀ q, (Builtin.firstCells q 0 (.slice oa 0 cp)).run P w = .ok #[] w := fun q => by
          cases oa with
          | none => simp [Builtin.firstCells]
          | some a => simp [Builtin.firstCells, loadCells, loadCellsFrom]
        rcases hown with ⟨rfl, rfl, _⟩ | ⟨r, cap, c, rfl, rfl, hnc, _⟩
        · simp [Builtin.append_, run_underlying hT, sizeOf, typeInfo, hi, Builtin.lenOf, hf]
        · simp [Builtin.append_, run_underlying hT, sizeOf, typeInfo, hi, Builtin.lenOf, hf, hnc, storeCells]
      · have hrin : RIn w ⟨b, c, t⟩ := by
          rcases hB _ hbB with h2 | h2
          · exact hG _ h2
          · exact (hm _ h2).read
        have hnews : ∀ j u, news[j]? = some u → w.cell? ((⟨b, o, none⟩ : Addr).add j) = some u := fun j u hj => by
          have hlt : o + j < c.size := (Array.getElem?_eq_some_iff.1 (hnc j u hj)).1
          rw [add_off, hrin.2 (o + j) hlt]
          exact hnc j u hj
        rcases hown with ⟨rfl, rfl, rfl, rfl⟩ | ⟨r, cap, cur, rfl, rfl, hncap, hcm, hcs, hxl, htake⟩
        · by_cases hk : k = 0
          · subst hk
            have hn0 : news = [] := List.eq_nil_of_length_eq_zero (by simpa using hnl)
            subst hn0
            refine ⟨nilS, [], [], w, hrun _ _ ?_, ⟨[], .inl ⟨rfl, rfl, rfl, rfl⟩, .inl ⟨rfl, rfl, rfl⟩⟩, Keep.refl _ _ _, by simp [MemIn], by simp [MemIn], by simp, by simp⟩
            simp [Builtin.append_, run_underlying hT, sizeOf, typeInfo, hi, Builtin.lenOf, Builtin.firstCells, loadCells, loadCellsFrom]
          · have hr := run_append_nil (P := P) w T ty e i zv hT hi hz' ⟨b, o, none⟩ k cp news (by rw [hsz]; exact hnl) hnews (by omega) (by omega) (by rw [hby]; have := hbytes; simp only [Nat.zero_add] at this; omega)
            obtain ⟨c', hc', ho'⟩ := grown 0 w rfl
            simp only [Nat.zero_add, List.nil_append, Array.empty_append] at hc' ho' hr ⊢
            rw [← hc'] at hr
            exact ⟨_, [], _, _, hrun _ _ hr, ⟨_, ho', .inr ⟨rfl, rfl⟩⟩, post_drew w c' e [] (by simp [MemIn])⟩
        · have hg : In w ⟨r, cur, e⟩ := hl0 ⟨r, cur, e⟩ (by simp)
          by_cases hroom : n + k ≤ cap
          · have hfit : n * i.size + news.length ≤ cur.size := by rw [hsz, hnl, hcs, ← Nat.add_mul]; exact Nat.mul_le_mul_right _ hroom
            have hr := run_append_in (P := P) w T ty e i hT hi r n cap cur hg ⟨b, o, none⟩ k cp news (by rw [hsz]; exact hnl) hnews h1 hroom hfit
            obtain ⟨cw, hcw⟩ : ∃ cw, cw = (cur.toList.take (n * i.size) ++ news ++ cur.toList.drop (n * i.size + news.length)).toArray := ⟨_, rfl⟩
            rw [← hcw] at hr
            have hcz : cw.size = cur.size := by
              rw [hcw]
              simp only [List.size_toArray, List.length_append, List.length_take, List.length_drop, Array.length_toList]
              rw [hsz] at hfit ⊢
              omega
            refine ⟨_, [⟨r, cw, e⟩], [], _, hrun _ _ hr, ⟨[⟨r, cw, e⟩], .inr ⟨r, cap, cw, rfl, rfl, hroom, hcm, ?_, hlen, ?_⟩, .inl ⟨rfl, rfl, rfl⟩⟩, post_row (hl0 ⟨r, cur, e⟩ (by simp)) hcz⟩
            · exact hcz.trans hcs
            · rw [hcw, hsz, htake, ← hlen]
              exact List.take_left
          · have holds : ∀ j u, xs[j]? = some u → w.cell? ((⟨r, 0, none⟩ : Addr).add j) = some u := fun j u hj => by
              rw [← htake, List.getElem?_take] at hj
              split at hj
              · have hin : In w ⟨r, cur, e⟩ := hl0 ⟨r, cur, e⟩ (by simp)
                rw [add_off, Nat.zero_add]
                have := In.cell hin j
                simp only at this
                rw [this]; simpa using hj
              · cases hj
            have hr := run_append_grow (P := P) w T ty e i zv hT hi hz' ⟨r, 0, none⟩ n cap xs (by rw [hsz]; exact hxl) holds ⟨b, o, none⟩ k cp news (by rw [hsz]; exact hnl) hnews (by omega) (by omega) (by rw [hby]; exact growslice_fits (by omega) hbytes)
            obtain ⟨c', hc', ho'⟩ := grown cap w rfl
            rw [← hc'] at hr
            exact ⟨_, [⟨r, cur, e⟩], _, _, hrun _ _ hr, ⟨_, ho', .inr ⟨rfl, rfl⟩⟩, post_drew w c' e [⟨r, cur, e⟩] hl0⟩
  · rintro v' r1 nw ⟨l', ho', ⟨rfl, rfl, h3⟩ | ⟨rfl, rfl⟩⟩ hfr
    · exact (h v' r1 ho').1 h3
    · exact (h v' nw ho').2 hfr

/-- A call that makes a slice. -/
def callMk (R : Reg) : Bool := R.c == 4 || R.c == 5
theorem st_callN (hR : callMk R = true) {fo : Operand} {f : FuncId} {args : Array Operand} {tys : Array TypeId} {vs cap : Array Value} {g' : Mem} {S : Value → Mem → Prop} (hf : a.eval fo = .func (.func f) #[] cap) (hargs : args.map a.eval = vs) (he : enters P f = true)
    (hF : Fx P g' [] f (vs ++ cap) (fun v l1 nw => l1 = [] ∧ S v nw)) (hS : ∃ v nw, S v nw ∧ FreshM m nw) (hg : ∀ w, MemR G w → vis R m w → MemR g' w)
    (h : ∀ v nw, S v nw → FreshM m nw → opsM P G R ops K rest (a.put d v) (m ++ nw)) : opsM P G R ops K (⟨d, .call ⟨.value fo, args, tys⟩, ty, pos, aft, none⟩ :: rest) a m := by
  by_cases h4 : R.c = 4
  · exact st_callM h4 hf hargs he hF hS hg h
  · have h5 : R.c = 5 := by
      unfold callMk at hR
      simp only [Bool.or_eq_true, beq_iff_eq] at hR
      exact hR.resolve_left h4
    obtain ⟨v0, n0, h0, h1⟩ := hS
    refine st_callX h5 hf hargs he hF (l0 := []) (lr := m) (by simp) ⟨v0, [], n0, ⟨rfl, h0⟩, h1⟩ ?_ (fun w hG hm => hg w hG (fun z hz _ => hm z hz)) (by simp) (by simp) ?_
    · rintro v l1 nw ⟨rfl, _⟩; rfl
    · rintro v l1 nw ⟨rfl, hs⟩ hr
      simpa using h v nw hs hr

end Go.Proofs.Ytmnmhmpklknleaa

/-
  The same, over slots and labelled blocks: parts of blocks, fields, structs of two arrays.
-/
namespace Go.Proofs.Ytmnmhmpklknleaa
open Go Go.RowKit
variable {P : Program} {G : Mem} {R : Reg} {ops : Array Oper} {n : Nat} {K : Env → Mm → Prop} {rest : List Oper} {E : Env} {M : Mm} {d : Nat} {ty : TypeId} {pos : String} {aft : Array Edge}
variable {T T' : TypeId} {x y : Operand}

theorem arr_part (k : IntKind) (N o l : Nat) (f : Nat → Nat) (h : o + l ≤ N) : (arr k N f).extract o (o + l) = arr k l (fun t => f (o + t)) := by
  apply Array.ext
  · simp [arr]; omega
  · intro i h1 h2
    simp [arr]
theorem e_loadS {b i o l N : Nat} {k : IntKind} {f : Nat → Nat} {t : TypeId} {td : TypeDesc} (hT : P.underlying T = some td) (hn : rowLike td = true) (hs : (P.info? T).map (·.size) = some l)
    (hx : rd E x = some (.pointer (some ⟨b, o, none⟩))) (hm : lkM M i = some ⟨b, arr k N f, t⟩) (ho : o + l ≤ N) (hd : Nat.blt d n = true) (hX : ∃ js, okX M i js R.X) (h : OpsE P G R ops n K rest ((d, .agg (arr k l (fun t => f (o + t)))) :: E) M) :
    OpsE P G R ops n K (⟨some d, .load T x, ty, pos, aft, none⟩ :: rest) E M :=
  fun _ _ ha hM => by
    obtain ⟨j, hj⟩ := hM.at hm
    exact st_loadS hT hn hs (ha.rd hx) hj (by obtain ⟨js, hjs⟩ := hX; exact okX_not hM hm hjs) (by rw [arr_size]; exact ho) (by rw [arr_part k N o l f ho]; exact h _ _ (ha.put hd _) hM)
theorem e_field {b o f sz : Nat} {fs : Array Field} {fd : Field} (hT : P.underlying T = some (.struct fs)) (hf : fs[f]? = some fd) (hs : (P.info? fd.type).map (·.size) = some (sz + 1)) (hx : rd E x = some (.pointer (some ⟨b, o, none⟩)))
    (hd : Nat.blt d n = true) (h : OpsE P G R ops n K rest ((d, .pointer (some ⟨b, o + fd.offset, none⟩)) :: E) M) : OpsE P G R ops n K (⟨some d, .fieldAddr T x f, ty, pos, aft, none⟩ :: rest) E M :=
  fun _ _ ha hM => st_field hT hf hs (ha.rd hx) (h _ _ (ha.put hd _) hM)
theorem e_buildS {z : Value} {fs : Array Field} {places : Array (Nat × Nat)} {parts : Array (Nat × Operand)} {pv : List (Nat × Value)} (c : Array Value) (hz : (P.info? T).bind (·.zero) = some z) (hT : P.underlying T = some (.struct fs))
    (hpl : ∀ w, (fs.mapM fun f => do pure (f.offset, ← sizeOf f.type) : Sem (Array (Nat × Nat))).run P w = .ok places w)
    (hp : rdp E parts.toList = some pv) (hf : Instr.fill (places[·]?) z.cells pv = some c) (hd : Nat.blt d n = true)
    (h : OpsE P G R ops n K rest ((d, .agg c) :: E) M) : OpsE P G R ops n K (⟨some d, .build T parts, ty, pos, aft, none⟩ :: rest) E M :=
  fun _ _ ha hM => st_buildS hz hT hpl (ha.rdp hp) hf (h _ _ (ha.put hd _) hM)

/-! ### Two numbers' digits, one behind the other -/
def pt2 (x z : Nat) : Nat → Nat := fun t => if t < 16 then d16 x t else d16 z (t - 16)
theorem pt2_lo (x z : Nat) : arr .u64 16 (fun t => pt2 x z (0 + t)) = arr .u64 16 (d16 x) := arr_congr fun j hj => by
  unfold pt2; rw [Nat.zero_add, if_pos hj]
theorem pt2_hi (x z : Nat) : arr .u64 16 (fun t => pt2 x z (16 + t)) = arr .u64 16 (d16 z) := arr_congr fun j hj => by
  unfold pt2; rw [if_neg (by omega), Nat.add_sub_cancel_left]
theorem fill2 (x z : Nat) : Instr.fill ((#[(0, 16), (16, 16)] : Array (Nat × Nat))[·]?) (arr .u64 32 fun _ => 0) [(0, dg x), (1, dg z)] = some (arr .u64 32 (pt2 x z)) := by kernel_rfl
theorem fill_x (x : Nat) : Instr.fill ((#[(0, 16), (16, 16)] : Array (Nat × Nat))[·]?) (arr .u64 32 fun _ => 0) [(0, dg x)] = some (arr .u64 32 (fun t => if t < 16 then d16 x t else 0)) := by kernel_rfl

end Go.Proofs.Ytmnmhmpklknleaa

/-
  The same, over slots and labelled blocks: bytes, exclusive or, arrays of arrays.
-/
namespace Go.Proofs.Ytmnmhmpklknleaa
open Go Go.RowKit
variable {P : Program} {G : Mem} {R : Reg} {ops : Array Oper} {n : Nat} {K : Env → Mm → Prop} {rest : List Oper} {E : Env} {M : Mm} {d : Nat} {ty : TypeId} {pos : String} {aft : Array Edge}
variable {T T' : TypeId} {x y : Operand}

theorem e_xor_u {p q : Nat} (hx : rd E x = some (u p)) (hy : rd E y = some (u q)) (hd : Nat.blt d n = true) (h : OpsE P G R ops n K rest ((d, u ((p ^^^ q) % 18446744073709551616)) :: E) M) :
    OpsE P G R ops n K (⟨some d, .binOp .xor T x y T', ty, pos, aft, none⟩ :: rest) E M := fun _ _ ha hM => st_xor_u (ha.rd hx) (ha.rd hy) (h _ _ (ha.put hd _) hM)
theorem e_and_b {p q : Nat} (hx : rd E x = some (by8 p)) (hy : rd E y = some (by8 q)) (hd : Nat.blt d n = true) (h : OpsE P G R ops n K rest ((d, by8 ((p &&& q) % 256)) :: E) M) :
    OpsE P G R ops n K (⟨some d, .binOp .and T x y T', ty, pos, aft, none⟩ :: rest) E M := fun _ _ ha hM => st_and_b (ha.rd hx) (ha.rd hy) (h _ _ (ha.put hd _) hM)
theorem e_or_b {p q : Nat} (hx : rd E x = some (by8 p)) (hy : rd E y = some (by8 q)) (hd : Nat.blt d n = true) (h : OpsE P G R ops n K rest ((d, by8 ((p ||| q) % 256)) :: E) M) :
    OpsE P G R ops n K (⟨some d, .binOp .or T x y T', ty, pos, aft, none⟩ :: rest) E M := fun _ _ ha hM => st_or_b (ha.rd hx) (ha.rd hy) (h _ _ (ha.put hd _) hM)
theorem e_xor_b {p q : Nat} (hx : rd E x = some (by8 p)) (hy : rd E y = some (by8 q)) (hd : Nat.blt d n = true) (h : OpsE P G R ops n K rest ((d, by8 ((p ^^^ q) % 256)) :: E) M) :
    OpsE P G R ops n K (⟨some d, .binOp .xor T x y T', ty, pos, aft, none⟩ :: rest) E M := fun _ _ ha hM => st_xor_b (ha.rd hx) (ha.rd hy) (h _ _ (ha.put hd _) hM)
theorem e_add_b {p q : Nat} (hx : rd E x = some (by8 p)) (hy : rd E y = some (by8 q)) (hd : Nat.blt d n = true) (h : OpsE P G R ops n K rest ((d, by8 ((p + q) % 256)) :: E) M) :
    OpsE P G R ops n K (⟨some d, .binOp .add T x y T', ty, pos, aft, none⟩ :: rest) E M := fun _ _ ha hM => st_add_b (ha.rd hx) (ha.rd hy) (h _ _ (ha.put hd _) hM)
theorem e_sub_b {p q : Nat} (hx : rd E x = some (by8 p)) (hy : rd E y = some (by8 q)) (hd : Nat.blt d n = true) (hq : q ≤ 256) (h : OpsE P G R ops n K rest ((d, by8 ((p + 256 - q) % 256)) :: E) M) :
    OpsE P G R ops n K (⟨some d, .binOp .sub T x y T', ty, pos, aft, none⟩ :: rest) E M := fun _ _ ha hM => st_sub_b (ha.rd hx) (ha.rd hy) hq (h _ _ (ha.put hd _) hM)
theorem e_rem_b {p q : Nat} (hx : rd E x = some (by8 p)) (hy : rd E y = some (by8 q)) (hd : Nat.blt d n = true) (hq : 0 < q) (h : OpsE P G R ops n K rest ((d, by8 (p % q)) :: E) M) :
    OpsE P G R ops n K (⟨some d, .binOp .rem T x y T', ty, pos, aft, none⟩ :: rest) E M := fun _ _ ha hM => st_rem_b (ha.rd hx) (ha.rd hy) hq (h _ _ (ha.put hd _) hM)
theorem e_shr_b {k : IntKind} {p s : Nat} (hx : rd E x = some (by8 p)) (hy : rd E y = some (.int k (s : Int))) (hd : Nat.blt d n = true) (hs : s ≤ 8) (h : OpsE P G R ops n K rest ((d, by8 (p / 2 ^ s)) :: E) M) :
    OpsE P G R ops n K (⟨some d, .binOp .shr T x y T', ty, pos, aft, none⟩ :: rest) E M := fun _ _ ha hM => st_shr_b (ha.rd hx) (ha.rd hy) hs (h _ _ (ha.put hd _) hM)

theorem e_indexZ {b o j l z : Nat} {k : IntKind} {e : TypeId} (hT : P.underlying T = some (.array l e)) (hs : (P.info? e).map (·.size) = some (z + 1)) (hx : rd E x = some (.pointer (some ⟨b, o, none⟩))) (hy : rd E y = some (.int k (j : Int))) (hj : j < l)
    (hd : Nat.blt d n = true) (h : OpsE P G R ops n K rest ((d, .pointer (some ⟨b, o + j * (z + 1), none⟩)) :: E) M) : OpsE P G R ops n K (⟨some d, .indexAddr T x y, ty, pos, aft, none⟩ :: rest) E M :=
  fun _ _ ha hM => st_indexZ hT hs (ha.rd hx) (ha.rd hy) hj (h _ _ (ha.put hd _) hM)
theorem e_at (o' : Nat) {b o j l z : Nat} {k : IntKind} {e : TypeId} (hT : P.underlying T = some (.array l e)) (hs : (P.info? e).map (·.size) = some (z + 1)) (hx : rd E x = some (.pointer (some ⟨b, o, none⟩))) (hy : rd E y = some (.int k (j : Int))) (hj : j < l) (ho : o + j * (z + 1) = o')
    (hd : Nat.blt d n = true) (h : OpsE P G R ops n K rest ((d, .pointer (some ⟨b, o', none⟩)) :: E) M) : OpsE P G R ops n K (⟨some d, .indexAddr T x y, ty, pos, aft, none⟩ :: rest) E M :=
  fun _ _ ha hM => st_indexZ hT hs (ha.rd hx) (ha.rd hy) hj (by rw [ho]; exact h _ _ (ha.put hd _) hM)
theorem e_fld (o' : Nat) {b o f sz : Nat} {fs : Array Field} {fd : Field} (hT : P.underlying T = some (.struct fs)) (hf : fs[f]? = some fd) (hs : (P.info? fd.type).map (·.size) = some (sz + 1)) (hx : rd E x = some (.pointer (some ⟨b, o, none⟩)))
    (ho : o + fd.offset = o') (hd : Nat.blt d n = true) (h : OpsE P G R ops n K rest ((d, .pointer (some ⟨b, o', none⟩)) :: E) M) : OpsE P G R ops n K (⟨some d, .fieldAddr T x f, ty, pos, aft, none⟩ :: rest) E M :=
  fun _ _ ha hM => st_field hT hf hs (ha.rd hx) (by rw [ho]; exact h _ _ (ha.put hd _) hM)
theorem e_idxZ {j l z N : Nat} {k k2 : IntKind} {e : TypeId} {td : TypeDesc} {f : Nat → Nat} (hT : P.underlying T = some (.array l e)) (he : P.underlying e = some td) (hn : rowLike td = true) (hs : (P.info? e).map (·.size) = some z) (hx : rd E x = some (.agg (arr k N f))) (hy : rd E y = some (.int k2 (j : Int))) (hj : j < l)
    (ho : j * z + z ≤ N) (hd : Nat.blt d n = true) (h : OpsE P G R ops n K rest ((d, .agg (arr k z (fun t => f (j * z + t)))) :: E) M) : OpsE P G R ops n K (⟨some d, .index T x y, ty, pos, aft, none⟩ :: rest) E M :=
  fun _ _ ha hM => st_idxZ hT he hn hs (ha.rd hx) (ha.rd hy) hj (by rw [arr_part k N (j * z) z f ho]; exact h _ _ (ha.put hd _) hM)
theorem e_buildZ {zv : Value} {l z : Nat} {e : TypeId} {parts : Array (Nat × Operand)} {pv : List (Nat × Value)} (c : Array Value) (hz : (P.info? T).bind (·.zero) = some zv) (hT : P.underlying T = some (.array l e)) (hs : (P.info? e).map (·.size) = some z)
    (hp : rdp E parts.toList = some pv) (hf : Instr.fill (fun i => some (i * z, z)) zv.cells pv = some c) (hd : Nat.blt d n = true)
    (h : OpsE P G R ops n K rest ((d, .agg c) :: E) M) : OpsE P G R ops n K (⟨some d, .build T parts, ty, pos, aft, none⟩ :: rest) E M :=
  fun _ _ ha hM => st_buildZ hz hT hs (ha.rdp hp) hf (h _ _ (ha.put hd _) hM)

end Go.Proofs.Ytmnmhmpklknleaa

/-
  The same, over slots and labelled blocks: slices, strings; calls that make blocks or write.
-/
namespace Go.Proofs.Ytmnmhmpklknleaa
open Go Go.RowKit
variable {P : Program} {G : Mem} {R : Reg} {ops : Array Oper} {n : Nat} {K : Env → Mm → Prop} {rest : List Oper} {E : Env} {M : Mm} {d : Nat} {ty : TypeId} {pos : String} {aft : Array Edge}
variable {T T' : TypeId} {x y : Operand}

theorem e_rem_z {p q : Int} (hx : rd E x = some (.int .i64 p)) (hy : rd E y = some (.int .i64 q)) (hd : Nat.blt d n = true) (hq : q ≠ 0) (h : OpsE P G R ops n K rest ((d, .int .i64 (p.tmod q)) :: E) M) :
    OpsE P G R ops n K (⟨some d, .binOp .rem T x y T', ty, pos, aft, none⟩ :: rest) E M := fun _ _ ha hM => st_rem_z (ha.rd hx) (ha.rd hy) hq (h _ _ (ha.put hd _) hM)
theorem e_add_z {p q : Int} (hx : rd E x = some (.int .i64 p)) (hy : rd E y = some (.int .i64 q)) (hd : Nat.blt d n = true) (h0 : -9223372036854775808 ≤ p + q) (h1 : p + q < 9223372036854775808) (h : OpsE P G R ops n K rest ((d, .int .i64 (p + q)) :: E) M) :
    OpsE P G R ops n K (⟨some d, .binOp .add T x y T', ty, pos, aft, none⟩ :: rest) E M := fun _ _ ha hM => st_add_z (ha.rd hx) (ha.rd hy) h0 h1 (h _ _ (ha.put hd _) hM)
theorem e_mul_z {p q : Int} (hx : rd E x = some (.int .i64 p)) (hy : rd E y = some (.int .i64 q)) (hd : Nat.blt d n = true) (h0 : -9223372036854775808 ≤ p * q) (h1 : p * q < 9223372036854775808) (h : OpsE P G R ops n K rest ((d, .int .i64 (p * q)) :: E) M) :
    OpsE P G R ops n K (⟨some d, .binOp .mul T x y T', ty, pos, aft, none⟩ :: rest) E M := fun _ _ ha hM => st_mul_z (ha.rd hx) (ha.rd hy) h0 h1 (h _ _ (ha.put hd _) hM)
theorem e_buildSl (i : Nat) {zv : Value} {len z : Nat} {e : TypeId} {parts : Array (Nat × Operand)} {pv : List (Nat × Value)} (c : Array Value) (hT : P.underlying T = some (.slice e)) (hs : (P.info? e).map (·.size) = some z) (hz : (P.info? e).bind (·.zero) = some zv)
    (h0 : len * z ≠ 0) (h1 : len * z ≤ 16777216) (hp : rdp E parts.toList = some pv) (hf : Instr.fill (fun i => some (i * z, z)) ((Array.range (len * z)).map (zv.cells[· % zv.cells.size]!)) pv = some c) (hd : Nat.blt d n = true)
    (h : ∀ r, OpsE P G R ops n K rest ((d, .slice (some ⟨r, 0, none⟩) len len) :: E) ((i, some ⟨r, c, e⟩) :: M)) : OpsE P G R ops n K (⟨some d, .buildSlice T len parts, ty, pos, aft, none⟩ :: rest) E M :=
  fun _ _ ha hM => st_buildSl hT hs hz h0 h1 (ha.rdp hp) hf fun r hr => h r _ _ (ha.put hd _) (hM.alloc i ⟨r, c, e⟩ hr)
theorem e_atSl (o' : Nat) {b o j len cap z : Nat} {k : IntKind} {e : TypeId} (hT : P.underlying T = some (.slice e)) (hs : (P.info? e).map (·.size) = some (z + 1)) (hx : rd E x = some (.slice (some ⟨b, o, none⟩) len cap)) (hy : rd E y = some (.int k (j : Int))) (hj : j < len) (ho : o + j * (z + 1) = o')
    (hd : Nat.blt d n = true) (h : OpsE P G R ops n K rest ((d, .pointer (some ⟨b, o', none⟩)) :: E) M) : OpsE P G R ops n K (⟨some d, .indexAddr T x y, ty, pos, aft, none⟩ :: rest) E M :=
  fun _ _ ha hM => st_indexSl hT hs (ha.rd hx) (ha.rd hy) hj (by rw [ho]; exact h _ _ (ha.put hd _) hM)
/-- An operand that is told, or not. -/
def rdo (E : Env) : Option Operand → Option (Option Value)
  | none => some none
  | some x => (rd E x).map some
theorem Fits.rdo {a : Act} (h : Fits n E a) {o : Option Operand} {v : Option Value} (ho : Ytmnmhmpklknleaa.rdo E o = some v) : o.map a.eval = v := by
  cases o with
  | none => simpa [Ytmnmhmpklknleaa.rdo] using ho
  | some x =>
    cases hx : Ytmnmhmpklknleaa.rd E x with
    | none => simp [Ytmnmhmpklknleaa.rdo, hx] at ho
    | some u => simp [Ytmnmhmpklknleaa.rdo, hx] at ho; subst ho; simp [h.rd hx]
theorem e_sliceA (l h : Nat) {b o N z : Nat} {e : TypeId} {lo hi : Option Operand} {vl vh : Option Value} (hT : P.underlying T = some (.array N e)) (hs : (P.info? e).map (·.size) = some z) (hx : rd E x = some (.pointer (some ⟨b, o, none⟩))) (hlo : rdo E lo = some vl) (hhi : rdo E hi = some vh) (hl : isB vl l 0) (hh : isB vh h N)
    (h1 : l ≤ h) (h2 : h ≤ N) (h3 : l < N) (hd : Nat.blt d n = true) (hK : OpsE P G R ops n K rest ((d, .slice (some ⟨b, o + l * z, none⟩) (h - l) (N - l)) :: E) M) : OpsE P G R ops n K (⟨some d, .slice T x lo hi none, ty, pos, aft, none⟩ :: rest) E M :=
  fun _ _ ha hM => st_sliceA hT hs (ha.rd hx) (by rw [ha.rdo hlo]; exact hl) (by rw [ha.rdo hhi]; exact hh) h1 h2 h3 (hK _ _ (ha.put hd _) hM)
theorem e_sliceS (l h : Nat) {b o len cap z : Nat} {e : TypeId} {lo hi : Option Operand} {vl vh : Option Value} (hT : P.underlying T = some (.slice e)) (hs : (P.info? e).map (·.size) = some z) (hx : rd E x = some (.slice (some ⟨b, o, none⟩) len cap)) (hlo : rdo E lo = some vl) (hhi : rdo E hi = some vh) (hl : isB vl l 0) (hh : isB vh h len)
    (h1 : l ≤ h) (h2 : h ≤ cap) (hd : Nat.blt d n = true) (hK : OpsE P G R ops n K rest ((d, .slice (some (if cap = l then ⟨b, o, none⟩ else ⟨b, o + l * z, none⟩)) (h - l) (cap - l)) :: E) M) : OpsE P G R ops n K (⟨some d, .slice T x lo hi none, ty, pos, aft, none⟩ :: rest) E M :=
  fun _ _ ha hM => st_sliceS hT hs (ha.rd hx) (by rw [ha.rdo hlo]; exact hl) (by rw [ha.rdo hhi]; exact hh) h1 h2 (hK _ _ (ha.put hd _) hM)
theorem e_conv_str {b o N len cap i : Nat} {e : TypeId} {f : Nat → Nat} {t : TypeId} (hs : P.underlying T = some (.slice e)) (he : P.underlying e = some (.int .u8)) (ht : P.underlying T' = some .string) (hx : rd E x = some (.slice (some ⟨b, o, none⟩) len cap))
    (hm : lkM M i = some ⟨b, arr .u8 N f, t⟩) (ho : o + len ≤ N) (hd : Nat.blt d n = true) (hq : kconv R T T' = 1) (hX : ∃ js, okX M i js R.X) (h : OpsE P G R ops n K rest ((d, .string (strOfNums ((List.range len).map fun j => (f (o + j) : Int)))) :: E) M) : OpsE P G R ops n K (⟨some d, .convert T T' x, ty, pos, aft, none⟩ :: rest) E M :=
  fun _ _ ha hM => by
    obtain ⟨k, hk⟩ := hM.at hm
    obtain ⟨js, hjs⟩ := hX
    exact st_conv_str hq hs he ht (ha.rd hx) hk (okX_not hM hm hjs) ho (h _ _ (ha.put hd _) hM)
theorem e_eqS {p q : ByteArray} (hx : rd E x = some (.string p)) (hy : rd E y = some (.string q)) (hd : Nat.blt d n = true) (h : OpsE P G R ops n K rest ((d, .bool (p.toList == q.toList)) :: E) M) :
    OpsE P G R ops n K (⟨some d, .binOp .eql T x y T', ty, pos, aft, none⟩ :: rest) E M := fun _ _ ha hM => st_eqS (ha.rd hx) (ha.rd hy) (h _ _ (ha.put hd _) hM)

end Go.Proofs.Ytmnmhmpklknleaa

/-
  The same, over slots and labelled blocks: words of 32 bits, strings, slices; calls that make slices or write.
-/
namespace Go.Proofs.Ytmnmhmpklknleaa
open Go Go.RowKit
section
variable {P : Program} {G : Mem} {R : Reg} {ops : Array Oper} {n : Nat} {K : Env → Mm → Prop} {rest : List Oper} {E : Env} {M : Mm} {d : Nat} {ty : TypeId} {pos : String} {aft : Array Edge}
variable {T T' : TypeId} {x y : Operand}

theorem e_add_w {p q : Nat} (hx : rd E x = some (uw p)) (hy : rd E y = some (uw q)) (hd : Nat.blt d n = true) (h : OpsE P G R ops n K rest ((d, uw ((p + q) % 4294967296)) :: E) M) :
    OpsE P G R ops n K (⟨some d, .binOp .add T x y T', ty, pos, aft, none⟩ :: rest) E M := fun _ _ ha hM => st_add_w (ha.rd hx) (ha.rd hy) (h _ _ (ha.put hd _) hM)
theorem e_sub_w {p q : Nat} (hx : rd E x = some (uw p)) (hy : rd E y = some (uw q)) (hd : Nat.blt d n = true) (hq : q ≤ 4294967296) (h : OpsE P G R ops n K rest ((d, uw ((p + 4294967296 - q) % 4294967296)) :: E) M) :
    OpsE P G R ops n K (⟨some d, .binOp .sub T x y T', ty, pos, aft, none⟩ :: rest) E M := fun _ _ ha hM => st_sub_w (ha.rd hx) (ha.rd hy) hq (h _ _ (ha.put hd _) hM)
theorem e_and_w {p q : Nat} (hx : rd E x = some (uw p)) (hy : rd E y = some (uw q)) (hd : Nat.blt d n = true) (h : OpsE P G R ops n K rest ((d, uw ((p &&& q) % 4294967296)) :: E) M) :
    OpsE P G R ops n K (⟨some d, .binOp .and T x y T', ty, pos, aft, none⟩ :: rest) E M := fun _ _ ha hM => st_and_w (ha.rd hx) (ha.rd hy) (h _ _ (ha.put hd _) hM)
theorem e_or_w {p q : Nat} (hx : rd E x = some (uw p)) (hy : rd E y = some (uw q)) (hd : Nat.blt d n = true) (h : OpsE P G R ops n K rest ((d, uw ((p ||| q) % 4294967296)) :: E) M) :
    OpsE P G R ops n K (⟨some d, .binOp .or T x y T', ty, pos, aft, none⟩ :: rest) E M := fun _ _ ha hM => st_or_w (ha.rd hx) (ha.rd hy) (h _ _ (ha.put hd _) hM)
theorem e_xor_w {p q : Nat} (hx : rd E x = some (uw p)) (hy : rd E y = some (uw q)) (hd : Nat.blt d n = true) (h : OpsE P G R ops n K rest ((d, uw ((p ^^^ q) % 4294967296)) :: E) M) :
    OpsE P G R ops n K (⟨some d, .binOp .xor T x y T', ty, pos, aft, none⟩ :: rest) E M := fun _ _ ha hM => st_xor_w (ha.rd hx) (ha.rd hy) (h _ _ (ha.put hd _) hM)
theorem e_shl_w {k : IntKind} {p s : Nat} (hx : rd E x = some (uw p)) (hy : rd E y = some (.int k (s : Int))) (hd : Nat.blt d n = true) (hs : s ≤ 32) (h : OpsE P G R ops n K rest ((d, uw ((p * 2 ^ s) % 4294967296)) :: E) M) :
    OpsE P G R ops n K (⟨some d, .binOp .shl T x y T', ty, pos, aft, none⟩ :: rest) E M := fun _ _ ha hM => st_shl_w (ha.rd hx) (ha.rd hy) hs (h _ _ (ha.put hd _) hM)
theorem e_shr_w {k : IntKind} {p s : Nat} (hx : rd E x = some (uw p)) (hy : rd E y = some (.int k (s : Int))) (hd : Nat.blt d n = true) (hs : s ≤ 32) (h : OpsE P G R ops n K rest ((d, uw (p / 2 ^ s)) :: E) M) :
    OpsE P G R ops n K (⟨some d, .binOp .shr T x y T', ty, pos, aft, none⟩ :: rest) E M := fun _ _ ha hM => st_shr_w (ha.rd hx) (ha.rd hy) hs (h _ _ (ha.put hd _) hM)
theorem e_conv_w {k : IntKind} {dk : TypeDesc} {p : Nat} (hs : P.underlying T = some dk) (ht : P.underlying T' = some (.int .u32)) (hx : rd E x = some (.int k (p : Int))) (hd : Nat.blt d n = true) (hv : kconv R T T' = 1)
    (h : OpsE P G R ops n K rest ((d, uw (p % 4294967296)) :: E) M) : OpsE P G R ops n K (⟨some d, .convert T T' x, ty, pos, aft, none⟩ :: rest) E M := fun _ _ ha hM => st_conv_w hv hs ht (ha.rd hx) (h _ _ (ha.put hd _) hM)
theorem e_conv_i {k : IntKind} {dk : TypeDesc} {p : Nat} (hs : P.underlying T = some dk) (ht : P.underlying T' = some (.int .i64)) (hx : rd E x = some (.int k (p : Int))) (hd : Nat.blt d n = true) (hv : kconv R T T' = 1) (hp : p < 9223372036854775808)
    (h : OpsE P G R ops n K rest ((d, ii p) :: E) M) : OpsE P G R ops n K (⟨some d, .convert T T' x, ty, pos, aft, none⟩ :: rest) E M := fun _ _ ha hM => st_conv_i hv hs ht (ha.rd hx) hp (h _ _ (ha.put hd _) hM)
theorem e_conv_u8z {k : IntKind} {dk : TypeDesc} {z : Int} (hs : P.underlying T = some dk) (ht : P.underlying T' = some (.int .u8)) (hx : rd E x = some (.int k z)) (hd : Nat.blt d n = true) (hv : kconv R T T' = 1)
    (h : OpsE P G R ops n K rest ((d, by8 (z % 256).toNat) :: E) M) : OpsE P G R ops n K (⟨some d, .convert T T' x, ty, pos, aft, none⟩ :: rest) E M := fun _ _ ha hM => st_conv_u8z hv hs ht (ha.rd hx) (h _ _ (ha.put hd _) hM)

/-! ### Strings -/
theorem e_catS {l k : List Nat} (hx : rd E x = some (sv l)) (hy : rd E y = some (sv k)) (hd : Nat.blt d n = true) (hl : l.length + k.length ≤ 9223372036854775807) (h : OpsE P G R ops n K rest ((d, sv (l ++ k)) :: E) M) :
    OpsE P G R ops n K (⟨some d, .binOp .add T x y T', ty, pos, aft, none⟩ :: rest) E M := fun _ _ ha hM => st_catS (ha.rd hx) (ha.rd hy) hl (h _ _ (ha.put hd _) hM)
theorem e_sliceStr (i j : Nat) {l : List Nat} {lo hi : Option Operand} {vl vh : Option Value} (hT : P.underlying T = some .string) (hx : rd E x = some (sv l)) (hlo : rdo E lo = some vl) (hhi : rdo E hi = some vh) (hl : isB vl i 0) (hh : isB vh j l.length) (h1 : i ≤ j) (h2 : j ≤ l.length) (hd : Nat.blt d n = true)
    (hK : OpsE P G R ops n K rest ((d, sv ((l.drop i).take (j - i))) :: E) M) : OpsE P G R ops n K (⟨some d, .slice T x lo hi none, ty, pos, aft, none⟩ :: rest) E M :=
  fun _ _ ha hM => st_sliceStr hT (ha.rd hx) (by rw [ha.rdo hlo]; exact hl) (by rw [ha.rdo hhi]; exact hh) h1 h2 (hK _ _ (ha.put hd _) hM)
theorem e_idxStr {l : List Nat} {j b : Nat} {k : IntKind} (hT : P.underlying T = some .string) (hx : rd E x = some (sv l)) (hy : rd E y = some (.int k (j : Int))) (hj : l[j]? = some b) (hb : b < 256) (hd : Nat.blt d n = true)
    (h : OpsE P G R ops n K rest ((d, by8 b) :: E) M) : OpsE P G R ops n K (⟨some d, .index T x y, ty, pos, aft, none⟩ :: rest) E M := fun _ _ ha hM => st_idxStr hT (ha.rd hx) (ha.rd hy) hj hb (h _ _ (ha.put hd _) hM)
theorem e_eqStr {l k : List Nat} (hx : rd E x = some (sv l)) (hy : rd E y = some (sv k)) (hd : Nat.blt d n = true) (hl : ∀ b ∈ l, b < 256) (hk : ∀ b ∈ k, b < 256) (h : OpsE P G R ops n K rest ((d, .bool (decide (l = k))) :: E) M) :
    OpsE P G R ops n K (⟨some d, .binOp .eql T x y T', ty, pos, aft, none⟩ :: rest) E M := fun _ _ ha hM => st_eqStr hl hk (ha.rd hx) (ha.rd hy) (h _ _ (ha.put hd _) hM)
theorem e_lenStr {l : List Nat} (hT : P.underlying T = some .string) (hx : rd E x = some (sv l)) (hd : Nat.blt d n = true) (hR : callOk R = true) (h : OpsE P G R ops n K rest ((d, ii l.length) :: E) M) :
    OpsE P G R ops n K (⟨some d, .call ⟨.builtin .len, #[x], #[T]⟩, ty, pos, aft, none⟩ :: rest) E M := fun _ _ ha hM => st_lenStr hR hT (ha.rd hx) (h _ _ (ha.put hd _) hM)

/-! ### Slices that are read -/
def SeenE (G : Mem) (R : Reg) (M : Mm) (B : Mem) : Prop := ∀ z ∈ B, z ∈ G ∨ ∃ i, lkM M i = some z ∧ ∃ js, okX M i js R.X
theorem SeenE.seen {B : Mem} (h : SeenE G R M B) {m : Mem} (hM : FitsM M m) : Seen G R m B := fun z hz => by
  rcases h z hz with h1 | ⟨i, h1, js, h2⟩
  · exact .inl h1
  · exact .inr ⟨hM.has i z h1, okX_not hM h1 h2⟩
theorem seenG : SeenE G R M G := fun _ hz => .inl hz
theorem seenM (i : Nat) {oz : Option Blk} (hi : lkM M i = oz) (hX : ∃ js, okX M i js R.X) : SeenE G R M oz.toList := fun z hz => by
  have : oz = some z := by simpa using hz
  exact .inr ⟨i, hi.trans this, hX⟩
theorem seen1 (i : Nat) {z : Blk} (hi : lkM M i = some z) (hX : ∃ js, okX M i js R.X) : SeenE G R M [z] := fun q hq => by
  simp at hq; subst hq
  exact .inr ⟨i, hi, hX⟩
theorem e_lenV {e : TypeId} {v : Value} {B : Mem} {z k : Nat} {xs : List Value} (hv : Shows B z v k xs) (hT : P.underlying T = some (.slice e)) (hx : rd E x = some v) (hd : Nat.blt d n = true) (hR : callOk R = true) (h : OpsE P G R ops n K rest ((d, ii k) :: E) M) :
    OpsE P G R ops n K (⟨some d, .call ⟨.builtin .len, #[x], #[T]⟩, ty, pos, aft, none⟩ :: rest) E M := fun _ _ ha hM => st_lenS hR hT (ha.rd hx) hv (h _ _ (ha.put hd _) hM)
theorem e_min {k k' : IntKind} {p q : Nat} (hx : rd E x = some (.int k (p : Int))) (hy : rd E y = some (.int k' (q : Int))) (hd : Nat.blt d n = true) (hR : callOk R = true) (h : OpsE P G R ops n K rest ((d, .int k ((min p q : Nat) : Int)) :: E) M) :
    OpsE P G R ops n K (⟨some d, .call ⟨.builtin .min, #[x, y], #[T, T']⟩, ty, pos, aft, none⟩ :: rest) E M := fun _ _ ha hM => st_min hR (ha.rd hx) (ha.rd hy) (h _ _ (ha.put hd _) hM)
theorem e_atV {e : TypeId} {k : IntKind} {v : Value} {B : Mem} {z l j : Nat} {xs : List Value} (hv : Shows B z v l xs) (hT : P.underlying T = some (.slice e)) (hs : (P.info? e).map (·.size) = some z) (hx : rd E x = some v) (hy : rd E y = some (.int k (j : Int))) (hj : j < l) (hd : Nat.blt d n = true)
    (h : OpsE P G R ops n K rest ((d, slAddr v (j * z)) :: E) M) : OpsE P G R ops n K (⟨some d, .indexAddr T x y, ty, pos, aft, none⟩ :: rest) E M := fun _ _ ha hM => st_atV hT hs (ha.rd hx) (ha.rd hy) hv hj (h _ _ (ha.put hd _) hM)
theorem e_loadV {td : TypeDesc} {v u : Value} {B : Mem} {l j : Nat} {xs : List Value} (hv : Shows B 1 v l xs) (hB : SeenE G R M B) (hT : P.underlying T = some td) (hn : rowLike td = false) (hx : rd E x = some (slAddr v j)) (hj : xs[j]? = some u) (hd : Nat.blt d n = true)
    (h : OpsE P G R ops n K rest ((d, u) :: E) M) : OpsE P G R ops n K (⟨some d, .load T x, ty, pos, aft, none⟩ :: rest) E M := fun _ _ ha hM => st_loadV (hB.seen hM) hT hn (ha.rd hx) hv hj (h _ _ (ha.put hd _) hM)
theorem e_sliceV (i j : Nat) {e : TypeId} {v : Value} {B : Mem} {z l : Nat} {xs : List Value} {lo hi : Option Operand} {vl vh : Option Value} (hv : Shows B z v l xs) (hT : P.underlying T = some (.slice e)) (hs : (P.info? e).map (·.size) = some z) (hx : rd E x = some v) (hlo : rdo E lo = some vl) (hhi : rdo E hi = some vh) (hl : isB vl i 0) (hh : isB vh j l)
    (h1 : i ≤ j) (h2 : j ≤ l) (hd : Nat.blt d n = true) (hK : OpsE P G R ops n K rest ((d, slPart z v i j) :: E) M) : OpsE P G R ops n K (⟨some d, .slice T x lo hi none, ty, pos, aft, none⟩ :: rest) E M :=
  fun _ _ ha hM => st_sliceV hT hs (ha.rd hx) hv (by rw [ha.rdo hlo]; exact hl) (by rw [ha.rdo hhi]; exact hh) h1 h2 (hK _ _ (ha.put hd _) hM)
theorem e_conv_strV {e : TypeId} {v : Value} {B : Mem} {l : List Nat} (hv : Shows B 1 v l.length (l.map by8)) (hB : SeenE G R M B) (hs : P.underlying T = some (.slice e)) (he : P.underlying e = some (.int .u8)) (ht : P.underlying T' = some .string) (hx : rd E x = some v) (hd : Nat.blt d n = true) (hq : kconv R T T' = 1)
    (h : OpsE P G R ops n K rest ((d, sv l) :: E) M) : OpsE P G R ops n K (⟨some d, .convert T T' x, ty, pos, aft, none⟩ :: rest) E M := fun _ _ ha hM => st_conv_strV hq (hB.seen hM) hs he ht (ha.rd hx) hv (h _ _ (ha.put hd _) hM)

/-! ### Makes, writes -/
theorem e_make (i : Nat) {e : TypeId} {kl kc k : IntKind} {l b : Nat} {z : Value} (hT : P.underlying T = some (.slice e)) (hs : (P.info? e).map (·.size) = some 1) (hb : (P.info? e).map (·.bytes) = some b) (hz : (P.info? e).bind (·.zero) = some z) (hzc : z.cells = #[.int k 0])
    (hx : rd E x = some (.int kl (l : Int))) (hy : rd E y = some (.int kc (l : Int))) (hn : b * l ≤ 281474976710656) (h63 : l ≤ 9223372036854775807) (hd : Nat.blt d n = true)
    (h : ∀ r, OpsE P G R ops n K rest ((d, .slice (some ⟨r, 0, none⟩) l l) :: E) ((i, some ⟨r, arr k l (fun _ => 0), e⟩) :: M)) : OpsE P G R ops n K (⟨some d, .makeSlice T x y, ty, pos, aft, none⟩ :: rest) E M :=
  fun _ _ ha hM => st_make hT hs hb hz hzc (ha.rd hx) (ha.rd hy) hn h63 fun r hr => h r _ _ (ha.put hd _) (hM.alloc i ⟨r, _, e⟩ hr)
theorem FitsM.change {m m' : Mem} (hM : FitsM M m) (i : Nat) {oz : Option Blk} (h1 : ∀ j x, j ≠ i → lkM M j = some x → x ∈ m') (h2 : ∀ z, oz = some z → z ∈ m' ∧ ∀ j x, j ≠ i → lkM M j = some x → x.b ≠ z.b) : FitsM ((i, oz) :: M) m' := by
  refine ⟨fun j x hx => ?_, fun j k x z hx hz hne => ?_⟩
  · rw [lkM_cons] at hx
    split at hx
    · exact (h2 x hx).1
    · rename_i hne; exact h1 j x (fun e => hne e.symm) hx
  · rw [lkM_cons] at hx hz
    split at hx
    · split at hz
      · rename_i e1 e2; exact absurd (e1.symm.trans e2) hne
      · rename_i e2; exact fun e => (h2 x hx).2 k z (fun e' => e2 e'.symm) hz e.symm
    · split at hz
      · rename_i e1 _; exact (h2 z hz).2 j x (fun e' => e1 e'.symm) hx
      · exact hM.apart j k x z hx hz hne
theorem FitsM.others {m lr : Mem} (hM : FitsM M m) {i : Nat} {oz : Option Blk} (hi : lkM M i = oz) (hp : List.Perm m (oz.toList ++ lr)) : ∀ j x, j ≠ i → lkM M j = some x → x ∈ lr := fun j x hne hx => by
  have hm := hp.mem_iff.1 (hM.has j x hx)
  rcases List.mem_append.1 hm with h | h
  · have : oz = some x := by simpa using h
    exact absurd rfl (hM.apart j i x x hx (hi.trans this) hne)
  · exact h
theorem FitsM.perm1 {m : Mem} (hM : FitsM M m) {i : Nat} {oz : Option Blk} (hi : lkM M i = oz) : ∃ lr, List.Perm m (oz.toList ++ lr) := by
  cases oz with
  | none => exact ⟨m, by simp⟩
  | some z =>
    obtain ⟨l1, l2, h⟩ := List.append_of_mem (hM.has i z hi)
    exact ⟨l1 ++ l2, by rw [h]; simp⟩
theorem FitsM.same {m lr : Mem} (hM : FitsM M m) {i : Nat} {oz oz' : Option Blk} (hi : lkM M i = oz) (hp : List.Perm m (oz.toList ++ lr)) (hid : oz'.toList.map (·.b) = oz.toList.map (·.b)) : FitsM ((i, oz') :: M) (oz'.toList ++ lr) :=
  hM.change i (fun j x hne hx => List.mem_append_right _ (hM.others hi hp j x hne hx)) fun z hz => ⟨by subst hz; simp, fun j x hne hx => by
    subst hz
    cases oz with
    | none => simp at hid
    | some q =>
      simp at hid
      rw [hid]; exact hM.apart j i x q hx hi hne⟩
theorem FitsM.fresh {m lr : Mem} (hM : FitsM M m) (i : Nat) {oz : Option Blk} {l0 : Mem} (hp : List.Perm m (l0 ++ lr)) (hf : FreshM m oz.toList) : FitsM ((i, oz) :: M) (l0 ++ lr ++ oz.toList) :=
  hM.change i (fun j x _ hx => List.mem_append_left _ (hp.mem_iff.1 (hM.has j x hx))) fun z hz => ⟨by subst hz; simp, fun j x _ hx => hf.2 z (by subst hz; simp) x (hM.has j x hx)⟩
theorem e_copyStr {e : TypeId} {b o N dl cap i : Nat} {f : Nat → Nat} {t : TypeId} {l : List Nat} (hT : P.underlying T = some (.slice e)) (hs : (P.info? e).map (·.size) = some 1) (hx : rd E x = some (.slice (some ⟨b, o, none⟩) dl cap)) (hy : rd E y = some (sv l)) (hl : ∀ q ∈ l, q < 256)
    (hm : lkM M i = some ⟨b, arr .u8 N f, t⟩) (ho : o + dl ≤ N) (hd : Nat.blt d n = true)
    (h : OpsE P G R ops n K rest ((d, ii (min l.length dl)) :: E) ((i, some ⟨b, arr .u8 N (fun j => if o ≤ j ∧ j < o + min l.length dl then l.getD (j - o) 0 else f j), t⟩) :: M)) : OpsE P G R ops n K (⟨some d, .call ⟨.builtin .copy, #[x, y], #[T, T']⟩, ty, pos, aft, none⟩ :: rest) E M :=
  fun _ _ ha hM => by
    obtain ⟨k, hk⟩ := hM.at hm
    exact st_copyStr hT hs (ha.rd hx) (ha.rd hy) hl hk ho fun lr hp => h _ _ (ha.put hd _) (hM.same (oz' := some _) hm (by simpa using hp) rfl)
theorem own_opt {e : TypeId} {z k : Nat} {v : Value} {xs : List Value} {l : Mem} (h : OwnS e z v k xs l) : ∃ oz : Option Blk, l = oz.toList := by
  rcases h with ⟨_, _, _, rfl⟩ | ⟨r, cap, c, _, rfl, _⟩
  · exact ⟨none, rfl⟩
  · exact ⟨some _, rfl⟩
theorem e_append (i : Nat) {e : TypeId} {z l k bytes : Nat} {zv v vy : Value} {xs news : List Value} {oz : Option Blk} {B : Mem} (hown : OwnS e z v l xs oz.toList) (hsrc : Shows B z vy k news) (hi : lkM M i = oz) (hB : SeenE G R M B)
    (hT : P.underlying T = some (.slice e)) (hs : (P.info? e).map (·.size) = some z) (hb : (P.info? e).map (·.bytes) = some bytes) (hz : (P.info? e).bind (·.zero) = some zv) (hzs : zv.cells.size = z)
    (hx : rd E x = some v) (hy : rd E y = some vy) (h1 : ∀ u ∈ news, u.oneCell' = true) (h63 : l + k ≤ maxLen) (hbytes : (l + k) * bytes ≤ 140737488355328) (hd : Nat.blt d n = true)
    (h : ∀ v' (oz' : Option Blk), OwnS e z v' (l + k) (xs ++ news) oz'.toList → OpsE P G R ops n K rest ((d, v') :: E) ((i, oz') :: M)) : OpsE P G R ops n K (⟨some d, .call ⟨.builtin .append, #[x, y], #[T, T]⟩, ty, pos, aft, none⟩ :: rest) E M :=
  fun _ m ha hM => by
    obtain ⟨lr, hp⟩ := hM.perm1 hi
    refine st_append hT hs hb hz hzs (ha.rd hx) (ha.rd hy) hown hp hsrc (fun q hq => ?_) h1 h63 hbytes fun v' l' ho => ?_
    · rcases hB q hq with h2 | ⟨j, h2, _⟩
      · exact .inl h2
      · exact .inr (hM.has j q h2)
    · obtain ⟨oz', rfl⟩ := own_opt ho
      refine ⟨fun hid => ?_, fun hf => ?_⟩
      · simpa using h v' oz' ho _ _ (ha.put hd _) (hM.same hi hp hid)
      · exact h v' oz' ho _ _ (ha.put hd _) (hM.fresh i hp hf)
theorem subM_opt {oz : Option Blk} {i : Nat} (hi : lkM M i = oz) : subM oz.toList M := by
  cases oz with
  | none => trivial
  | some z => exact ⟨⟨i, hi⟩, trivial⟩
theorem subM_app : ∀ {g g' : Mem}, subM g M → subM g' M → subM (g ++ g') M
  | [], _, _, h => h
  | _ :: _, _, ⟨h1, h2⟩, h => ⟨h1, subM_app h2 h⟩
/-- A call that makes a slice, mk of which is its value. -/
theorem e_callN (i : Nat) (mk : Value → Value) {fo : Operand} {f : FuncId} {args : Array Operand} {tys : Array TypeId} {vs cap : List Value} {g' : Mem} {e : TypeId} {z k : Nat} {xs : List Value} (hf : rd E fo = some (.func (.func f) #[] cap.toArray)) (hargs : rdl E args.toList = some vs) (he : enters P f = true) (hg : SeenE G R M g')
    (hF : Fx P g' [] f (vs ++ cap).toArray (fun v l1 nw => l1 = [] ∧ ∃ v', v = mk v' ∧ OwnS e z v' k xs nw)) (hk : k ≤ maxLen) (hkx : xs.length = k * z) (hd : Nat.blt d n = true) (hR : callMk R = true)
    (h : ∀ v' (oz : Option Blk), OwnS e z v' k xs oz.toList → OpsE P G R ops n K rest ((d, mk v') :: E) ((i, oz) :: M)) : OpsE P G R ops n K (⟨some d, .call ⟨.value fo, args, tys⟩, ty, pos, aft, none⟩ :: rest) E M :=
  fun _ m ha hM => by
    refine st_callN hR (S := fun v nw => ∃ v', v = mk v' ∧ OwnS e z v' k xs nw) (ha.rd hf) (ha.args hargs) he (by simpa using hF) ?_ (fun w hG hv q hq => (hg.seen hM).rin hG hv hq) ?_
    · obtain ⟨r, hr⟩ := fresh_of m
      exact ⟨_, [⟨r, xs.toArray, e⟩], ⟨.slice (some ⟨r, 0, none⟩) k k, rfl, .inr ⟨r, k, xs.toArray, rfl, rfl, Nat.le_refl _, hk, by simpa using hkx, hkx, by rw [← hkx]; exact List.take_length⟩⟩, by simp, by simpa using hr⟩
    · rintro v nw ⟨v', rfl, ho⟩ hfr
      obtain ⟨oz, rfl⟩ := own_opt ho
      have := hM.fresh i (l0 := []) (lr := m) (by simp) hfr
      exact h v' oz ho _ _ (ha.put hd _) (by simpa using this)
/-- A call that writes one block. -/
theorem e_callW (i : Nat) {fo : Operand} {f : FuncId} {args : Array Operand} {tys : Array TypeId} {vs cap : List Value} {g' : Mem} {b : Nat} {c c' : Array Value} {t : TypeId} {v : Value} (hf : rd E fo = some (.func (.func f) #[] cap.toArray)) (hargs : rdl E args.toList = some vs) (he : enters P f = true)
    (hm : lkM M i = some ⟨b, c, t⟩) (hg : ∀ z ∈ g', z ∈ G ∨ ∃ j, j ≠ i ∧ lkM M j = some z) (hF : Fx P g' [⟨b, c, t⟩] f (vs ++ cap).toArray (fun v' l1 nw => v' = v ∧ l1 = [⟨b, c', t⟩] ∧ nw = [])) (hd : Nat.blt d n = true) (hR : R.c = 5)
    (h : OpsE P G R ops n K rest ((d, v) :: E) ((i, some ⟨b, c', t⟩) :: M)) : OpsE P G R ops n K (⟨some d, .call ⟨.value fo, args, tys⟩, ty, pos, aft, none⟩ :: rest) E M :=
  fun _ m ha hM => by
    obtain ⟨lr, hp⟩ := hM.perm1 hm
    refine st_callX hR (S := fun v' l1 nw => v' = v ∧ l1 = [⟨b, c', t⟩] ∧ nw = []) (ha.rd hf) (ha.args hargs) he (by simpa using hF) (lr := lr) (by simpa using hp) ⟨v, _, [], ⟨rfl, rfl, rfl⟩, by simp, by simp⟩ ?_ (fun w hG hw z hz => ?_) (by simp) (fun hA z hz => ?_) ?_
    · rintro v' l1 nw ⟨_, rfl, _⟩; rfl
    · rcases hg z hz with h1 | ⟨j, _, h1⟩
      · exact hG z h1
      · exact (hw z (hM.has j z h1)).read
    · rcases hg z hz with h1 | ⟨j, hne, h1⟩
      · simpa using hA z h1 ⟨b, c, t⟩ (hM.has i _ hm)
      · simpa using hM.apart j i z _ h1 hm hne
    · rintro v' l1 nw ⟨rfl, rfl, rfl⟩ _
      have := hM.same (oz' := some ⟨b, c', t⟩) hm hp rfl
      exact h _ _ (ha.put hd _) (by simpa using this)
end

/-! ### A function's end -/
section
variable {P : Program} {G : Mem} {n : Nat}
theorem mapM0 (f : ResultVar → Sem Value) : Array.mapM f #[] = pure #[] := by
  rw [Array.mapM_eq_mapM_toList]; simp
/-- A function that writes one block and answers nothing. -/
def EndW (b : Nat) (c' : Array Value) (t : TypeId) (fn : Func) : Exit → Env → Mm → Prop
  | .normal, _, M | .ret, _, M => fn.results = #[] ∧ ∃ i, lkM M i = some ⟨b, c', t⟩
  | _, _, _ => False
theorem fxW {f : FuncId} {fn : Func} {c : Code} {args : Array Value} {b : Nat} {c0 c' : Array Value} {t : TypeId} (hf : P.funcs[f]? = some fn) (hb : fn.body = some c) (hn : fn.ntmps = n) (ha : args.size ≤ n) (E : Env) (hE : ∀ t v, lk E t = some v → args[t]? = some v)
    (h : SatE P G c n (EndW b c' t fn) E [(0, some ⟨b, c0, t⟩)]) : Fx P G [⟨b, c0, t⟩] f args (fun v' l1 nw => v' = .tuple #[] ∧ l1 = [⟨b, c', t⟩] ∧ nw = []) :=
  fx_of hf hb (sat_mono (h _ [⟨b, c0, t⟩] ⟨by simp [hn]; omega, rfl, fun t v ht => by
    have := hE t v ht
    have hlt := (Array.getElem?_eq_some_iff.1 this).1
    rw [Array.getElem?_append_left hlt]; exact this⟩ ⟨fun i x hx => by
      rw [lkM_cons] at hx
      split at hx
      · cases hx; simp
      · simp [lkM] at hx, fun i j x y hx hy hne => by
      rw [lkM_cons] at hx hy
      split at hx
      · split at hy
        · rename_i e1 e2; exact absurd (e1.symm.trans e2) hne
        · simp [lkM] at hy
      · simp [lkM] at hx⟩) fun e a m ⟨E', M', h1, h0, h2⟩ => by
      have key : (fn.results = #[] ∧ ∃ i, lkM M' i = some ⟨b, c', t⟩) → a.defers = [] ∧ ∃ v l1 nw, (v = Value.tuple #[] ∧ l1 = [(⟨b, c', t⟩ : Blk)] ∧ nw = ([] : Mem)) ∧ (nw.map (·.b)).Nodup ∧ (∀ x ∈ nw, x.b ∉ [(⟨b, c0, t⟩ : Blk)].map (·.b)) ∧ (∀ x ∈ l1 ++ nw, x ∈ m) ∧ ∀ w, MemIn m w → (results fn a.tmps).run P w = .ok v w := fun ⟨hr, i, hi⟩ =>
        ⟨h1.defers, _, _, _, ⟨rfl, rfl, rfl⟩, by simp, by simp, fun x hx => by
          simp at hx; subst hx; exact h0.has i _ hi, fun w _ => by
          rw [results_eq, hr, mapM0]
          simp⟩
      cases e <;> first | exact key h2 | exact h2.elim)
/-- A function that makes a slice: one result. -/
def EndN (P : Program) (e : TypeId) (z k : Nat) (xs : List Value) (fn : Func) : Exit → Env → Mm → Prop
  | .normal, E, M | .ret, E, M => ∃ r v oz i, fn.results = #[r] ∧ Res P E M r v ∧ OwnS e z v k xs (Option.toList oz) ∧ lkM M i = oz
  | _, _, _ => False
/-- The same: the slice, and a number. -/
def EndN2 (P : Program) (e : TypeId) (z k : Nat) (xs : List Value) (u : Value) (fn : Func) : Exit → Env → Mm → Prop
  | .normal, E, M | .ret, E, M => ∃ r r' v oz i, fn.results = #[r, r'] ∧ Res P E M r v ∧ Res P E M r' u ∧ OwnS e z v k xs (Option.toList oz) ∧ lkM M i = oz
  | _, _, _ => False
theorem own_nd {e : TypeId} {z k : Nat} {v : Value} {xs : List Value} {l : Mem} (h : OwnS e z v k xs l) : (l.map (·.b)).Nodup := by
  rcases h with ⟨_, _, _, rfl⟩ | ⟨r, cap, c, _, rfl, _⟩ <;> simp
theorem fxN {f : FuncId} {fn : Func} {c : Code} {args : Array Value} {e : TypeId} {z k : Nat} {xs : List Value} (hf : P.funcs[f]? = some fn) (hb : fn.body = some c) (hn : fn.ntmps = n) (ha : args.size ≤ n) (E : Env) (hE : ∀ t v, lk E t = some v → args[t]? = some v)
    (h : SatE P G c n (EndN P e z k xs fn) E []) : Fx P G [] f args (fun v l1 nw => l1 = [] ∧ ∃ v', v = v' ∧ OwnS e z v' k xs nw) :=
  fx_of hf hb (sat_mono (h _ [] ⟨by simp [hn]; omega, rfl, fun t v ht => by
    have := hE t v ht
    have hlt := (Array.getElem?_eq_some_iff.1 this).1
    rw [Array.getElem?_append_left hlt]; exact this⟩ (FitsM.nil _)) fun e' a m ⟨E', M', h1, h0, h2⟩ => by
      have key : (∃ r v oz i, fn.results = #[r] ∧ Res P E' M' r v ∧ OwnS e z v k xs (Option.toList oz) ∧ lkM M' i = oz) → a.defers = [] ∧ ∃ v l1 nw, (l1 = [] ∧ ∃ v', v = v' ∧ OwnS e z v' k xs nw) ∧ (nw.map (·.b)).Nodup ∧ (∀ x ∈ nw, x.b ∉ ([] : Mem).map (·.b)) ∧ (∀ x ∈ l1 ++ nw, x ∈ m) ∧ ∀ w, MemIn m w → (results fn a.tmps).run P w = .ok v w := fun ⟨r, v, oz, i, hr, hR, ho, hi⟩ =>
        ⟨h1.defers, v, [], oz.toList, ⟨rfl, v, rfl, ho⟩, own_nd ho, by simp, fun x hx => by
          have : oz = some x := by simpa using hx
          exact h0.has i x (hi.trans this), fun w hw => by
          have := res_run h1 h0 hw hR
          rw [results_eq, hr, mapM1]
          simp [this]⟩
      cases e' <;> first | exact key h2 | exact h2.elim)
theorem fxN2 {f : FuncId} {fn : Func} {c : Code} {args : Array Value} {e : TypeId} {z k : Nat} {xs : List Value} {u : Value} (hf : P.funcs[f]? = some fn) (hb : fn.body = some c) (hn : fn.ntmps = n) (ha : args.size ≤ n) (E : Env) (hE : ∀ t v, lk E t = some v → args[t]? = some v)
    (h : SatE P G c n (EndN2 P e z k xs u fn) E []) : Fx P G [] f args (fun v l1 nw => l1 = [] ∧ ∃ v', v = .tuple #[v', u] ∧ OwnS e z v' k xs nw) :=
  fx_of hf hb (sat_mono (h _ [] ⟨by simp [hn]; omega, rfl, fun t v ht => by
    have := hE t v ht
    have hlt := (Array.getElem?_eq_some_iff.1 this).1
    rw [Array.getElem?_append_left hlt]; exact this⟩ (FitsM.nil _)) fun e' a m ⟨E', M', h1, h0, h2⟩ => by
      have key : (∃ r r' v oz i, fn.results = #[r, r'] ∧ Res P E' M' r v ∧ Res P E' M' r' u ∧ OwnS e z v k xs (Option.toList oz) ∧ lkM M' i = oz) → a.defers = [] ∧ ∃ v l1 nw, (l1 = [] ∧ ∃ v', v = Value.tuple #[v', u] ∧ OwnS e z v' k xs nw) ∧ (nw.map (·.b)).Nodup ∧ (∀ x ∈ nw, x.b ∉ ([] : Mem).map (·.b)) ∧ (∀ x ∈ l1 ++ nw, x ∈ m) ∧ ∀ w, MemIn m w → (results fn a.tmps).run P w = .ok v w := fun ⟨r, r', v, oz, i, hr, hR, hR', ho, hi⟩ =>
        ⟨h1.defers, .tuple #[v, u], [], oz.toList, ⟨rfl, v, rfl, ho⟩, own_nd ho, by simp, fun x hx => by
          have : oz = some x := by simpa using hx
          exact h0.has i x (hi.trans this), fun w hw => by
          have := res_run h1 h0 hw hR
          have t' := res_run h1 h0 hw hR'
          rw [results_eq, hr, mapM2]
          simp [this, t']⟩
      cases e' <;> first | exact key h2 | exact h2.elim)
end
end Go.Proofs.Ytmnmhmpklknleaa

/-
  ChaCha20 in plain numbers, as the document's answer reckons it. Plain arithmetic.
-/
namespace Go.Proofs.Ytmnmhmpklknleaa
open Go Go.RowKit

def rotl (n b : Nat) : Nat := (n * 2 ^ b % 4294967296 ||| n / 2 ^ (32 - b)) % 4294967296
def qrt (a b d e : Nat) : Nat × Nat × Nat × Nat :=
  let a1 := (a + b) % 4294967296
  let e1 := rotl ((e ^^^ a1) % 4294967296) 16
  let d1 := (d + e1) % 4294967296
  let b1 := rotl ((b ^^^ d1) % 4294967296) 12
  let a2 := (a1 + b1) % 4294967296
  let e2 := rotl ((e1 ^^^ a2) % 4294967296) 8
  let d2 := (d1 + e2) % 4294967296
  let b2 := rotl ((b1 ^^^ d2) % 4294967296) 7
  (a2, b2, d2, e2)
def rnd (f : Nat → Nat) (t : Nat) : Nat :=
  let q := qrt (f (t % 4)) (f (4 + t % 4)) (f (8 + t % 4)) (f (12 + t % 4))
  if t < 4 then q.1 else if t < 8 then q.2.1 else if t < 12 then q.2.2.1 else q.2.2.2
def sh1 (f : Nat → Nat) (t : Nat) : Nat := f (4 * (t / 4) + (t % 4 + 4 + 1 * (t / 4)) % 4)
def shm (f : Nat → Nat) (t : Nat) : Nat := f (4 * (t / 4) + (t % 4 + 4 - t / 4) % 4)
def dbl (f : Nat → Nat) : Nat → Nat := shm (rnd (sh1 (rnd f)))
def dbls (f : Nat → Nat) : Nat → Nat → Nat
  | 0 => f
  | k + 1 => dbl (dbls f k)
theorem rnd_step {f s : Nat → Nat} {k : Nat} (hk : k < 4) (hs : ∀ t, t < 16 → s t = if t % 4 < k then rnd f t else f t) (q : Nat × Nat × Nat × Nat) (hq : q = qrt (s k) (s (4 + k)) (s (8 + k)) (s (12 + k))) :
    ∀ t, t < 16 → upd (upd (upd (upd s k q.1) (4 + k) q.2.1) (8 + k) q.2.2.1) (12 + k) q.2.2.2 t = if t % 4 < k + 1 then rnd f t else f t := by
  have e0 : s k = f k := by rw [hs k (by omega), if_neg (by omega)]
  have e1 : s (4 + k) = f (4 + k) := by rw [hs _ (by omega), if_neg (by omega)]
  have e2 : s (8 + k) = f (8 + k) := by rw [hs _ (by omega), if_neg (by omega)]
  have e3 : s (12 + k) = f (12 + k) := by rw [hs _ (by omega), if_neg (by omega)]
  rw [e0, e1, e2, e3] at hq
  intro t ht
  by_cases hm : t % 4 = k
  · rw [if_pos (by omega)]
    unfold rnd
    rw [hm, ← hq]
    unfold upd
    have : t = k ∨ t = 4 + k ∨ t = 8 + k ∨ t = 12 + k := by omega
    rcases this with h | h | h | h
    · rw [if_neg (by omega), if_neg (by omega), if_neg (by omega), if_pos h, if_pos (by omega)]
    · rw [if_neg (by omega), if_neg (by omega), if_pos h, if_neg (by omega), if_pos (by omega)]
    · rw [if_neg (by omega), if_pos h, if_neg (by omega), if_neg (by omega), if_pos (by omega)]
    · rw [if_pos h, if_neg (by omega), if_neg (by omega), if_neg (by omega)]
  · unfold upd
    rw [if_neg (by omega), if_neg (by omega), if_neg (by omega), if_neg (by omega), hs t ht]
    by_cases hlt : t % 4 < k
    · rw [if_pos hlt, if_pos (by omega)]
    · rw [if_neg hlt, if_neg (by omega)]
theorem rnd_end {f s : Nat → Nat} (hs : ∀ t, t < 16 → s t = if t % 4 < 4 then rnd f t else f t) : arr .u32 16 s = arr .u32 16 (rnd f) := arr_congr fun t ht => by
  rw [hs t ht, if_pos (by omega)]
theorem rotl_lt (n b : Nat) : rotl n b < 4294967296 := Nat.mod_lt _ (by decide)
theorem rnd_lt (f : Nat → Nat) (t : Nat) : rnd f t < 4294967296 := by
  unfold rnd qrt
  simp only
  split
  · exact Nat.mod_lt _ (by decide)
  · split
    · exact rotl_lt _ _
    · split
      · exact Nat.mod_lt _ (by decide)
      · exact rotl_lt _ _
theorem sh_at (g : (Nat → Nat) → Nat → Nat) (f s : Nat → Nat) {k j v : Nat} (hv : v = g f (4 * k + j)) (hs : ∀ t, t < 4 * k + j → s t = g f t) : ∀ t, t < 4 * k + (j + 1) → upd s (4 * k + j) v t = g f t := fun t ht => by
  unfold upd; split
  · rename_i h; rw [hv, h]
  · exact hs t (by omega)
theorem sh1_v (f : Nat → Nat) {k j : Nat} (hj : j < 4) : f (4 * k + (j + 4 + 1 * k) % 4) = sh1 f (4 * k + j) := by
  unfold sh1
  rw [show (4 * k + j) / 4 = k by omega, show (4 * k + j) % 4 = j by omega]
theorem shm_v (f : Nat → Nat) {k j : Nat} (hj : j < 4) : f (4 * k + (j + 4 - k) % 4) = shm f (4 * k + j) := by
  unfold shm
  rw [show (4 * k + j) / 4 = k by omega, show (4 * k + j) % 4 = j by omega]

/-! ### Numbers as bytes -/
def lowl (n k : Nat) : List Nat := (List.range k).map fun i => n / 256 ^ i % 256
theorem lowl_len (n k : Nat) : (lowl n k).length = k := by simp [lowl]
theorem lowl_succ (n k : Nat) : lowl n k ++ [n / 256 ^ k % 256] = lowl n (k + 1) := by
  unfold lowl; rw [List.range_succ, List.map_append]; rfl
theorem lowl_lt (n k : Nat) : ∀ b ∈ lowl n k, b < 256 := fun b hb => by
  obtain ⟨i, _, rfl⟩ := List.mem_map.1 hb
  exact Nat.mod_lt _ (by decide)
def leN : List Nat → Nat
  | [] => 0
  | b :: l => b + 256 * leN l
theorem leN_lt : ∀ (l : List Nat), (∀ b ∈ l, b < 256) → leN l < 256 ^ l.length
  | [], _ => by simp [leN]
  | b :: l, h => by
    have h1 := leN_lt l (fun x hx => h x (by simp [hx]))
    have h2 := h b (by simp)
    rw [List.length_cons, Nat.pow_succ]
    unfold leN
    omega
theorem leN_drop {l : List Nat} {i : Nat} (hi : i < l.length) : leN (l.drop i) = leN (l.drop (i + 1)) * 256 + l[i] := by
  rw [List.drop_eq_getElem_cons hi]
  show l[i] + 256 * leN (l.drop (i + 1)) = _
  omega
theorem leN_small {l : List Nat} (hl : l.length ≤ 8) (hb : ∀ b ∈ l, b < 256) (i : Nat) : leN (l.drop (i + 1)) < 72057594037927936 := by
  have h1 := leN_lt (l.drop (i + 1)) (fun b h => hb b (List.mem_of_mem_drop h))
  have h2 : (l.drop (i + 1)).length ≤ 7 := by simp; omega
  have h3 : 256 ^ (l.drop (i + 1)).length ≤ 256 ^ 7 := Nat.pow_le_pow_right (by decide) h2
  have h4 : 256 ^ 7 = 72057594037927936 := by decide
  omega

end Go.Proofs.Ytmnmhmpklknleaa
