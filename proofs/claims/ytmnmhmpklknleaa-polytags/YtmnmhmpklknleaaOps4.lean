/-
  More operations: slices, strings, Go's int below 0.
-/
import Derived.Test.YtmnmhmpklknleaaOps3
import Derived.Laws.BytesArg
namespace Go.Proofs.Ytmnmhmpklknleaa
open Go Go.RowKit
variable {P : Program} {G : Mem} {R : Reg} {ops : Array Oper} {K : Act → Mem → Prop} {rest : List Oper} {a : Act} {m : Mem} {d : Option Tmp} {ty : TypeId} {pos : String} {aft : Array Edge}
variable {T T' : TypeId} {x y : Operand}

theorem st_rem_z {p q : Int} (hx : a.eval x = .int .i64 p) (hy : a.eval y = .int .i64 q) (hq : q ≠ 0) (h : opsM P G R ops K rest (a.put d (.int .i64 (p.tmod q))) m) :
    opsM P G R ops K (⟨d, .binOp .rem T x y T', ty, pos, aft, none⟩ :: rest) a m :=
  st_bin (fun w => by
    simp only [hx, hy, eqGuard, binOp, Op.intDiv, hq, if_false]
    simp) h
theorem st_add_z {p q : Int} (hx : a.eval x = .int .i64 p) (hy : a.eval y = .int .i64 q) (h0 : -9223372036854775808 ≤ p + q) (h1 : p + q < 9223372036854775808) (h : opsM P G R ops K rest (a.put d (.int .i64 (p + q))) m) :
    opsM P G R ops K (⟨d, .binOp .add T x y T', ty, pos, aft, none⟩ :: rest) a m :=
  st_bin (fun w => by simp [hx, hy, eqGuard, binOp, Op.intArith, wrap_i64 h0 h1]) h

theorem st_mul_z {p q : Int} (hx : a.eval x = .int .i64 p) (hy : a.eval y = .int .i64 q) (h0 : -9223372036854775808 ≤ p * q) (h1 : p * q < 9223372036854775808) (h : opsM P G R ops K rest (a.put d (.int .i64 (p * q))) m) :
    opsM P G R ops K (⟨d, .binOp .mul T x y T', ty, pos, aft, none⟩ :: rest) a m :=
  st_bin (fun w => by simp [hx, hy, eqGuard, binOp, Op.intArith, wrap_i64 h0 h1]) h

/-- A slice of given parts. -/
theorem st_buildSl {zv : Value} {len z : Nat} {e : TypeId} {parts : Array (Nat × Operand)} {pv : List (Nat × Value)} {c : Array Value} (hT : P.underlying T = some (.slice e)) (hs : (P.info? e).map (·.size) = some z) (hz : (P.info? e).bind (·.zero) = some zv)
    (h0 : len * z ≠ 0) (h1 : len * z ≤ 16777216) (hp : parts.toList.map (fun p => (p.1, a.eval p.2)) = pv) (hf : Instr.fill (fun i => some (i * z, z)) ((Array.range (len * z)).map (zv.cells[· % zv.cells.size]!)) pv = some c)
    (h : ∀ r, (∀ x ∈ m, x.b ≠ r) → opsM P G R ops K rest (a.put d (.slice (some ⟨r, 0, none⟩) len len)) (m ++ [⟨r, c, e⟩])) : opsM P G R ops K (⟨d, .buildSlice T len parts, ty, pos, aft, none⟩ :: rest) a m :=
  .inr ⟨rfl, c, e, fun r => .slice (some ⟨r, 0, none⟩) len len, fun w => by
    cases hi : P.info? e with
    | none => simp [hi] at hz
    | some j =>
      have hz' : j.zero = some zv := by simpa [hi] using hz
      have hsz : j.size = z := by simpa [hi] using hs
      have hp' : (parts.map fun (i, x) => (i, a.eval x)).toList = pv := by rw [← hp]; simp
      have h2 : ¬ len * z > 2 ^ 24 := by omega
      simp only [execOp, Instr.buildSlice, zeroValue, typeInfo, underlying, program, sizeOf, newRow, newObj]
      simp only [hp']
      simp [Sem.run, hT, hi, hz', hsz, h0, h2, hf], h⟩

/-- The place of an element of a slice. -/
theorem st_indexSl {b o j len cap z : Nat} {k : IntKind} {e : TypeId} (hT : P.underlying T = some (.slice e)) (hs : (P.info? e).map (·.size) = some (z + 1)) (hx : a.eval x = .slice (some ⟨b, o, none⟩) len cap) (hy : a.eval y = .int k (j : Int)) (hj : j < len)
    (h : opsM P G R ops K rest (a.put d (.pointer (some ⟨b, o + j * (z + 1), none⟩))) m) : opsM P G R ops K (⟨d, .indexAddr T x y, ty, pos, aft, none⟩ :: rest) a m :=
  st_quiet (v := .pointer (some ⟨b, o + j * (z + 1), none⟩)) rfl rfl (fun w => by
    cases hi : P.info? e with
    | none => simp [hi] at hs
    | some i =>
      have hsz : i.size = z + 1 := by simpa [hi] using hs
      have h0 : (0 : Int) ≤ j ∧ (j : Int) < len := by omega
      simp only [execOp, Instr.indexAt, hx, hy, asIntOf, underlying, program, sizeOf, typeInfo]
      simp [Sem.run, hT, hi, hsz, add_off, hj]) h

/-- A bound that is told, or not. -/
def isB : Option Value → Nat → Nat → Prop
  | none, l, dflt => l = dflt
  | some v, l, _ => ∃ k, v = .int k (l : Int)
theorem run_bounds {isS : Bool} {len cap l h : Nat} {lo hi : Option Value} (hl : isB lo l 0) (hh : isB hi h len) (h1 : l ≤ h) (h2 : h ≤ cap) (w : World) : (Instr.sliceBounds isS len cap lo hi none).run P w = .ok (l, h, cap) w := by
  have hb : ∀ (k : IntKind) (n y : Nat) (code : BoundsCode), n ≤ y → (Instr.sliceBound (.int k (n : Int)) y code).run P w = .ok n w := fun k n y code hn => by
    have h0 : (0 : Int) ≤ n ∧ (n : Int) ≤ y := by omega
    simp [Instr.sliceBound, asIntOf, hn]
  unfold Instr.sliceBounds
  cases lo with
  | none =>
    cases hi with
    | none => simp only [isB] at hl hh; subst hl hh; simp
    | some v => obtain ⟨k, rfl⟩ := hh; simp only [isB] at hl; subst hl; simp [hb k h cap _ h2]
  | some u =>
    obtain ⟨k', rfl⟩ := hl
    cases hi with
    | none => simp only [isB] at hh; subst hh; simp [hb k' l _ _ h1]
    | some v => obtain ⟨k, rfl⟩ := hh; simp [hb k h cap _ h2, hb k' l _ _ h1]
/-- A slice of an array. -/
theorem st_sliceA {b o N l h z : Nat} {e : TypeId} {lo hi : Option Operand} (hT : P.underlying T = some (.array N e)) (hs : (P.info? e).map (·.size) = some z) (hx : a.eval x = .pointer (some ⟨b, o, none⟩)) (hl : isB (lo.map a.eval) l 0) (hh : isB (hi.map a.eval) h N) (h1 : l ≤ h) (h2 : h ≤ N) (h3 : l < N)
    (hK : opsM P G R ops K rest (a.put d (.slice (some ⟨b, o + l * z, none⟩) (h - l) (N - l))) m) : opsM P G R ops K (⟨d, .slice T x lo hi none, ty, pos, aft, none⟩ :: rest) a m :=
  st_quiet (v := .slice (some ⟨b, o + l * z, none⟩) (h - l) (N - l)) rfl rfl (fun w => by
    cases hi' : P.info? e with
    | none => simp [hi'] at hs
    | some i =>
      have hsz : i.size = z := by simpa [hi'] using hs
      have hb := run_bounds (P := P) (isS := false) hl hh h1 h2 w
      have hne : ¬ N = l := by omega
      simp only [execOp, Instr.sliceAt, hx, underlying, program, sizeOf, typeInfo, Instr.sureAddr, Option.map_none]
      simp only [Sem.run_bind, Sem.run, Sem.run_pure, Result.andThen_ok, hT, hb, hi', hsz, hne, if_false, add_off]) hK
/-- A slice of a slice. -/
theorem st_sliceS {b o len cap l h z : Nat} {e : TypeId} {lo hi : Option Operand} (hT : P.underlying T = some (.slice e)) (hs : (P.info? e).map (·.size) = some z) (hx : a.eval x = .slice (some ⟨b, o, none⟩) len cap) (hl : isB (lo.map a.eval) l 0) (hh : isB (hi.map a.eval) h len) (h1 : l ≤ h) (h2 : h ≤ cap)
    (hK : opsM P G R ops K rest (a.put d (.slice (some (if cap = l then ⟨b, o, none⟩ else ⟨b, o + l * z, none⟩)) (h - l) (cap - l))) m) : opsM P G R ops K (⟨d, .slice T x lo hi none, ty, pos, aft, none⟩ :: rest) a m :=
  st_quiet (v := .slice (some (if cap = l then ⟨b, o, none⟩ else ⟨b, o + l * z, none⟩)) (h - l) (cap - l)) rfl rfl (fun w => by
    cases hi' : P.info? e with
    | none => simp [hi'] at hs
    | some i =>
      have hsz : i.size = z := by simpa [hi'] using hs
      have hb := run_bounds (P := P) (isS := true) hl hh h1 h2 w
      simp only [execOp, Instr.sliceAt, Instr.slice, hx, underlying, program, sizeOf, typeInfo, Option.map_none]
      simp only [Sem.run_bind, Sem.run, Sem.run_pure, Result.andThen_ok, hT, hb, hi', hsz]
      by_cases hc : cap = l
      · simp [hc]
      · simp [hc, add_off]) hK

/-- Bytes become a string. -/
theorem st_conv_str {b o N len cap i : Nat} {e : TypeId} {f : Nat → Nat} {t : TypeId} (hv : kconv R T T' = 1) (hs : P.underlying T = some (.slice e)) (he : P.underlying e = some (.int .u8)) (ht : P.underlying T' = some .string) (hx : a.eval x = .slice (some ⟨b, o, none⟩) len cap)
    (hm : m[i]? = some ⟨b, arr .u8 N f, t⟩) (hX : b ∉ R.X) (ho : o + len ≤ N) (h : opsM P G R ops K rest (a.put d (.string (strOfNums ((List.range len).map fun j => (f (o + j) : Int))))) m) : opsM P G R ops K (⟨d, .convert T T' x, ty, pos, aft, none⟩ :: rest) a m :=
  st_conv hv (v := .string (strOfNums ((List.range len).map fun j => (f (o + j) : Int)))) (fun w _ hw => by
    have hin := hw _ (mem_of_get hm) hX
    have := run_convert_bytes_arg (P := P) w T e hs he b o len cap ((List.range len).map fun j => (f (o + j) : Int)) (by simp) (fun j hj => by
      have h1 : w.cell? ⟨b, o + j, none⟩ = (arr .u8 N f)[o + j]? := In.cell hin (o + j)
      rw [h1, arr_get (by omega)]
      simp [List.getD, hj]) T' ht
    simp only [execOp, hx]
    simp [this]) h
theorem st_eqS {p q : ByteArray} (hx : a.eval x = .string p) (hy : a.eval y = .string q) (h : opsM P G R ops K rest (a.put d (.bool (p.toList == q.toList))) m) :
    opsM P G R ops K (⟨d, .binOp .eql T x y T', ty, pos, aft, none⟩ :: rest) a m :=
  st_bin (fun w => by simp [hx, hy, eqGuard, binOp, Op.stringOp]) h

end Go.Proofs.Ytmnmhmpklknleaa
