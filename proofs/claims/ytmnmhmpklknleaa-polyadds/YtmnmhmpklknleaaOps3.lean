/-
  More operations: bytes; exclusive or; arrays of arrays.
-/
import Derived.Test.YtmnmhmpklknleaaOps2
namespace Go.Proofs.Ytmnmhmpklknleaa
open Go Go.RowKit
variable {P : Program} {G : Mem} {R : Reg} {ops : Array Oper} {K : Act → Mem → Prop} {rest : List Oper} {a : Act} {m : Mem} {d : Option Tmp} {ty : TypeId} {pos : String} {aft : Array Edge}
variable {T T' : TypeId} {x y : Operand}

theorem bits_xor (p q : Nat) : IntKind.u64.wrap ((BitVec.ofNat 64 p ^^^ BitVec.ofNat 64 q).toNat : Int) = ((p ^^^ q : Nat) : Int) % 18446744073709551616 := by
  rw [wrap_u64]
  rw [BitVec.toNat_xor, BitVec.toNat_ofNat, BitVec.toNat_ofNat, ← Nat.xor_mod_two_pow]
  omega
theorem st_xor_u {p q : Nat} (hx : a.eval x = u p) (hy : a.eval y = u q) (h : opsM P G R ops K rest (a.put d (u ((p ^^^ q) % 18446744073709551616))) m) :
    opsM P G R ops K (⟨d, .binOp .xor T x y T', ty, pos, aft, none⟩ :: rest) a m :=
  st_bin (fun w => by
    have := bits_xor p q
    simp only [hx, hy, eqGuard, binOp, Op.intBits, IntKind.bits]
    simp
    exact this) h
theorem bits_and8 (p q : Nat) : IntKind.u8.wrap ((BitVec.ofNat 8 p &&& BitVec.ofNat 8 q).toNat : Int) = ((p &&& q : Nat) : Int) % 256 := by
  rw [wrap_u8]
  rw [BitVec.toNat_and, BitVec.toNat_ofNat, BitVec.toNat_ofNat, ← Nat.and_mod_two_pow]
  omega
theorem bits_or8 (p q : Nat) : IntKind.u8.wrap ((BitVec.ofNat 8 p ||| BitVec.ofNat 8 q).toNat : Int) = ((p ||| q : Nat) : Int) % 256 := by
  rw [wrap_u8]
  rw [BitVec.toNat_or, BitVec.toNat_ofNat, BitVec.toNat_ofNat, ← Nat.or_mod_two_pow]
  omega
theorem bits_xor8 (p q : Nat) : IntKind.u8.wrap ((BitVec.ofNat 8 p ^^^ BitVec.ofNat 8 q).toNat : Int) = ((p ^^^ q : Nat) : Int) % 256 := by
  rw [wrap_u8]
  rw [BitVec.toNat_xor, BitVec.toNat_ofNat, BitVec.toNat_ofNat, ← Nat.xor_mod_two_pow]
  omega
theorem st_and_b {p q : Nat} (hx : a.eval x = by8 p) (hy : a.eval y = by8 q) (h : opsM P G R ops K rest (a.put d (by8 ((p &&& q) % 256))) m) :
    opsM P G R ops K (⟨d, .binOp .and T x y T', ty, pos, aft, none⟩ :: rest) a m :=
  st_bin (fun w => by
    have := bits_and8 p q
    simp only [hx, hy, eqGuard, binOp, Op.intBits, IntKind.bits]
    simp
    exact this) h
theorem st_or_b {p q : Nat} (hx : a.eval x = by8 p) (hy : a.eval y = by8 q) (h : opsM P G R ops K rest (a.put d (by8 ((p ||| q) % 256))) m) :
    opsM P G R ops K (⟨d, .binOp .or T x y T', ty, pos, aft, none⟩ :: rest) a m :=
  st_bin (fun w => by
    have := bits_or8 p q
    simp only [hx, hy, eqGuard, binOp, Op.intBits, IntKind.bits]
    simp
    exact this) h
theorem st_xor_b {p q : Nat} (hx : a.eval x = by8 p) (hy : a.eval y = by8 q) (h : opsM P G R ops K rest (a.put d (by8 ((p ^^^ q) % 256))) m) :
    opsM P G R ops K (⟨d, .binOp .xor T x y T', ty, pos, aft, none⟩ :: rest) a m :=
  st_bin (fun w => by
    have := bits_xor8 p q
    simp only [hx, hy, eqGuard, binOp, Op.intBits, IntKind.bits]
    simp
    exact this) h
theorem st_add_b {p q : Nat} (hx : a.eval x = by8 p) (hy : a.eval y = by8 q) (h : opsM P G R ops K rest (a.put d (by8 ((p + q) % 256))) m) :
    opsM P G R ops K (⟨d, .binOp .add T x y T', ty, pos, aft, none⟩ :: rest) a m :=
  st_bin (fun w => by simp [hx, hy, eqGuard, binOp, Op.intArith, wrap_u8]) h
theorem st_sub_b {p q : Nat} (hx : a.eval x = by8 p) (hy : a.eval y = by8 q) (hq : q ≤ 256) (h : opsM P G R ops K rest (a.put d (by8 ((p + 256 - q) % 256))) m) :
    opsM P G R ops K (⟨d, .binOp .sub T x y T', ty, pos, aft, none⟩ :: rest) a m :=
  st_bin (fun w => by simp [hx, hy, eqGuard, binOp, Op.intArith, wrap_u8]; omega) h
theorem st_rem_b {p q : Nat} (hx : a.eval x = by8 p) (hy : a.eval y = by8 q) (hq : 0 < q) (h : opsM P G R ops K rest (a.put d (by8 (p % q))) m) :
    opsM P G R ops K (⟨d, .binOp .rem T x y T', ty, pos, aft, none⟩ :: rest) a m :=
  st_bin (fun w => by
    have h0 : ¬ ((q : Int) = 0) := by omega
    have e : ((p : Int).tmod (q : Int)) = ((p % q : Nat) : Int) := by
      rw [Int.tmod_eq_emod_of_nonneg (by omega)]; simp
    simp only [hx, hy, eqGuard, binOp, Op.intDiv, h0, if_false, e]
    simp) h
theorem st_shr_b {k' : IntKind} {p s : Nat} (hx : a.eval x = by8 p) (hy : a.eval y = .int k' (s : Int)) (hs : s ≤ 8) (h : opsM P G R ops K rest (a.put d (by8 (p / 2 ^ s))) m) :
    opsM P G R ops K (⟨d, .binOp .shr T x y T', ty, pos, aft, none⟩ :: rest) a m :=
  st_bin (fun w => by
    have h0 : ¬ ((s : Int) < 0) := by omega
    have h1 : min ((s : Int).toNat) (IntKind.u8.bits) = s := by simp [IntKind.bits]; omega
    simp only [hx, hy, eqGuard, binOp, Op.shift, h0, if_false, h1]
    have e : (p : Int).fdiv (2 ^ s) = ((p / 2 ^ s : Nat) : Int) := by
      rw [Int.fdiv_eq_ediv_of_nonneg _ (by exact Int.le_of_lt (Int.pow_pos (by decide)))]
      simp
    simp [e]) h

/-! ### Arrays of arrays: an element has z cells -/
theorem st_indexZ {b o j n z : Nat} {k : IntKind} {e : TypeId} (hT : P.underlying T = some (.array n e)) (hs : (P.info? e).map (·.size) = some (z + 1)) (hx : a.eval x = .pointer (some ⟨b, o, none⟩)) (hy : a.eval y = .int k (j : Int)) (hj : j < n)
    (h : opsM P G R ops K rest (a.put d (.pointer (some ⟨b, o + j * (z + 1), none⟩))) m) : opsM P G R ops K (⟨d, .indexAddr T x y, ty, pos, aft, none⟩ :: rest) a m :=
  st_quiet (v := .pointer (some ⟨b, o + j * (z + 1), none⟩)) rfl rfl (fun w => by
    cases hi : P.info? e with
    | none => simp [hi] at hs
    | some i =>
      have hsz : i.size = z + 1 := by simpa [hi] using hs
      have h0 : (0 : Int) ≤ j ∧ (j : Int) < n := by omega
      simp only [execOp, Instr.indexAt, hx, hy, asIntOf, underlying, program, sizeOf, typeInfo, Instr.sureAddr]
      simp [Sem.run, hT, hi, hsz, h0, add_off, hj]) h
theorem st_idxZ {j n z : Nat} {k2 : IntKind} {e : TypeId} {td : TypeDesc} {c : Array Value} (hT : P.underlying T = some (.array n e)) (he : P.underlying e = some td) (hn : rowLike td = true) (hs : (P.info? e).map (·.size) = some z) (hx : a.eval x = .agg c) (hy : a.eval y = .int k2 (j : Int)) (hj : j < n)
    (h : opsM P G R ops K rest (a.put d (.agg (c.extract (j * z) (j * z + z)))) m) : opsM P G R ops K (⟨d, .index T x y, ty, pos, aft, none⟩ :: rest) a m :=
  st_quiet (v := .agg (c.extract (j * z) (j * z + z))) rfl rfl (fun w => by
    cases hi : P.info? e with
    | none => simp [hi] at hs
    | some i =>
      have hsz : i.size = z := by simpa [hi] using hs
      have h0 : (0 : Int) ≤ j ∧ (j : Int) < n := by omega
      have hp : (part e c (j * z)).run P w = .ok (.agg (c.extract (j * z) (j * z + z))) w := by
        unfold part
        simp [run_isAgg he, hn, sizeOf, typeInfo, hi, hsz]
      simp only [execOp, Instr.index, hx, hy, asIntOf, underlying, program, sizeOf, typeInfo]
      simp [Sem.run, hT, hi, hsz, hj, hp]) h
theorem st_buildZ {zv : Value} {l z : Nat} {e : TypeId} {parts : Array (Nat × Operand)} {pv : List (Nat × Value)} {c : Array Value} (hz : (P.info? T).bind (·.zero) = some zv) (hT : P.underlying T = some (.array l e)) (hs : (P.info? e).map (·.size) = some z)
    (hp : parts.toList.map (fun p => (p.1, a.eval p.2)) = pv) (hf : Instr.fill (fun i => some (i * z, z)) zv.cells pv = some c)
    (h : opsM P G R ops K rest (a.put d (.agg c)) m) : opsM P G R ops K (⟨d, .build T parts, ty, pos, aft, none⟩ :: rest) a m :=
  st_quiet (v := .agg c) rfl rfl (fun w => by
    cases hi : P.info? T with
    | none => simp [hi] at hz
    | some i =>
      have hz' : i.zero = some zv := by simpa [hi] using hz
      cases he : P.info? e with
      | none => simp [he] at hs
      | some j =>
        have hsz : j.size = z := by simpa [he] using hs
        have hp' : (parts.map fun (i, x) => (i, a.eval x)).toList = pv := by rw [← hp]; simp
        simp only [execOp, Instr.build, zeroValue, typeInfo, underlying, program, sizeOf]
        simp only [hp']
        simp only [Sem.run_bind, Sem.run, Sem.run_pure, Result.andThen_ok, hi, hz', hT, he, hsz, hf]) h

/-! ### Where a struct's fields lie -/
theorem places_run {fs : Array Field} {l : List (Nat × Nat)} (h : (fs.toList.mapM fun f => (P.info? f.type).map fun i => (f.offset, i.size)) = some l) (w : World) :
    ((fs.mapM fun f => do pure (f.offset, ← sizeOf f.type) : Sem (Array (Nat × Nat)))).run P w = .ok l.toArray w := by
  have key : ∀ (fs : List Field) (l : List (Nat × Nat)), (fs.mapM fun f => (P.info? f.type).map fun i => (f.offset, i.size)) = some l →
      ((fs.mapM fun f => do pure (f.offset, ← sizeOf f.type) : Sem (List (Nat × Nat)))).run P w = .ok l w := by
    intro fs
    induction fs with
    | nil => intro l h; simp at h; subst h; rfl
    | cons f fs ih =>
      intro l h
      rw [List.mapM_cons] at h ⊢
      cases hi : P.info? f.type with
      | none => simp [hi] at h
      | some i =>
        cases hr : (fs.mapM fun f => (P.info? f.type).map fun i => (f.offset, i.size)) with
        | none => rw [hi, hr] at h; simp at h
        | some r =>
          rw [hi, hr] at h
          simp at h
          subst h
          have := ih r hr
          have h1 : (do pure (f.offset, ← sizeOf f.type) : Sem (Nat × Nat)).run P w = .ok (f.offset, i.size) w := by simp [sizeOf, typeInfo, hi]
          rw [Sem.run_bind, h1, Result.andThen_ok, Sem.run_bind, this]
          rfl
  rw [Array.mapM_eq_mapM_toList]
  have := key fs.toList l h
  rw [map_eq_pure_bind, Sem.run_bind, this]
  rfl

end Go.Proofs.Ytmnmhmpklknleaa
