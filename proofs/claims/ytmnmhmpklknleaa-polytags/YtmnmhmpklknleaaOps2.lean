/-
  More operations: a part of a block is read; a field's place.
-/
import Derived.Test.YtmnmhmpklknleaaOps
namespace Go.Proofs.Ytmnmhmpklknleaa
open Go Go.RowKit
variable {P : Program} {G : Mem} {R : Reg} {ops : Array Oper} {K : Act → Mem → Prop} {rest : List Oper} {a : Act} {m : Mem} {d : Option Tmp} {ty : TypeId} {pos : String} {aft : Array Edge}
variable {T T' : TypeId} {x y : Operand}

theorem add_off (b o j : Nat) : (⟨b, o, none⟩ : Addr).add j = ⟨b, o + j, none⟩ := by
  unfold Addr.add; split
  · rename_i h0; subst h0; rfl
  · simp
theorem run_loadCellsAt {w : World} {z : Blk} (hin : RIn w z) (o l : Nat) (ho : o + l ≤ z.c.size) : ∀ (n i : Nat) (acc : Array Value), i + n = l →
    (loadCellsFrom ⟨z.b, o, none⟩ i n acc).run P w = .ok (acc ++ z.c.extract (o + i) (o + l)) w
  | 0, i, acc, h => by
    have : i = l := by omega
    subst this
    simp [loadCellsFrom]
    omega
  | n + 1, i, acc, h => by
    have hi : o + i < z.c.size := by omega
    have hcell : w.cell? ((⟨z.b, o, none⟩ : Addr).add i) = some z.c[o + i] := by
      rw [add_off, hin.2 (o + i) hi]; simp [hi]
    unfold loadCellsFrom
    simp only [Sem.run_bind, run_load, hcell, Result.andThen_ok]
    rw [run_loadCellsAt hin o l ho n (i + 1) (acc.push z.c[o + i]) (by omega)]
    congr 1
    apply Array.ext
    · simp; omega
    · intro j h1 h2
      by_cases hj : j < acc.size
      · have hj2 : j < acc.size + 1 := by omega
        simp [hj, hj2, Array.getElem_push]
      · by_cases hj' : j = acc.size
        · subst hj'; simp
        · have : ¬ j < acc.size + 1 := by omega
          simp [Array.getElem_append, hj, this]
          congr 1; omega
theorem run_loadPart {w : World} {z : Blk} {td : TypeDesc} {o l : Nat} (hin : RIn w z) (hT : P.underlying T = some td) (hn : rowLike td = true) (hs : (P.info? T).map (·.size) = some l) (ho : o + l ≤ z.c.size) :
    (loadVar T ⟨z.b, o, none⟩).run P w = .ok (.agg (z.c.extract o (o + l))) w := by
  cases hi : P.info? T with
  | none => simp [hi] at hs
  | some i =>
    have hsz : i.size = l := by simpa [hi] using hs
    have := run_loadCellsAt (P := P) hin o l ho l 0 #[] (by omega)
    simp only [loadVar, loadCells, sizeOf, typeInfo]
    simp [run_isAgg hT, hn, hi, hsz, this]
/-- A read of a part of a block. -/
theorem st_loadS {b i o l : Nat} {c : Array Value} {t : TypeId} {td : TypeDesc} (hT : P.underlying T = some td) (hn : rowLike td = true) (hs : (P.info? T).map (·.size) = some l)
    (hx : a.eval x = .pointer (some ⟨b, o, none⟩)) (hm : m[i]? = some ⟨b, c, t⟩) (hX : b ∉ R.X) (ho : o + l ≤ c.size) (h : opsM P G R ops K rest (a.put d (.agg (c.extract o (o + l)))) m) : opsM P G R ops K (⟨d, .load T x, ty, pos, aft, none⟩ :: rest) a m :=
  .inr ⟨rfl, .agg (c.extract o (o + l)), fun w _ hw => .inl (by
    have hin := (hw _ (mem_of_get hm) hX).read
    simp only [execOp, Instr.loadAt, hx, Instr.sureAddr]
    simp [run_loadPart hin hT hn hs ho]), h⟩

/-- A field's place. -/
theorem st_field {b o f sz : Nat} {fs : Array Field} {fd : Field} (hT : P.underlying T = some (.struct fs)) (hf : fs[f]? = some fd) (hs : (P.info? fd.type).map (·.size) = some (sz + 1)) (hx : a.eval x = .pointer (some ⟨b, o, none⟩))
    (h : opsM P G R ops K rest (a.put d (.pointer (some ⟨b, o + fd.offset, none⟩))) m) : opsM P G R ops K (⟨d, .fieldAddr T x f, ty, pos, aft, none⟩ :: rest) a m :=
  st_quiet (v := .pointer (some ⟨b, o + fd.offset, none⟩)) rfl rfl (fun w => by
    cases hi : P.info? fd.type with
    | none => simp [hi] at hs
    | some i =>
      have hsz : i.size = sz + 1 := by simpa [hi] using hs
      simp only [execOp, Instr.fieldAt, hx, underlying, program, Instr.sureAddr, fieldPlace, sizeOf, typeInfo]
      simp [Sem.run, hT, hf, hi, hsz, add_off]) h

/-- A struct of given parts; hpl: where its fields lie. -/
theorem st_buildS {z : Value} {fs : Array Field} {places : Array (Nat × Nat)} {parts : Array (Nat × Operand)} {pv : List (Nat × Value)} {c : Array Value} (hz : (P.info? T).bind (·.zero) = some z) (hT : P.underlying T = some (.struct fs))
    (hpl : ∀ w, (fs.mapM fun f => do pure (f.offset, ← sizeOf f.type) : Sem (Array (Nat × Nat))).run P w = .ok places w)
    (hp : parts.toList.map (fun p => (p.1, a.eval p.2)) = pv) (hf : Instr.fill (places[·]?) z.cells pv = some c)
    (h : opsM P G R ops K rest (a.put d (.agg c)) m) : opsM P G R ops K (⟨d, .build T parts, ty, pos, aft, none⟩ :: rest) a m :=
  st_quiet (v := .agg c) rfl rfl (fun w => by
    cases hi : P.info? T with
    | none => simp [hi] at hz
    | some i =>
      have hz' : i.zero = some z := by simpa [hi] using hz
      have hp' : (parts.map fun (i, x) => (i, a.eval x)).toList = pv := by rw [← hp]; simp
      simp only [execOp, Instr.build, zeroValue, typeInfo, underlying, program]
      simp only [hp']
      simp only [Sem.run_bind, Sem.run, Sem.run_pure, Result.andThen_ok, hi, hz', hT, hpl, hf]) h

end Go.Proofs.Ytmnmhmpklknleaa
