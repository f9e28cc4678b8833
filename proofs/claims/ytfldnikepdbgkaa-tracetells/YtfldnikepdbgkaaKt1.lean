import Derived.Test.YtfldnikepdbgkaaKt0
import Derived.Laws.Externs
import Derived.Laws.StructEq
import Derived.Laws.BytesArg
import Derived.Laws.MakeOwn
import Derived.Laws.AppendOwn
import Derived.Laws.Concat
import Derived.Laws.Strings
import Derived.Laws.CopyRow
namespace Go.Proofs.Ytfldnikepdbgkaa
open Go Go.RowKit
abbrev by8 (p : Nat) : Value := .int .u8 (p : Int)
abbrev ii (p : Nat) : Value := .int .i64 (p : Int)
def arr (k : IntKind) (n : Nat) (f : Nat → Nat) : Array Value := ((List.range n).map fun i => .int k (f i : Int)).toArray
theorem arr_size (k : IntKind) (n : Nat) (f : Nat → Nat) : (arr k n f).size = n := by simp [arr]
theorem arr_sz (k k' : IntKind) (n : Nat) (f g : Nat → Nat) : (arr k n f).size = (arr k' n g).size := by rw [arr_size, arr_size]
theorem arr_get {k : IntKind} {n : Nat} {f : Nat → Nat} {j : Nat} (h : j < n) : (arr k n f)[j]? = some (.int k (f j : Int)) := by
  simp [arr, h]
section
variable {P : Program} {G : Mem} {R : Reg} {ops : Array Oper} {K : Act → Mem → Prop} {rest : List Oper} {a : Act} {m : Mem} {d : Option Tmp} {ty : TypeId} {pos : String} {aft : Array Edge}
variable {T T' : TypeId} {x y : Operand}
theorem wrap_i64 {z : Int} (h0 : -9223372036854775808 ≤ z) (h1 : z < 9223372036854775808) : IntKind.i64.wrap z = z := by
  simp only [IntKind.wrap, IntKind.signed, IntKind.bits]
  simp
  split <;> omega
theorem st_bin {op : BinOp} {v : Value} (h1 : ∀ w, ((do eqGuard op T x y (a.eval x) (a.eval y); binOp op T (a.eval x) (a.eval y)) : Sem Value).run P w = .ok v w)
    (h : opsM P G R ops K rest (a.put d v) m) : opsM P G R ops K (⟨d, .binOp op T x y T', ty, pos, aft, none⟩ :: rest) a m :=
  st_quiet (v := v) rfl rfl (fun w => by
    have := h1 w
    simp only [execOp]
    rw [Sem.run_bind, this]
    rfl) h
theorem st_add_i {p q : Nat} (hx : a.eval x = ii p) (hy : a.eval y = ii q) (hb : p + q < 9223372036854775808) (h : opsM P G R ops K rest (a.put d (ii (p + q))) m) :
    opsM P G R ops K (⟨d, .binOp .add T x y T', ty, pos, aft, none⟩ :: rest) a m :=
  st_bin (fun w => by
    have : IntKind.i64.wrap ((p : Int) + q) = ((p + q : Nat) : Int) := by rw [wrap_i64 (by omega) (by omega)]; omega
    simp [hx, hy, eqGuard, binOp, Op.intArith, this]) h
theorem st_rem_i {p q : Nat} (hx : a.eval x = ii p) (hy : a.eval y = ii q) (hq : 0 < q) (h : opsM P G R ops K rest (a.put d (ii (p % q))) m) :
    opsM P G R ops K (⟨d, .binOp .rem T x y T', ty, pos, aft, none⟩ :: rest) a m :=
  st_bin (fun w => by
    have h0 : ¬ ((q : Int) = 0) := by omega
    have e : ((p : Int).tmod (q : Int)) = ((p % q : Nat) : Int) := by
      rw [Int.tmod_eq_emod_of_nonneg (by omega)]; simp
    simp only [hx, hy, eqGuard, binOp, Op.intDiv, h0, if_false, e]
    simp) h
theorem st_sub_z {p q : Int} (hx : a.eval x = .int .i64 p) (hy : a.eval y = .int .i64 q) (h0 : -9223372036854775808 ≤ p - q) (h1 : p - q < 9223372036854775808) (h : opsM P G R ops K rest (a.put d (.int .i64 (p - q))) m) :
    opsM P G R ops K (⟨d, .binOp .sub T x y T', ty, pos, aft, none⟩ :: rest) a m :=
  st_bin (fun w => by simp [hx, hy, eqGuard, binOp, Op.intArith, wrap_i64 h0 h1]) h
theorem st_lt {k : IntKind} {p q : Int} (hx : a.eval x = .int k p) (hy : a.eval y = .int k q) (h : opsM P G R ops K rest (a.put d (.bool (decide (p < q)))) m) :
    opsM P G R ops K (⟨d, .binOp .lss T x y T', ty, pos, aft, none⟩ :: rest) a m :=
  st_bin (fun w => by simp [hx, hy, eqGuard, binOp, Op.intCmp]) h
theorem st_gt {k : IntKind} {p q : Int} (hx : a.eval x = .int k p) (hy : a.eval y = .int k q) (h : opsM P G R ops K rest (a.put d (.bool (decide (q < p)))) m) :
    opsM P G R ops K (⟨d, .binOp .gtr T x y T', ty, pos, aft, none⟩ :: rest) a m :=
  st_bin (fun w => by simp [hx, hy, eqGuard, binOp, Op.intCmp]) h
theorem st_ge {k : IntKind} {p q : Int} (hx : a.eval x = .int k p) (hy : a.eval y = .int k q) (h : opsM P G R ops K rest (a.put d (.bool (decide (q ≤ p)))) m) :
    opsM P G R ops K (⟨d, .binOp .geq T x y T', ty, pos, aft, none⟩ :: rest) a m :=
  st_bin (fun w => by simp [hx, hy, eqGuard, binOp, Op.intCmp]) h
theorem st_eq {k : IntKind} {p q : Int} (hx : a.eval x = .int k p) (hy : a.eval y = .int k q) (h : opsM P G R ops K rest (a.put d (.bool (decide (p = q)))) m) :
    opsM P G R ops K (⟨d, .binOp .eql T x y T', ty, pos, aft, none⟩ :: rest) a m :=
  st_bin (fun w => by
    have e : (p == q) = decide (p = q) := by by_cases h : p = q <;> simp [h]
    simp [hx, hy, eqGuard, binOp, Op.intCmp, e]) h
theorem st_ne {k : IntKind} {p q : Int} (hx : a.eval x = .int k p) (hy : a.eval y = .int k q) (h : opsM P G R ops K rest (a.put d (.bool (decide (p ≠ q)))) m) :
    opsM P G R ops K (⟨d, .binOp .neq T x y T', ty, pos, aft, none⟩ :: rest) a m :=
  st_bin (fun w => by
    have e : (p != q) = decide (p ≠ q) := by by_cases h : p = q <;> simp [h]
    simp [hx, hy, eqGuard, binOp, Op.intCmp, e]) h
theorem st_not {b : Bool} (hx : a.eval x = .bool b) (h : opsM P G R ops K rest (a.put d (.bool (!b))) m) : opsM P G R ops K (⟨d, .unOp .not T x, ty, pos, aft, none⟩ :: rest) a m :=
  st_quiet (v := .bool (!b)) rfl rfl (fun w => by simp [execOp, hx, Op.unary]) h
theorem st_alloc {z : Value} (hz : (P.info? T).bind (·.zero) = some z) (h : ∀ r, (∀ x ∈ m, x.b ≠ r) → opsM P G R ops K rest (a.put d (ptr r)) (m ++ [⟨r, z.cells, T⟩])) :
    opsM P G R ops K (⟨d, .alloc T, ty, pos, aft, none⟩ :: rest) a m :=
  .inr ⟨rfl, z.cells, T, ptr, fun w => by
    cases hi : P.info? T with
    | none => simp [hi] at hz
    | some i =>
      have hz' : i.zero = some z := by simpa [hi] using hz
      simp [execOp, Instr.alloc, zeroValue, typeInfo, hi, hz', newVar, newRow, ptr], h⟩
theorem st_box {v : Value} (hx : a.eval x = v) (h : ∀ r, (∀ x ∈ m, x.b ≠ r) → opsM P G R ops K rest (a.put d (ptr r)) (m ++ [⟨r, v.cells, T⟩])) :
    opsM P G R ops K (⟨d, .box T x, ty, pos, aft, none⟩ :: rest) a m :=
  .inr ⟨rfl, v.cells, T, ptr, fun w => by simp [execOp, Instr.box, newVar, newRow, ptr, hx], h⟩
def rowLike : TypeDesc → Bool
  | .struct _ | .array _ _ => true
  | _ => false
theorem run_isAgg {td : TypeDesc} (hT : P.underlying T = some td) (w : World) : (isAgg T).run P w = .ok (rowLike td) w := by
  simp only [isAgg, underlying, program]
  simp only [Sem.run_bind, Sem.run, Result.andThen_ok, hT]
  cases td <;> rfl
theorem mem_of_get {i : Nat} {z : Blk} (hm : m[i]? = some z) : z ∈ m := List.mem_of_getElem? hm
theorem st_load1 {b o i : Nat} {c : Array Value} {t : TypeId} {v : Value} {td : TypeDesc} (hT : P.underlying T = some td) (hn : rowLike td = false) (hx : a.eval x = .pointer (some ⟨b, o, none⟩))
    (hm : m[i]? = some ⟨b, c, t⟩) (hX : b ∉ R.X ∧ inL R.L b) (hc : c[o]? = some v) (h : opsM P G R ops K rest (a.put d v) m) : opsM P G R ops K (⟨d, .load T x, ty, pos, aft, none⟩ :: rest) a m :=
  .inr ⟨rfl, v, fun w _ hw => .inl (by
    have hin := hw _ (mem_of_get hm) hX
    have hcell : w.cell? ⟨b, o, none⟩ = some v := by rw [In.cell hin o]; exact hc
    simp only [execOp, Instr.loadAt, hx, Instr.sureAddr, loadVar]
    simp [run_isAgg hT, hn, hcell]), h⟩
theorem st_load1g {b o i : Nat} {c : Array Value} {t : TypeId} {v : Value} {td : TypeDesc} (hT : P.underlying T = some td) (hn : rowLike td = false) (hx : a.eval x = .pointer (some ⟨b, o, none⟩))
    (hm : G[i]? = some ⟨b, c, t⟩) (hc : c[o]? = some v) (h : opsM P G R ops K rest (a.put d v) m) : opsM P G R ops K (⟨d, .load T x, ty, pos, aft, none⟩ :: rest) a m :=
  .inr ⟨rfl, v, fun w hw _ => .inl (by
    have hin := hw _ (mem_of_get hm)
    have hcell : w.cell? ⟨b, o, none⟩ = some v := by rw [hin.2 o (Array.getElem?_eq_some_iff.1 hc).1]; exact hc
    simp only [execOp, Instr.loadAt, hx, Instr.sureAddr, loadVar]
    simp [run_isAgg hT, hn, hcell]), h⟩
theorem run_loadCellsFrom {w : World} {z : Blk} (hin : RIn w z) : ∀ (n i : Nat) (acc : Array Value), i + n = z.c.size →
    (loadCellsFrom ⟨z.b, 0, none⟩ i n acc).run P w = .ok (acc ++ z.c.extract i z.c.size) w
  | 0, i, acc, h => by
    have : i = z.c.size := by omega
    subst this
    simp [loadCellsFrom]
  | n + 1, i, acc, h => by
    have hi : i < z.c.size := by omega
    have hcell : w.cell? ((⟨z.b, 0, none⟩ : Addr).add i) = some z.c[i] := by
      have e : (⟨z.b, 0, none⟩ : Addr).add i = ⟨z.b, i, none⟩ := by
        unfold Addr.add; split
        · rename_i h0; subst h0; rfl
        · simp
      rw [e, hin.2 i hi]; simp [hi]
    unfold loadCellsFrom
    simp only [Sem.run_bind, run_load, hcell, Result.andThen_ok]
    rw [run_loadCellsFrom hin n (i + 1) (acc.push z.c[i]) (by omega)]
    congr 1
    apply Array.ext
    · simp; omega
    · intro j h1 h2
      by_cases hj : j < acc.size
      · have hj2 : j < acc.size + 1 := by omega
        simp [hj, hj2, Array.getElem_push]
      · by_cases hj' : j = acc.size
        · subst hj'; simp
        · have : ¬ j < acc.size + 1 := by omega
          simp [Array.getElem_append, hj, this]
          congr 1; omega
theorem run_loadAll {w : World} {z : Blk} {td : TypeDesc} (hin : RIn w z) (hT : P.underlying T = some td) (hn : rowLike td = true) (hs : (P.info? T).map (·.size) = some z.c.size) :
    (loadVar T ⟨z.b, 0, none⟩).run P w = .ok (.agg z.c) w := by
  cases hi : P.info? T with
  | none => simp [hi] at hs
  | some i =>
    have hsz : i.size = z.c.size := by simpa [hi] using hs
    have := run_loadCellsFrom (P := P) hin z.c.size 0 #[] (by omega)
    simp only [loadVar, loadCells, sizeOf, typeInfo]
    simp [run_isAgg hT, hn, hi, hsz, this]
theorem st_loadA {b i : Nat} {c : Array Value} {t : TypeId} {td : TypeDesc} (hT : P.underlying T = some td) (hn : rowLike td = true) (hs : (P.info? T).map (·.size) = some c.size)
    (hx : a.eval x = .pointer (some ⟨b, 0, none⟩)) (hm : m[i]? = some ⟨b, c, t⟩) (hX : b ∉ R.X ∧ inL R.L b) (h : opsM P G R ops K rest (a.put d (.agg c)) m) : opsM P G R ops K (⟨d, .load T x, ty, pos, aft, none⟩ :: rest) a m :=
  .inr ⟨rfl, .agg c, fun w _ hw => .inl (by
    have hin := (hw _ (mem_of_get hm) hX).read
    simp only [execOp, Instr.loadAt, hx, Instr.sureAddr]
    simp [run_loadAll hin hT hn hs]), h⟩
theorem setBlk_setCell {w : World} {z : Blk} (hin : In w z) (o : Nat) (v : Value) : w.setCell ⟨z.b, o, none⟩ v = setBlk w ⟨z.b, z.c.setIfInBounds o v, z.t⟩ := by
  obtain ⟨q, h1, _⟩ := hin
  exact setCell_eq_setRow w z.b o z.c z.t q v h1
theorem run_storeCells_in (g o : Nat) (t : TypeId) : ∀ (vs : List Value) (i : Nat) (cur : Array Value) (w : World), In w ⟨g, cur, t⟩ → o + i + vs.length ≤ cur.size → (∀ v ∈ vs, v.oneCell' = true) →
    (storeCells ⟨g, o, none⟩ vs i).run P w = .ok () (w.setRow g (cur.toList.take (o + i) ++ vs ++ cur.toList.drop (o + i + vs.length)).toArray)
  | [], i, cur, w, ⟨q, hg, _⟩, _, _ => by
    simp only [storeCells, List.append_nil, List.length_nil, Nat.add_zero, List.take_append_drop, Array.toArray_toList]
    rw [setRow_self w g cur t q hg]
    rfl
  | v :: rest, i, cur, w, hin, hl, h1 => by
    have hi : o + i < cur.size := by simp at hl; omega
    have hadd : (⟨g, o, none⟩ : Addr).add i = ⟨g, o + i, none⟩ := by unfold Addr.add; split <;> simp_all
    have hcell : w.cell? ⟨g, o + i, none⟩ = some cur[o + i] := by rw [In.cell hin]; simp [hi]
    have hfro : w.frozen? ⟨g, o + i, none⟩ = false := In.frozen hin hi
    have hsc := setBlk_setCell hin (o + i) v
    have hst : (store ((⟨g, o, none⟩ : Addr).add i) v).run P w = .ok () (w.setRow g (cur.setIfInBounds (o + i) v)) := by
      rw [hadd, run_store P w _ v _ (h1 v (by simp)), hcell]
      simp only [setBlk] at hsc
      simp [hfro, hsc]
    have ih := run_storeCells_in g o t rest (i + 1) (cur.setIfInBounds (o + i) v) (w.setRow g (cur.setIfInBounds (o + i) v)) (hin.set (by simp)) (by simp at hl ⊢; omega) (fun x hx => h1 x (by simp [hx]))
    simp only [storeCells, Sem.run_bind, hst, Result.andThen_ok, ih, setRow_setRow]
    congr 3
    have e := list_seg_step cur.toList (o + i) v rest (by simp at hl ⊢; omega)
    simpa [Array.toList_setIfInBounds, Nat.add_assoc] using e
theorem store_atY {i : Nat} {z : Blk} (hm : m[i]? = some z) (hX : hid R ⟨d, .store T x y, ty, pos, aft, none⟩ z.b) (c' : Array Value) (hsz : c'.size = z.c.size) (hrun : ∀ w, In w z → (execOp a.eval ⟨d, .store T x y, ty, pos, aft, none⟩).run P w = .ok .skip (setBlk w ⟨z.b, c', z.t⟩))
    (h : opsM P G R ops K rest (a.put d undef) (m.set i ⟨z.b, c', z.t⟩)) (hYk : yOk R ⟨d, .store T x y, ty, pos, aft, none⟩ z.b) : opsM P G R ops K (⟨d, .store T x y, ty, pos, aft, none⟩ :: rest) a m := by
  have hi : i < m.length := (List.getElem?_eq_some_iff.1 hm).1
  have hz : m[i] = z := (List.getElem?_eq_some_iff.1 hm).2
  refine .inr ⟨rfl, m.take i, z, m.drop (i + 1), c', ?_, ⟨⟨hX, hYk⟩, hsz⟩, hrun, ?_⟩
  · rw [← hz, List.getElem_cons_drop, List.take_append_drop]
  · rw [List.set_eq_take_append_cons_drop, if_pos hi] at h
    exact h
theorem st_store1Y {b o i : Nat} {c : Array Value} {t : TypeId} {v : Value} (hs : (P.info? T).map (·.size) = some 1) (hx : a.eval x = .pointer (some ⟨b, o, none⟩)) (hy : a.eval y = v) (hv : v.oneCell' = true)
    (hm : m[i]? = some ⟨b, c, t⟩) (hX : hid R ⟨d, .store T x y, ty, pos, aft, none⟩ b) (ho : o < c.size) (h : opsM P G R ops K rest (a.put d undef) (m.set i ⟨b, c.setIfInBounds o v, t⟩)) (hYk : yOk R ⟨d, .store T x y, ty, pos, aft, none⟩ b) : opsM P G R ops K (⟨d, .store T x y, ty, pos, aft, none⟩ :: rest) a m :=
  store_atY hm hX (c.setIfInBounds o v) (by simp) (fun w hin => by
    have hcell : w.cell? ⟨b, o, none⟩ = some c[o] := by rw [In.cell hin o]; simp [ho]
    have hfz := In.frozen hin ho
    simp only at hfz
    have hcs : v.cells = #[v] := by cases v <;> first | rfl | (simp [Value.oneCell'] at hv)
    cases hi : P.info? T with
    | none => simp [hi] at hs
    | some j =>
      have hsz : j.size = 1 := by simpa [hi] using hs
      have e0 : (⟨b, o, none⟩ : Addr).add 0 = ⟨b, o, none⟩ := rfl
      simp only [execOp, Instr.storeAt, hx, hy, Instr.sureAddr, storeVar, sizeOf, typeInfo]
      simp [hi, hsz, hcs, storeCells, e0, run_store _ _ _ _ _ hv, hcell, hfz, setBlk_setCell hin]) h hYk
theorem st_store1 {b o i : Nat} {c : Array Value} {t : TypeId} {v : Value} (hs : (P.info? T).map (·.size) = some 1) (hx : a.eval x = .pointer (some ⟨b, o, none⟩)) (hy : a.eval y = v) (hv : v.oneCell' = true)
    (hm : m[i]? = some ⟨b, c, t⟩) (hX : R.X = [] ∨ b ∈ R.X) (ho : o < c.size) (h : opsM P G R ops K rest (a.put d undef) (m.set i ⟨b, c.setIfInBounds o v, t⟩)) (hY : R.Y = none := by first | rfl | assumption) : opsM P G R ops K (⟨d, .store T x y, ty, pos, aft, none⟩ :: rest) a m := st_store1Y hs hx hy hv hm (hid_none hY hX) ho h (yOk_none hY _ _)
theorem st_storeAY {b i : Nat} {c c' : Array Value} {t : TypeId} (hs : (P.info? T).map (·.size) = some c'.size) (hx : a.eval x = .pointer (some ⟨b, 0, none⟩)) (hy : a.eval y = .agg c')
    (hv : ∀ v ∈ c', v.oneCell' = true) (hm : m[i]? = some ⟨b, c, t⟩) (hX : hid R ⟨d, .store T x y, ty, pos, aft, none⟩ b) (ho : c'.size = c.size) (h : opsM P G R ops K rest (a.put d undef) (m.set i ⟨b, c', t⟩)) (hYk : yOk R ⟨d, .store T x y, ty, pos, aft, none⟩ b) : opsM P G R ops K (⟨d, .store T x y, ty, pos, aft, none⟩ :: rest) a m :=
  store_atY hm hX c' ho (fun w hin => by
    have key : (storeCells ⟨b, 0, none⟩ c'.toList 0).run P w = .ok () (setBlk w ⟨b, c', t⟩) := by
      have h1 := run_storeCells_in (P := P) b 0 t c'.toList 0 c w hin (by simp [ho]) (fun v h => hv v (by simpa using h))
      rw [h1]
      congr 1
      unfold setBlk
      congr 1
      apply Array.ext'
      simp [ho]
    cases hi : P.info? T with
    | none => simp [hi] at hs
    | some j =>
      have hsz : j.size = c'.size := by simpa [hi] using hs
      simp only [execOp, Instr.storeAt, hx, hy, Instr.sureAddr, storeVar, sizeOf, typeInfo]
      simp [hi, hsz, Value.cells, key]) h hYk
theorem st_storeA {b i : Nat} {c c' : Array Value} {t : TypeId} (hs : (P.info? T).map (·.size) = some c'.size) (hx : a.eval x = .pointer (some ⟨b, 0, none⟩)) (hy : a.eval y = .agg c')
    (hv : ∀ v ∈ c', v.oneCell' = true) (hm : m[i]? = some ⟨b, c, t⟩) (hX : R.X = [] ∨ b ∈ R.X) (ho : c'.size = c.size) (h : opsM P G R ops K rest (a.put d undef) (m.set i ⟨b, c', t⟩)) (hY : R.Y = none := by first | rfl | assumption) : opsM P G R ops K (⟨d, .store T x y, ty, pos, aft, none⟩ :: rest) a m := st_storeAY hs hx hy hv hm (hid_none hY hX) ho h (yOk_none hY _ _)
theorem st_index {b o j n : Nat} {k : IntKind} {e : TypeId} (hT : P.underlying T = some (.array n e)) (hs : (P.info? e).map (·.size) = some 1) (hx : a.eval x = .pointer (some ⟨b, o, none⟩)) (hy : a.eval y = .int k (j : Int)) (hj : j < n)
    (h : opsM P G R ops K rest (a.put d (.pointer (some ⟨b, o + j, none⟩))) m) : opsM P G R ops K (⟨d, .indexAddr T x y, ty, pos, aft, none⟩ :: rest) a m :=
  st_quiet (v := .pointer (some ⟨b, o + j, none⟩)) rfl rfl (fun w => by
    cases hi : P.info? e with
    | none => simp [hi] at hs
    | some i =>
      have hsz : i.size = 1 := by simpa [hi] using hs
      have h0 : (0 : Int) ≤ j ∧ (j : Int) < n := by omega
      have ha : (⟨b, o, none⟩ : Addr).add j = ⟨b, o + j, none⟩ := by
        unfold Addr.add; split
        · rename_i h0; subst h0; rfl
        · simp
      simp only [execOp, Instr.indexAt, hx, hy, asIntOf, underlying, program, sizeOf, typeInfo, Instr.sureAddr]
      simp [Sem.run, hT, hi, hsz, h0, ha, hj]) h
theorem st_build {z : Value} {l : Nat} {e : TypeId} {parts : Array (Nat × Operand)} {pv : List (Nat × Value)} {c : Array Value} (hz : (P.info? T).bind (·.zero) = some z) (hT : P.underlying T = some (.array l e)) (hs : (P.info? e).map (·.size) = some 1)
    (hp : parts.toList.map (fun p => (p.1, a.eval p.2)) = pv) (hf : Instr.fill (fun i => some (i * 1, 1)) z.cells pv = some c)
    (h : opsM P G R ops K rest (a.put d (.agg c)) m) : opsM P G R ops K (⟨d, .build T parts, ty, pos, aft, none⟩ :: rest) a m :=
  st_quiet (v := .agg c) rfl rfl (fun w => by
    cases hi : P.info? T with
    | none => simp [hi] at hz
    | some i =>
      have hz' : i.zero = some z := by simpa [hi] using hz
      cases he : P.info? e with
      | none => simp [he] at hs
      | some j =>
        have hsz : j.size = 1 := by simpa [he] using hs
        have hp' : (parts.map fun (i, x) => (i, a.eval x)).toList = pv := by rw [← hp]; simp
        simp only [execOp, Instr.build, zeroValue, typeInfo, underlying, program, sizeOf]
        simp only [hp']
        simp only [Sem.run_bind, Sem.run, Sem.run_pure, Result.andThen_ok, hi, hz', hT, he, hsz, hf]) h
theorem st_pick {p q r : Operand} {t : Bool} {v : Value} (hc : a.eval p = .bool t) (hv : (if t then a.eval q else a.eval r) = v) (h : opsM P G R ops K rest (a.put d v) m) :
    opsM P G R ops K (⟨d, .pick p q r, ty, pos, aft, none⟩ :: rest) a m :=
  st_quiet (v := v) rfl rfl (fun w => by simp [execOp, hc, asBool, hv]) h
theorem st_yes {op : Op} {g : Nat} {want : Bool} (hw : yielded ops a.tmps g = some want) (h : opsM P G R ops K (⟨d, op, ty, pos, aft, none⟩ :: rest) a m) : opsM P G R ops K (⟨d, op, ty, pos, aft, some (g, want)⟩ :: rest) a m := by
  rcases h with ⟨h1, _⟩ | ⟨_, h2⟩
  · simp [Region.wanted] at h1
  · exact .inr ⟨by simp [Region.wanted, hw], h2⟩
theorem st_no {op : Op} {g : Nat} {want b : Bool} (hw : yielded ops a.tmps g = some b) (hne : b ≠ want) (h : opsM P G R ops K rest (a.put d undef) m) : opsM P G R ops K (⟨d, op, ty, pos, aft, some (g, want)⟩ :: rest) a m :=
  .inl ⟨by simp [Region.wanted, hw, hne], h⟩
def callOk (R : Reg) : Bool := R.c == 1 || R.c == 4 || R.c == 5
theorem core_call (hR : callOk R = true) {o : Oper} {v : Value} (hr : ∀ w, MemR G w → vis R m w → Yl P o a w v) (h : K (a.put o.dst v) m) : coreM P G R o K a m (bif pureD R o.dst then 1 else R.c) := by
  have key : ∀ w, Yl P o a w v → ∀ S : Value → Mem → Mem → Prop, S v [] [] → Ye P o a w [] S := fun w hy S hS => by
    rcases hy with h1 | ⟨f, args, h1, hc⟩
    · exact .inl ⟨v, [], [], w, h1, hS, Post.of_below (Below.refl _ _)⟩
    · exact .inr ⟨f, args, h1, hc.mono fun e w' ⟨he, hb⟩ => ⟨v, [], [], he, hS, Post.of_below hb⟩⟩
  have fr : FreshM m [] := ⟨by simp, by simp⟩
  cases pureD R o.dst with
  | true => exact ⟨v, hr, h⟩
  | false =>
  show coreM P G R o K a m R.c
  unfold callOk at hR
  generalize R.c = k at hR
  match k with
  | 0 => simp at hR
  | 1 => exact ⟨v, hr, h⟩
  | 2 => simp at hR
  | 3 => simp at hR
  | 4 =>
    refine ⟨fun v' nw => v' = v ∧ nw = [], fun _ => ⟨v, [], ⟨rfl, rfl⟩, by simp, by simp⟩, fun w h1 h2 => key w (hr w h1 h2) _ ⟨rfl, rfl, rfl⟩, ?_⟩
    rintro v' nw ⟨rfl, rfl⟩ _
    simpa using h
  | 5 =>
    refine ⟨[], m, fun v' l1 nw => v' = v ∧ l1 = [] ∧ nw = [], by simp, fun _ => ⟨v, [], [], ⟨rfl, rfl, rfl⟩, by simp, by simp⟩, ?_, fun w h1 h2 _ => key w (hr w h1 (fun z hz _ => h2 z hz)) _ ⟨rfl, rfl, rfl⟩, ?_⟩
    · exact ⟨by rintro v' l1 nw ⟨_, rfl, _⟩; rfl, by simp⟩
    · rintro v' l1 nw ⟨rfl, rfl, rfl⟩ _
      simpa using h
  | 6 => simp at hR
theorem run_call {f : FuncId} {fn : Func} {vs : Array Value} (hf : P.funcs[f]? = some fn) (hn : (fn.name == "runtime.NumGoroutine") = false) (hb : fn.body.isNone = false) (w : World) :
    (callFunc f vs).run P w = .ok (.enter f vs) w := by
  have h1 : fn.name ≠ "runtime.NumGoroutine" := by simpa using hn
  have h2 : ¬ fn.body = none := by intro e; rw [e] at hb; cases hb
  simp [callFunc, hf, h1, h2]
def enters (P : Program) (f : FuncId) : Bool := match P.funcs[f]? with
  | some fn => !(fn.name == "runtime.NumGoroutine") && !fn.body.isNone
  | none => false
theorem enters_run {f : FuncId} {vs : Array Value} (h : enters P f = true) (w : World) : (callFunc f vs).run P w = .ok (.enter f vs) w := by
  unfold enters at h
  split at h
  · rename_i fn hf
    simp only [Bool.and_eq_true, Bool.not_eq_true'] at h
    exact run_call hf h.1 h.2 w
  · cases h
theorem st_callV (hR : callOk R = true) {fo : Operand} {f : FuncId} {args : Array Operand} {tys : Array TypeId} {vs cap : Array Value} {v : Value} (hf : a.eval fo = .func (.func f) #[] cap) (hargs : args.map a.eval = vs) (he : enters P f = true)
    (hF : ∀ w, MemR G w → vis R m w → Calls P f (vs ++ cap) w (fun e w' => e = .returned v ∧ Below w.heap.size w w'))
    (h : opsM P G R ops K rest (a.put d v) m) : opsM P G R ops K (⟨d, .call ⟨.value fo, args, tys⟩, ty, pos, aft, none⟩ :: rest) a m :=
  .inr ⟨rfl, core_call hR (v := v) (fun w hG hm => .inr ⟨f, vs ++ cap, by
    have := enters_run (P := P) (vs := vs ++ cap) he w
    simp only [execOp, resolve, hf, hargs, Deferred.ofValue, invoke]
    simp [this], hF w hG hm⟩) h⟩
theorem st_func {fn : Go.Fn} {fs cs : Array Operand} {vf vc : Array Value} (h1 : fs.map a.eval = vf) (h2 : cs.map a.eval = vc) (h : opsM P G R ops K rest (a.put d (.func fn vf vc)) m) :
    opsM P G R ops K (⟨d, .makeFunc fn fs cs, ty, pos, aft, none⟩ :: rest) a m :=
  st_quiet (v := .func fn vf vc) rfl rfl (fun w => by
    simp only [execOp, Instr.makeFunc, h1, h2]
    rfl) h
theorem st_call (hR : callOk R = true) {f : FuncId} {args : Array Operand} {tys : Array TypeId} {vs : Array Value} {v : Value} (hargs : args.map a.eval = vs) (he : enters P f = true) (hF : Fn P G f vs v)
    (h : opsM P G R ops K rest (a.put d v) m) : opsM P G R ops K (⟨d, .call ⟨.value (.func f), args, tys⟩, ty, pos, aft, none⟩ :: rest) a m :=
  .inr ⟨rfl, core_call hR (v := v) (fun w hG _ => .inr ⟨f, vs, by
    have := enters_run (P := P) (vs := vs) he w
    have e1 : a.eval (.func f) = .func (.func f) #[] #[] := rfl
    simp only [execOp, resolve, e1, hargs, Deferred.ofValue, invoke]
    simp [this], hF w hG⟩) h⟩
theorem st_callX (hR : R.c = 5) (hpu : pureD R d = false) {fo : Operand} {f : FuncId} {args : Array Operand} {tys : Array TypeId} {vs cap : Array Value} {g' l0 lr : Mem} {S : Value → Mem → Mem → Prop} (hf : a.eval fo = .func (.func f) #[] cap) (hargs : args.map a.eval = vs) (he : enters P f = true)
    (hF : Fx P g' l0 f (vs ++ cap) S) (hoff : ∀ x ∈ l0, offL R.L x.b) (hp : List.Perm m (l0 ++ lr)) (hS : ∀ m' : Mem, ∃ v l1 nw, S v l1 nw ∧ FreshM m' nw) (hi : ∀ v l1 nw, S v l1 nw → l1.map (·.b) = l0.map (·.b)) (hg : ∀ w, MemR G w → MemIn m w → MemR g' w) (hn : (l0.map (·.b)).Nodup) (hgl : (∀ x ∈ G, ∀ y ∈ m, x.b ≠ y.b) → ∀ x ∈ g', x.b ∉ l0.map (·.b))
    (h : ∀ v l1 nw, S v l1 nw → FreshM m nw → opsM P G R ops K rest (a.put d v) (l1 ++ lr ++ nw)) : opsM P G R ops K (⟨d, .call ⟨.value fo, args, tys⟩, ty, pos, aft, none⟩ :: rest) a m :=
  .inr ⟨rfl, by show coreM _ _ _ _ _ _ _ (bif pureD R d then 1 else R.c); rw [hpu, hR]; exact ⟨l0, lr, S, hp, hS, ⟨hi, hoff⟩, fun w hG hm hA => .inr ⟨f, vs ++ cap, by
    have := enters_run (P := P) (vs := vs ++ cap) he w
    simp only [execOp, resolve, hf, hargs, Deferred.ofValue, invoke]
    simp [this], hF w (hg w hG hm) (fun x hx => hm x (hp.mem_iff.2 (by simp [hx]))) hn (hgl hA)⟩, h⟩⟩
theorem st_callM (hR : R.c = 4) (hpu : pureD R d = false) {fo : Operand} {f : FuncId} {args : Array Operand} {tys : Array TypeId} {vs cap : Array Value} {g' : Mem} {S : Value → Mem → Prop} (hf : a.eval fo = .func (.func f) #[] cap) (hargs : args.map a.eval = vs) (he : enters P f = true)
    (hF : Fx P g' [] f (vs ++ cap) (fun v l1 nw => l1 = [] ∧ S v nw)) (hS : ∀ m' : Mem, ∃ v nw, S v nw ∧ FreshM m' nw) (hg : ∀ w, MemR G w → vis R m w → MemR g' w)
    (h : ∀ v nw, S v nw → FreshM m nw → opsM P G R ops K rest (a.put d v) (m ++ nw)) : opsM P G R ops K (⟨d, .call ⟨.value fo, args, tys⟩, ty, pos, aft, none⟩ :: rest) a m :=
  .inr ⟨rfl, by show coreM _ _ _ _ _ _ _ (bif pureD R d then 1 else R.c); rw [hpu, hR]; exact ⟨S, hS, fun w hG hm => .inr ⟨f, vs ++ cap, by
    have := enters_run (P := P) (vs := vs ++ cap) he w
    simp only [execOp, resolve, hf, hargs, Deferred.ofValue, invoke]
    simp [this], hF w (hg w hG hm) (by simp [MemIn]) (by simp) (by simp)⟩, h⟩⟩
end
end Go.Proofs.Ytfldnikepdbgkaa
namespace Go.Proofs.Ytfldnikepdbgkaa
open Go Go.RowKit
abbrev Env := List (Nat × Value)
def lk : Env → Nat → Option Value
  | [], _ => none
  | (s, v) :: r, t => bif Nat.beq s t then some v else lk r t
def rd (E : Env) : Operand → Option Value
  | .tmp t => lk E t
  | .const v => some v
  | .global g => some (.pointer (some ⟨g, 0, none⟩))
  | .func f => some (.func (.func f) #[] #[])
def rdl (E : Env) : List Operand → Option (List Value)
  | [] => some []
  | x :: r => match rd E x, rdl E r with
    | some v, some vs => some (v :: vs)
    | _, _ => none
def sub : Env → Env → Prop
  | [], _ => True
  | (t, v) :: r, E => lk E t = some v ∧ sub r E
structure Fits (n : Nat) (E : Env) (a : Act) : Prop where
  size : a.tmps.size = n
  defers : a.defers = []
  slots : ∀ t v, lk E t = some v → a.tmps[t]? = some v
theorem Fits.rd {n : Nat} {E : Env} {a : Act} (h : Fits n E a) {x : Operand} {v : Value} (hx : Ytfldnikepdbgkaa.rd E x = some v) : a.eval x = v := by
  cases x with
  | tmp t =>
    have := h.slots t v hx
    simp [Act.eval, Array.getD_eq_getD_getElem?, this]
  | const c => simpa [Ytfldnikepdbgkaa.rd, Act.eval] using hx
  | global g => simpa [Ytfldnikepdbgkaa.rd, Act.eval] using hx
  | func f => simpa [Ytfldnikepdbgkaa.rd, Act.eval] using hx
theorem Fits.rdl {n : Nat} {E : Env} {a : Act} (h : Fits n E a) : ∀ {l : List Operand} {vs : List Value}, Ytfldnikepdbgkaa.rdl E l = some vs → l.map a.eval = vs
  | [], vs, hl => by simpa [Ytfldnikepdbgkaa.rdl] using hl
  | x :: l, vs, hl => by
    unfold Ytfldnikepdbgkaa.rdl at hl
    split at hl
    · rename_i v ws h1 h2
      simp at hl
      subst hl
      rw [List.map_cons, h.rd h1, Fits.rdl h h2]
    · cases hl
theorem Fits.args {n : Nat} {E : Env} {a : Act} (h : Fits n E a) {l : Array Operand} {vs : List Value} (hl : Ytfldnikepdbgkaa.rdl E l.toList = some vs) : l.map a.eval = vs.toArray := by
  have := h.rdl hl
  apply Array.ext'
  simpa using this
theorem beq_ne {s t : Nat} (h : ¬ s = t) : Nat.beq s t = false := by
  cases hb : Nat.beq s t with
  | false => rfl
  | true => exact absurd (Nat.eq_of_beq_eq_true hb) h
theorem lk_cons (s : Nat) (v : Value) (E : Env) (t : Nat) : lk ((s, v) :: E) t = if s = t then some v else lk E t := by
  show (bif Nat.beq s t then some v else lk E t) = _
  by_cases h : s = t
  · subst h; simp
  · simp [beq_ne h, h]
theorem Fits.put {n : Nat} {E : Env} {a : Act} (h : Fits n E a) {d : Nat} (hd : Nat.blt d n = true) (v : Value) : Fits n ((d, v) :: E) (a.put (some d) v) := by
  have hd' : d < n := by simpa using hd
  refine ⟨by simpa [Act.put] using h.size, by simpa [Act.put] using h.defers, fun t u ht => ?_⟩
  rw [lk_cons] at ht
  simp only [Act.put]
  split at ht
  · rename_i e; subst e
    rw [Array.getElem?_setIfInBounds_self_of_lt (by rw [h.size]; exact hd')]; exact ht
  · rename_i e
    rw [Array.getElem?_setIfInBounds_ne e]; exact h.slots t u ht
theorem sub_lk : ∀ {E E' : Env}, sub E E' → ∀ t v, lk E t = some v → lk E' t = some v
  | [], _, _, _, _, h => by simp [lk] at h
  | (s, u) :: E, E', ⟨h1, h2⟩, t, v, h => by
    rw [lk_cons] at h
    split at h
    · rename_i e; subst e; rw [h1]; exact h
    · exact sub_lk h2 t v h
theorem Fits.sub {n : Nat} {E E' : Env} {a : Act} (h : Fits n E' a) (hs : Ytfldnikepdbgkaa.sub E E') : Fits n E a := ⟨h.size, h.defers, fun t v ht => h.slots t v (sub_lk hs t v ht)⟩
abbrev Mm := List (Nat × Option Blk)
def lkM : Mm → Nat → Option Blk
  | [], _ => none
  | (s, v) :: r, t => bif Nat.beq s t then v else lkM r t
theorem lkM_cons (s : Nat) (v : Option Blk) (M : Mm) (t : Nat) : lkM ((s, v) :: M) t = if s = t then v else lkM M t := by
  show (bif Nat.beq s t then v else lkM M t) = _
  by_cases h : s = t
  · subst h; simp
  · simp [beq_ne h, h]
structure FitsM (M : Mm) (m : Mem) : Prop where
  has : ∀ i x, lkM M i = some x → x ∈ m
  apart : ∀ i j x y, lkM M i = some x → lkM M j = some y → i ≠ j → x.b ≠ y.b
def subL : Mm → Mm → Prop
  | [], _ => True
  | (t, v) :: r, M => lkM M t = v ∧ subL r M
theorem subL_lk : ∀ {M M' : Mm}, subL M M' → ∀ t v, lkM M t = some v → lkM M' t = some v
  | [], _, _, _, _, h => by simp [lkM] at h
  | (s, u) :: M, M', ⟨h1, h2⟩, t, v, h => by
    rw [lkM_cons] at h
    split at h
    · rename_i e; subst e; rw [h1]; exact h
    · exact subL_lk h2 t v h
theorem FitsM.sub {M M' : Mm} {m : Mem} (h : FitsM M' m) (hs : subL M M') : FitsM M m :=
  ⟨fun i x hx => h.has i x (subL_lk hs i x hx), fun i j x y hx hy => h.apart i j x y (subL_lk hs i x hx) (subL_lk hs j y hy)⟩
theorem FitsM.nil (m : Mem) : FitsM [] m := ⟨fun _ _ h => by simp [lkM] at h, fun _ _ _ _ h => by simp [lkM] at h⟩
theorem FitsM.alloc {M : Mm} {m : Mem} (h : FitsM M m) (i : Nat) (x : Blk) (hx : ∀ y ∈ m, y.b ≠ x.b) : FitsM ((i, some x) :: M) (m ++ [x]) := by
  refine ⟨fun j y hy => ?_, fun j k y z hy hz hne => ?_⟩
  · rw [lkM_cons] at hy
    split at hy
    · cases hy; simp
    · exact List.mem_append_left _ (h.has j y hy)
  · rw [lkM_cons] at hy hz
    split at hy
    · split at hz
      · rename_i e1 e2; exact absurd (e1.symm.trans e2) hne
      · cases hy; exact fun e => hx z (h.has k z hz) e.symm
    · split at hz
      · cases hz; exact hx y (h.has j y hy)
      · exact h.apart j k y z hy hz hne
theorem FitsM.store {M : Mm} {m : Mem} (h : FitsM M m) {i : Nat} {x : Blk} (hx : lkM M i = some x) {k : Nat} (hk : m[k]? = some x) (c' : Array Value) : FitsM ((i, some ⟨x.b, c', x.t⟩) :: M) (m.set k ⟨x.b, c', x.t⟩) := by
  have hlt : k < m.length := (List.getElem?_eq_some_iff.1 hk).1
  have hkx : m[k] = x := (List.getElem?_eq_some_iff.1 hk).2
  refine ⟨fun j y hy => ?_, fun j l y z hy hz hne => ?_⟩
  · rw [lkM_cons] at hy
    split at hy
    · cases hy; exact List.mem_set hlt _
    · rename_i hne
      have hm := h.has j y hy
      have hb : y.b ≠ x.b := h.apart j i y x hy hx (fun e => hne e.symm)
      obtain ⟨l, hl, rfl⟩ := List.getElem_of_mem hm
      have hkl : k ≠ l := fun e => by subst e; rw [hkx] at hb; exact hb rfl
      have : (m.set k ⟨x.b, c', x.t⟩)[l]? = some m[l] := by
        rw [List.getElem?_set_ne hkl, List.getElem?_eq_getElem hl]
      exact List.mem_of_getElem? this
  · rw [lkM_cons] at hy hz
    split at hy
    · split at hz
      · rename_i e1 e2; exact absurd (e1.symm.trans e2) hne
      · rename_i e2; cases hy; exact h.apart i l x z hx hz (fun e => e2 e)
    · split at hz
      · rename_i e1 _; cases hz; exact h.apart j i y x hy hx (fun e => e1 e.symm)
      · exact h.apart j l y z hy hz hne
theorem FitsM.at {M : Mm} {m : Mem} (h : FitsM M m) {i : Nat} {x : Blk} (hx : lkM M i = some x) : ∃ k : Nat, m[k]? = some x := List.getElem?_of_mem (h.has i x hx)
def okX (M : Mm) (i : Nat) : List Nat → List Nat → Prop
  | [], [] => True
  | j :: js, x :: xs => Nat.beq j i = false ∧ (lkM M j).map (·.b) = some x ∧ okX M i js xs
  | _, _ => False
theorem okX_not {M : Mm} {m : Mem} (hM : FitsM M m) {i : Nat} {z : Blk} (hi : lkM M i = some z) : ∀ {js xs : List Nat}, okX M i js xs → z.b ∉ xs
  | [], [], _ => by simp
  | j :: js, x :: xs, ⟨h1, h2, h3⟩ => fun hm => by
    rcases List.mem_cons.1 hm with e | e
    · cases hj : lkM M j with
      | none => simp [hj] at h2
      | some y =>
        simp [hj] at h2
        exact hM.apart j i y z hj hi (fun e' => by subst e'; simp at h1) (h2.trans e.symm)
    · exact okX_not hM hi h3 e
  | [], _ :: _, h => h.elim
  | _ :: _, [], h => h.elim
def okXL (M : Mm) (i : Nat) (js : List Nat) (R : Reg) : Prop := match R.L with
  | none => okX M i js R.X
  | some l => okX M i js R.X ∧ ∃ b, (lkM M i).map (·.b) = some b ∧ b ∈ l
theorem okXL_not {M : Mm} {m : Mem} {R : Reg} (hM : FitsM M m) {i : Nat} {z : Blk} (hi : lkM M i = some z) {js : List Nat} (h : okXL M i js R) : z.b ∉ R.X ∧ inL R.L z.b := by
  unfold okXL at h
  cases hL : R.L with
  | none => rw [hL] at h; exact ⟨okX_not hM hi h, trivial⟩
  | some l =>
    rw [hL] at h
    obtain ⟨h1, b, h2, h3⟩ := h
    rw [hi] at h2
    simp only [Option.map_some, Option.some.injEq] at h2
    exact ⟨okX_not hM hi h1, by rw [h2]; exact h3⟩
def EK (n : Nat) (K : Env → Mm → Prop) : Act → Mem → Prop := fun a m => ∃ E M, Fits n E a ∧ FitsM M m ∧ K E M
def EQ (n : Nat) (Q : Exit → Env → Mm → Prop) : Exit → Act → Mem → Prop := fun e a m => ∃ E M, Fits n E a ∧ FitsM M m ∧ Q e E M
def OpsE (P : Program) (G : Mem) (R : Reg) (ops : Array Oper) (n : Nat) (K : Env → Mm → Prop) (l : List Oper) (E : Env) (M : Mm) : Prop := ∀ (a : Act) (m : Mem), Fits n E a → FitsM M m → opsM P G R ops (EK n K) l a m
def SatE (P : Program) (G : Mem) (c : Code) (n : Nat) (Q : Exit → Env → Mm → Prop) (E : Env) (M : Mm) : Prop := ∀ (a : Act) (m : Mem), Fits n E a → FitsM M m → Sat P G c (EQ n Q) a m
section
variable {P : Program} {G : Mem} {R : Reg} {ops : Array Oper} {n : Nat} {K : Env → Mm → Prop} {Q : Exit → Env → Mm → Prop} {rest : List Oper} {E : Env} {M : Mm} {d : Nat} {ty : TypeId} {pos : String} {aft : Array Edge}
variable {T T' : TypeId} {x y : Operand}
theorem e_nil (h : K E M) : OpsE P G R ops n K [] E M := fun _ _ ha hM => ⟨E, M, ha, hM, h⟩
theorem e_plainR (R : Reg) {id : Nat} (h : OpsE P G R ops n (Q .normal) ops.toList E M) : SatE P G (.region id ops false) n Q E M := fun a m ha hM => sat_plain R (h a m ha hM)
theorem e_plain {id : Nat} (h : OpsE P G noReg ops n (Q .normal) ops.toList E M) : SatE P G (.region id ops false) n Q E M := fun a m ha hM => sat_plain noReg (h a m ha hM)
theorem e_drawR (R : Reg) {id : Nat} (hm : P.follows .mixedOrders = true) (hok : orderOk R ops (List.range ops.size) = true) (h : OpsE P G R ops n (Q .normal) ops.toList E M) : SatE P G (.region id ops true) n Q E M := fun a m ha hM => sat_draw R hm hok (h a m ha hM)
theorem e_draw {id : Nat} (hm : P.follows .mixedOrders = true) (hok : orderOk noReg ops (List.range ops.size) = true) (h : OpsE P G noReg ops n (Q .normal) ops.toList E M) : SatE P G (.region id ops true) n Q E M := fun a m ha hM => sat_draw noReg hm hok (h a m ha hM)
theorem e_order (R : Reg) (ord : List Nat) {id : Nat} (hm : P.follows .mixedOrders = true) (hok : orderOk R ops ord = true) (h : OpsE P G R ops n (Q .normal) (ord.map (opOf ops)) E M) : SatE P G (.region id ops true) n Q E M := fun a m ha hM => sat_order R ord hm hok (h a m ha hM)
theorem e_skip (h : Q .normal E M) : SatE P G .skip n Q E M := fun _ _ ha hM => sat_skip ⟨E, M, ha, hM, h⟩
theorem e_exit {id : Nat} (h : Q (.exit id) E M) : SatE P G (.exit id) n Q E M := fun _ _ ha hM => sat_exit ⟨E, M, ha, hM, h⟩
theorem e_ret (h : Q .ret E M) : SatE P G .ret n Q E M := fun _ _ ha hM => sat_ret ⟨E, M, ha, hM, h⟩
def thenE (next : Env → Mm → Prop) (Q : Exit → Env → Mm → Prop) : Exit → Env → Mm → Prop
  | .normal, a, m => next a m
  | e, a, m => Q e a m
theorem e_seq {c c' : Code} (h : SatE P G c n (thenE (SatE P G c' n Q) Q) E M) : SatE P G (.seq c c') n Q E M := fun a m ha hM =>
  sat_seq (sat_mono (h a m ha hM) fun e a' m' ⟨E', M', h1, h0, h2⟩ => by
    cases e <;> first | exact h2 a' m' h1 h0 | exact ⟨E', M', h1, h0, h2⟩)
theorem e_cond {c : Operand} {x y : Code} {t : Bool} (hc : rd E c = some (.bool t)) (ht : t = true → SatE P G x n Q E M) (hf : t = false → SatE P G y n Q E M) : SatE P G (.cond c x y) n Q E M := fun a m ha hM =>
  sat_cond (ha.rd hc) (fun e => ht e a m ha hM) (fun e => hf e a m ha hM)
def inBlockE (id : Nat) (Q : Exit → Env → Mm → Prop) : Exit → Env → Mm → Prop
  | .exit id', a, m => bif Nat.beq id' id then Q .normal a m else Q (.exit id') a m
  | e, a, m => Q e a m
theorem e_block {id : Nat} {c : Code} (h : SatE P G c n (inBlockE id Q) E M) : SatE P G (.block id c) n Q E M := fun a m ha hM =>
  sat_block (sat_mono (h a m ha hM) fun e a' m' ⟨E', M', h1, h0, h2⟩ => by
    cases e with
    | exit id' =>
      simp only [inBlockE, inBlockM] at h2 ⊢
      by_cases he : id' = id
      · subst he; simp at h2 ⊢; exact ⟨E', M', h1, h0, h2⟩
      · simp [beq_ne he, he] at h2 ⊢; exact ⟨E', M', h1, h0, h2⟩
    | _ => exact ⟨E', M', h1, h0, h2⟩)
theorem e_loop {c : Code} (I : Nat → Env → Mm → Prop) (E0 : Env) (M0 : Mm) (k : Nat) (hs : sub E0 E) (hl : subL M0 M) (h0 : I k E0 M0)
    (round : ∀ k E M, I k E M → SatE P G c n (thenE (fun E' M' => ∃ k' E'' M'', k' < k ∧ sub E'' E' ∧ subL M'' M' ∧ I k' E'' M'') Q) E M) : SatE P G (.loop c) n Q E M := fun a m ha hM =>
  sat_loop (fun k a m => ∃ E M, Fits n E a ∧ FitsM M m ∧ I k E M) (n := k) ⟨E0, M0, ha.sub hs, hM.sub hl, h0⟩ fun k a m ⟨E, M, hE, hM, hI⟩ =>
    sat_mono (round k E M hI a m hE hM) fun e a' m' ⟨E', M', h1, h0, h2⟩ => by
      cases e with
      | normal => obtain ⟨k', E'', M'', h3, h4, h6, h5⟩ := h2; exact ⟨k', h3, E'', M'', h1.sub h4, h0.sub h6, h5⟩
      | _ => exact ⟨E', M', h1, h0, h2⟩
theorem e_move {v : Value} (hx : rd E x = some v) (hd : Nat.blt d n = true) (h : OpsE P G R ops n K rest ((d, v) :: E) M) : OpsE P G R ops n K (⟨some d, .move x, ty, pos, aft, none⟩ :: rest) E M :=
  fun _ _ ha hM => st_move (ha.rd hx) (h _ _ (ha.put hd _) hM)
theorem e_assign {v : Value} (hx : rd E x = some v) (hd : Nat.blt d n = true) (h : OpsE P G R ops n K rest ((d, v) :: E) M) : OpsE P G R ops n K (⟨some d, .assign x, ty, pos, aft, none⟩ :: rest) E M :=
  fun _ _ ha hM => st_assign (ha.rd hx) (h _ _ (ha.put hd _) hM)
theorem e_extract {i : Nat} {vs : Array Value} {v : Value} (hx : rd E x = some (.tuple vs)) (hv : vs[i]? = some v) (hd : Nat.blt d n = true) (h : OpsE P G R ops n K rest ((d, v) :: E) M) : OpsE P G R ops n K (⟨some d, .extract x i, ty, pos, aft, none⟩ :: rest) E M :=
  fun _ _ ha hM => st_extract (ha.rd hx) hv (h _ _ (ha.put hd _) hM)
theorem e_add_i {p q : Nat} (hx : rd E x = some (ii p)) (hy : rd E y = some (ii q)) (hd : Nat.blt d n = true) (hb : p + q < 9223372036854775808) (h : OpsE P G R ops n K rest ((d, ii (p + q)) :: E) M) :
    OpsE P G R ops n K (⟨some d, .binOp .add T x y T', ty, pos, aft, none⟩ :: rest) E M := fun _ _ ha hM => st_add_i (ha.rd hx) (ha.rd hy) hb (h _ _ (ha.put hd _) hM)
theorem e_rem_i {p q : Nat} (hx : rd E x = some (ii p)) (hy : rd E y = some (ii q)) (hd : Nat.blt d n = true) (hq : 0 < q) (h : OpsE P G R ops n K rest ((d, ii (p % q)) :: E) M) :
    OpsE P G R ops n K (⟨some d, .binOp .rem T x y T', ty, pos, aft, none⟩ :: rest) E M := fun _ _ ha hM => st_rem_i (ha.rd hx) (ha.rd hy) hq (h _ _ (ha.put hd _) hM)
theorem e_sub_z {p q : Int} (hx : rd E x = some (.int .i64 p)) (hy : rd E y = some (.int .i64 q)) (hd : Nat.blt d n = true) (h0 : -9223372036854775808 ≤ p - q) (h1 : p - q < 9223372036854775808) (h : OpsE P G R ops n K rest ((d, .int .i64 (p - q)) :: E) M) :
    OpsE P G R ops n K (⟨some d, .binOp .sub T x y T', ty, pos, aft, none⟩ :: rest) E M := fun _ _ ha hM => st_sub_z (ha.rd hx) (ha.rd hy) h0 h1 (h _ _ (ha.put hd _) hM)
theorem e_lt {k : IntKind} {p q : Int} (hx : rd E x = some (.int k p)) (hy : rd E y = some (.int k q)) (hd : Nat.blt d n = true) (h : OpsE P G R ops n K rest ((d, .bool (decide (p < q))) :: E) M) :
    OpsE P G R ops n K (⟨some d, .binOp .lss T x y T', ty, pos, aft, none⟩ :: rest) E M := fun _ _ ha hM => st_lt (ha.rd hx) (ha.rd hy) (h _ _ (ha.put hd _) hM)
theorem e_gt {k : IntKind} {p q : Int} (hx : rd E x = some (.int k p)) (hy : rd E y = some (.int k q)) (hd : Nat.blt d n = true) (h : OpsE P G R ops n K rest ((d, .bool (decide (q < p))) :: E) M) :
    OpsE P G R ops n K (⟨some d, .binOp .gtr T x y T', ty, pos, aft, none⟩ :: rest) E M := fun _ _ ha hM => st_gt (ha.rd hx) (ha.rd hy) (h _ _ (ha.put hd _) hM)
theorem e_ge {k : IntKind} {p q : Int} (hx : rd E x = some (.int k p)) (hy : rd E y = some (.int k q)) (hd : Nat.blt d n = true) (h : OpsE P G R ops n K rest ((d, .bool (decide (q ≤ p))) :: E) M) :
    OpsE P G R ops n K (⟨some d, .binOp .geq T x y T', ty, pos, aft, none⟩ :: rest) E M := fun _ _ ha hM => st_ge (ha.rd hx) (ha.rd hy) (h _ _ (ha.put hd _) hM)
theorem e_eq {k : IntKind} {p q : Int} (hx : rd E x = some (.int k p)) (hy : rd E y = some (.int k q)) (hd : Nat.blt d n = true) (h : OpsE P G R ops n K rest ((d, .bool (decide (p = q))) :: E) M) :
    OpsE P G R ops n K (⟨some d, .binOp .eql T x y T', ty, pos, aft, none⟩ :: rest) E M := fun _ _ ha hM => st_eq (ha.rd hx) (ha.rd hy) (h _ _ (ha.put hd _) hM)
theorem e_ne {k : IntKind} {p q : Int} (hx : rd E x = some (.int k p)) (hy : rd E y = some (.int k q)) (hd : Nat.blt d n = true) (h : OpsE P G R ops n K rest ((d, .bool (decide (p ≠ q))) :: E) M) :
    OpsE P G R ops n K (⟨some d, .binOp .neq T x y T', ty, pos, aft, none⟩ :: rest) E M := fun _ _ ha hM => st_ne (ha.rd hx) (ha.rd hy) (h _ _ (ha.put hd _) hM)
theorem e_not {b : Bool} (hx : rd E x = some (.bool b)) (hd : Nat.blt d n = true) (h : OpsE P G R ops n K rest ((d, .bool (!b)) :: E) M) : OpsE P G R ops n K (⟨some d, .unOp .not T x, ty, pos, aft, none⟩ :: rest) E M :=
  fun _ _ ha hM => st_not (ha.rd hx) (h _ _ (ha.put hd _) hM)
theorem e_alloc (i : Nat) {z : Value} (hz : (P.info? T).bind (·.zero) = some z) (hd : Nat.blt d n = true) (h : ∀ r, OpsE P G R ops n K rest ((d, ptr r) :: E) ((i, some ⟨r, z.cells, T⟩) :: M)) :
    OpsE P G R ops n K (⟨some d, .alloc T, ty, pos, aft, none⟩ :: rest) E M := fun _ _ ha hM => st_alloc hz fun r hr => h r _ _ (ha.put hd _) (hM.alloc i ⟨r, z.cells, T⟩ hr)
theorem e_box (i : Nat) {v : Value} (hx : rd E x = some v) (hd : Nat.blt d n = true) (h : ∀ r, OpsE P G R ops n K rest ((d, ptr r) :: E) ((i, some ⟨r, v.cells, T⟩) :: M)) :
    OpsE P G R ops n K (⟨some d, .box T x, ty, pos, aft, none⟩ :: rest) E M := fun _ _ ha hM => st_box (ha.rd hx) fun r hr => h r _ _ (ha.put hd _) (hM.alloc i ⟨r, v.cells, T⟩ hr)
theorem e_load1 {b o i : Nat} {c : Array Value} {t : TypeId} {v : Value} {td : TypeDesc} (hT : P.underlying T = some td) (hn : rowLike td = false) (hx : rd E x = some (.pointer (some ⟨b, o, none⟩)))
    (hm : lkM M i = some ⟨b, c, t⟩) (hc : c[o]? = some v) (hd : Nat.blt d n = true) (hX : ∃ js, okXL M i js R) (h : OpsE P G R ops n K rest ((d, v) :: E) M) : OpsE P G R ops n K (⟨some d, .load T x, ty, pos, aft, none⟩ :: rest) E M :=
  fun _ _ ha hM => by
    obtain ⟨k, hk⟩ := hM.at hm
    exact st_load1 hT hn (ha.rd hx) hk (by obtain ⟨js, hjs⟩ := hX; exact okXL_not hM hm hjs) hc (h _ _ (ha.put hd _) hM)
theorem e_load1g {b o i : Nat} {c : Array Value} {t : TypeId} {v : Value} {td : TypeDesc} (hT : P.underlying T = some td) (hn : rowLike td = false) (hx : rd E x = some (.pointer (some ⟨b, o, none⟩)))
    (hm : G[i]? = some ⟨b, c, t⟩) (hc : c[o]? = some v) (hd : Nat.blt d n = true) (h : OpsE P G R ops n K rest ((d, v) :: E) M) : OpsE P G R ops n K (⟨some d, .load T x, ty, pos, aft, none⟩ :: rest) E M :=
  fun _ _ ha hM => st_load1g hT hn (ha.rd hx) hm hc (h _ _ (ha.put hd _) hM)
theorem e_loadA {b i l : Nat} {c : Array Value} {t : TypeId} {td : TypeDesc} (hT : P.underlying T = some td) (hn : rowLike td = true) (hs : (P.info? T).map (·.size) = some l)
    (hx : rd E x = some (.pointer (some ⟨b, 0, none⟩))) (hm : lkM M i = some ⟨b, c, t⟩) (hl : c.size = l) (hd : Nat.blt d n = true) (hX : ∃ js, okXL M i js R) (h : OpsE P G R ops n K rest ((d, .agg c) :: E) M) : OpsE P G R ops n K (⟨some d, .load T x, ty, pos, aft, none⟩ :: rest) E M :=
  fun _ _ ha hM => by
    obtain ⟨k, hk⟩ := hM.at hm
    exact st_loadA hT hn (hl ▸ hs) (ha.rd hx) hk (by obtain ⟨js, hjs⟩ := hX; exact okXL_not hM hm hjs) (h _ _ (ha.put hd _) hM)
theorem e_storeA {b i l : Nat} {c c' : Array Value} {t : TypeId} (hs : (P.info? T).map (·.size) = some l) (hx : rd E x = some (.pointer (some ⟨b, 0, none⟩))) (hy : rd E y = some (.agg c')) (hl : c'.size = l)
    (hv : ∀ v ∈ c', v.oneCell' = true) (hm : lkM M i = some ⟨b, c, t⟩) (ho : c'.size = c.size) (hX : R.X = [] ∨ b ∈ R.X) (h : OpsE P G R ops n K rest E ((i, some ⟨b, c', t⟩) :: M)) (hY : R.Y = none := by first | rfl | assumption) : OpsE P G R ops n K (⟨none, .store T x y, ty, pos, aft, none⟩ :: rest) E M :=
  fun _ _ ha hM => by
    obtain ⟨j, hj⟩ := hM.at hm
    exact st_storeA (hl ▸ hs) (ha.rd hx) (ha.rd hy) hv hj hX ho (h _ _ ha (hM.store hm hj _))
theorem e_index0 {b j l : Nat} {k : IntKind} {e : TypeId} (hT : P.underlying T = some (.array l e)) (hs : (P.info? e).map (·.size) = some 1) (hx : rd E x = some (.pointer (some ⟨b, 0, none⟩))) (hy : rd E y = some (.int k (j : Int))) (hj : j < l)
    (hd : Nat.blt d n = true) (h : OpsE P G R ops n K rest ((d, .pointer (some ⟨b, j, none⟩)) :: E) M) : OpsE P G R ops n K (⟨some d, .indexAddr T x y, ty, pos, aft, none⟩ :: rest) E M :=
  fun _ _ ha hM => st_index hT hs (ha.rd hx) (ha.rd hy) hj (by rw [Nat.zero_add]; exact h _ _ (ha.put hd _) hM)
theorem arr_one {k : IntKind} {l : Nat} {f : Nat → Nat} : ∀ v ∈ arr k l f, v.oneCell' = true := fun v hv => by
  simp [arr] at hv
  obtain ⟨i, _, rfl⟩ := hv
  rfl
def rdp (E : Env) : List (Nat × Operand) → Option (List (Nat × Value))
  | [] => some []
  | (i, x) :: r => match rd E x, rdp E r with
    | some v, some vs => some ((i, v) :: vs)
    | _, _ => none
theorem Fits.rdp {a : Act} (h : Fits n E a) : ∀ {l : List (Nat × Operand)} {vs : List (Nat × Value)}, Ytfldnikepdbgkaa.rdp E l = some vs → l.map (fun p => (p.1, a.eval p.2)) = vs
  | [], vs, hl => by simpa [Ytfldnikepdbgkaa.rdp] using hl
  | (i, x) :: l, vs, hl => by
    unfold Ytfldnikepdbgkaa.rdp at hl
    split at hl
    · rename_i v ws h1 h2
      simp at hl
      subst hl
      rw [List.map_cons, h.rd h1, Fits.rdp h h2]
    · cases hl
theorem e_build {z : Value} {l : Nat} {e : TypeId} {parts : Array (Nat × Operand)} {pv : List (Nat × Value)} (c : Array Value) (hz : (P.info? T).bind (·.zero) = some z) (hT : P.underlying T = some (.array l e)) (hs : (P.info? e).map (·.size) = some 1)
    (hp : rdp E parts.toList = some pv) (hf : Instr.fill (fun i => some (i * 1, 1)) z.cells pv = some c) (hd : Nat.blt d n = true)
    (h : OpsE P G R ops n K rest ((d, .agg c) :: E) M) : OpsE P G R ops n K (⟨some d, .build T parts, ty, pos, aft, none⟩ :: rest) E M :=
  fun _ _ ha hM => st_build hz hT hs (ha.rdp hp) hf (h _ _ (ha.put hd _) hM)
theorem e_pickT {p q r : Operand} {t : Bool} {v : Value} (hc : rd E p = some (.bool t)) (ht : t = true) (hv : rd E q = some v) (hd : Nat.blt d n = true) (h : OpsE P G R ops n K rest ((d, v) :: E) M) :
    OpsE P G R ops n K (⟨some d, .pick p q r, ty, pos, aft, none⟩ :: rest) E M := fun _ _ ha hM => st_pick (ha.rd hc) (by rw [ht, if_pos rfl]; exact ha.rd hv) (h _ _ (ha.put hd _) hM)
theorem e_pickF {p q r : Operand} {t : Bool} {v : Value} (hc : rd E p = some (.bool t)) (ht : t = false) (hv : rd E r = some v) (hd : Nat.blt d n = true) (h : OpsE P G R ops n K rest ((d, v) :: E) M) :
    OpsE P G R ops n K (⟨some d, .pick p q r, ty, pos, aft, none⟩ :: rest) E M := fun _ _ ha hM => st_pick (ha.rd hc) (by rw [ht, if_neg (by decide)]; exact ha.rd hv) (h _ _ (ha.put hd _) hM)
theorem Fits.yielded {a : Act} (h : Fits n E a) {g s : Nat} {b : Bool} (hg : (ops[g]?).bind (·.dst) = some s) (hb : lk E s = some (.bool b)) : Go.yielded ops a.tmps g = some b := by
  unfold Go.yielded
  rw [hg]
  simp [h.slots _ _ hb]
theorem e_yes {dd : Option Tmp} {op : Op} {g s : Nat} {want b : Bool} (hg : (ops[g]?).bind (·.dst) = some s) (hb : lk E s = some (.bool b)) (hw : b = want) (h : OpsE P G R ops n K (⟨dd, op, ty, pos, aft, none⟩ :: rest) E M) :
    OpsE P G R ops n K (⟨dd, op, ty, pos, aft, some (g, want)⟩ :: rest) E M := fun a m ha hM => st_yes (by rw [← hw]; exact ha.yielded hg hb) (h a m ha hM)
theorem e_no {op : Op} {g s : Nat} {want b : Bool} (hg : (ops[g]?).bind (·.dst) = some s) (hb : lk E s = some (.bool b)) (hw : b ≠ want) (hd : Nat.blt d n = true) (h : OpsE P G R ops n K rest ((d, undef) :: E) M) :
    OpsE P G R ops n K (⟨some d, op, ty, pos, aft, some (g, want)⟩ :: rest) E M := fun _ _ ha hM => st_no (ha.yielded hg hb) hw (h _ _ (ha.put hd _) hM)
theorem e_as {l : List Oper} {s : Nat} {v v' : Value} (hv : v = v') (h : OpsE P G R ops n K l ((s, v') :: E) M) : OpsE P G R ops n K l ((s, v) :: E) M := by rw [hv]; exact h
theorem e_call {f : FuncId} {args : Array Operand} {tys : Array TypeId} {vs : List Value} {v : Value} (hargs : rdl E args.toList = some vs) (he : enters P f = true) (hF : Fn P G f vs.toArray v) (hd : Nat.blt d n = true) (hR : callOk R = true)
    (h : OpsE P G R ops n K rest ((d, v) :: E) M) : OpsE P G R ops n K (⟨some d, .call ⟨.value (.func f), args, tys⟩, ty, pos, aft, none⟩ :: rest) E M :=
  fun _ _ ha hM => st_call hR (ha.args hargs) he hF (h _ _ (ha.put hd _) hM)
def subM : Mem → Mm → Prop
  | [], _ => True
  | z :: r, M => (∃ i : Nat, lkM M i = some z) ∧ subM r M
theorem subM_in {m : Mem} (hM : FitsM M m) : ∀ {g : Mem}, subM g M → ∀ {w : World}, MemIn m w → MemR g w
  | [], _, _, _ => fun _ hx => by cases hx
  | z :: r, ⟨⟨i, hi⟩, h2⟩, w, hm => fun x hx => by
    rcases List.mem_cons.1 hx with rfl | hx
    · exact (hm _ (hM.has i _ hi)).read
    · exact subM_in hM h2 hm x hx
theorem e_callV (g : Mem) {fo : Operand} {f : FuncId} {args : Array Operand} {tys : Array TypeId} {vs cap : List Value} {v : Value} (hf : rd E fo = some (.func (.func f) #[] cap.toArray)) (hargs : rdl E args.toList = some vs) (he : enters P f = true) (hg : subM g M)
    (hF : Fn P g f (vs ++ cap).toArray v) (hd : Nat.blt d n = true) (hR : callOk R = true) (hX : R.X = []) (h : OpsE P G R ops n K rest ((d, v) :: E) M) (hL : R.L = none := by rfl) : OpsE P G R ops n K (⟨some d, .call ⟨.value fo, args, tys⟩, ty, pos, aft, none⟩ :: rest) E M :=
  fun _ _ ha hM => st_callV hR (ha.rd hf) (ha.args hargs) he (fun w _ hm => by
    have := hF w (subM_in hM hg (fun z hz => hm z hz ⟨by rw [hX]; simp, in_none hL _⟩))
    simpa using this) (h _ _ (ha.put hd _) hM)
theorem e_func {fn : Go.Fn} {fs cs : Array Operand} {vf vc : List Value} (h1 : rdl E fs.toList = some vf) (h2 : rdl E cs.toList = some vc) (hd : Nat.blt d n = true) (h : OpsE P G R ops n K rest ((d, .func fn vf.toArray vc.toArray) :: E) M) :
    OpsE P G R ops n K (⟨some d, .makeFunc fn fs cs, ty, pos, aft, none⟩ :: rest) E M := fun _ _ ha hM => st_func (ha.args h1) (ha.args h2) (h _ _ (ha.put hd _) hM)
def Res (P : Program) (E : Env) (M : Mm) : ResultVar → Value → Prop
  | .tmp t, v => lk E t = some v
  | .cell t T, v => ∃ (b i l : Nat) (c : Array Value) (t' : TypeId) (td : TypeDesc), lk E t = some (ptr b) ∧ lkM M i = some ⟨b, c, t'⟩ ∧ P.underlying T = some td ∧ rowLike td = true ∧ (P.info? T).map (·.size) = some l ∧ c.size = l ∧ v = .agg c
theorem Res.tmp {t : Nat} {v : Value} (h : lk E t = some v) : Res P E M (.tmp t) v := h
theorem Res.cell {t : Nat} {T : TypeId} {b i l : Nat} {c : Array Value} {t' : TypeId} {td : TypeDesc} (h : lk E t = some (ptr b)) (hm : lkM M i = some ⟨b, c, t'⟩) (hT : P.underlying T = some td) (hn : rowLike td = true)
      (hs : (P.info? T).map (·.size) = some l) (hl : c.size = l) : Res P E M (.cell t T) (.agg c) := ⟨b, i, l, c, t', td, h, hm, hT, hn, hs, hl, rfl⟩
def resv (tmps : Array Value) : ResultVar → Sem Value
  | .tmp t => pure (tmps.getD t undef)
  | .cell c t => do loadVar t (← asAddr (tmps.getD c undef))
theorem results_eq (fn : Func) (tmps : Array Value) : results fn tmps = (do
  let vs ← fn.results.mapM (resv tmps)
  pure (if h : vs.size = 1 then vs[0] else .tuple vs)) := by
  unfold results
  congr 1
theorem res_run {a : Act} {m : Mem} (ha : Fits n E a) (hM : FitsM M m) {w : World} (hw : MemIn m w) {r : ResultVar} {v : Value} (h : Res P E M r v) : (resv a.tmps r).run P w = .ok v w := by
  cases r with
  | tmp t =>
    have h : lk E t = some v := h
    simp [resv, Array.getD_eq_getD_getElem?, ha.slots _ _ h]
  | cell t T =>
    obtain ⟨b, i, l, c, t', td, h, hm, hT, hn, hs, hl, rfl⟩ := h
    have hs := hl ▸ hs
    have hin := (hw _ (hM.has i _ hm)).read
    have := ha.slots _ _ h
    simp [resv, Array.getD_eq_getD_getElem?, this, ptr, asAddr, run_loadAll hin hT hn hs]
def End1 (P : Program) (fn : Func) (v : Value) : Exit → Env → Mm → Prop
  | .normal, E, M | .ret, E, M => ∃ r, fn.results = #[r] ∧ Res P E M r v
  | _, _, _ => False
def End2 (P : Program) (fn : Func) (v v' : Value) : Exit → Env → Mm → Prop
  | .normal, E, M | .ret, E, M => ∃ r r', fn.results = #[r, r'] ∧ Res P E M r v ∧ Res P E M r' v'
  | _, _, _ => False
theorem mapM1 {r : ResultVar} (f : ResultVar → Sem Value) : Array.mapM f #[r] = (do let v ← f r; pure #[v]) := by
  rw [Array.mapM_eq_mapM_toList]; simp
theorem mapM2 {r r' : ResultVar} (f : ResultVar → Sem Value) : Array.mapM f #[r, r'] = (do let v ← f r; let v' ← f r'; pure #[v, v']) := by
  rw [Array.mapM_eq_mapM_toList]; simp
theorem fn1 {f : FuncId} {fn : Func} {c : Code} {args : Array Value} {v : Value} (hf : P.funcs[f]? = some fn) (hb : fn.body = some c) (hn : fn.ntmps = n) (ha : args.size ≤ n) (E : Env) (hE : ∀ t v, lk E t = some v → args[t]? = some v)
    (h : SatE P G c n (End1 P fn v) E []) : Fn P G f args v :=
  fn_of hf hb (sat_mono (h _ [] ⟨by simp [hn]; omega, rfl, fun t v ht => by
    have := hE t v ht
    have hlt := (Array.getElem?_eq_some_iff.1 this).1
    rw [Array.getElem?_append_left hlt]; exact this⟩ (FitsM.nil _)) fun e a m ⟨E', M', h1, h0, h2⟩ => by
      have key : (∃ r, fn.results = #[r] ∧ Res P E' M' r v) → a.defers = [] ∧ ∀ w, MemIn m w → (results fn a.tmps).run P w = .ok v w := fun ⟨r, hr, hR⟩ => ⟨h1.defers, fun w hw => by
        have := res_run h1 h0 hw hR
        rw [results_eq, hr, mapM1]
        simp [this]⟩
      cases e <;> first | exact key h2 | exact h2.elim)
theorem fn2 {f : FuncId} {fn : Func} {c : Code} {args : Array Value} {v v' : Value} (hf : P.funcs[f]? = some fn) (hb : fn.body = some c) (hn : fn.ntmps = n) (ha : args.size ≤ n) (E : Env) (hE : ∀ t v, lk E t = some v → args[t]? = some v)
    (h : SatE P G c n (End2 P fn v v') E []) : Fn P G f args (.tuple #[v, v']) :=
  fn_of hf hb (sat_mono (h _ [] ⟨by simp [hn]; omega, rfl, fun t v ht => by
    have := hE t v ht
    have hlt := (Array.getElem?_eq_some_iff.1 this).1
    rw [Array.getElem?_append_left hlt]; exact this⟩ (FitsM.nil _)) fun e a m ⟨E', M', h1, h0, h2⟩ => by
      have key : (∃ r r', fn.results = #[r, r'] ∧ Res P E' M' r v ∧ Res P E' M' r' v') → a.defers = [] ∧ ∀ w, MemIn m w → (results fn a.tmps).run P w = .ok (.tuple #[v, v']) w := fun ⟨r, r', hr, hR, hR'⟩ => ⟨h1.defers, fun w hw => by
        have := res_run h1 h0 hw hR
        have t' := res_run h1 h0 hw hR'
        rw [results_eq, hr, mapM2]
        simp [this, t']⟩
      cases e <;> first | exact key h2 | exact h2.elim)
def argE : List Value → Nat → Env
  | [], _ => []
  | v :: r, i => (i, v) :: argE r (i + 1)
theorem argE_lt : ∀ (l : List Value) (i t : Nat) (v : Value), lk (argE l i) t = some v → i ≤ t ∧ l[t - i]? = some v
  | [], _, _, _, h => by simp [argE, lk] at h
  | x :: l, i, t, v, h => by
    unfold argE at h
    rw [lk_cons] at h
    split at h
    · rename_i e; subst e; simpa using h
    · have := argE_lt l (i + 1) t v h
      refine ⟨by omega, ?_⟩
      have e : t - i = (t - (i + 1)) + 1 := by omega
      rw [e]; simpa using this.2
theorem argE_ok (l : List Value) : ∀ t v, lk (argE l 0) t = some v → l.toArray[t]? = some v := fun t v h => by
  have := (argE_lt l 0 t v h).2
  simpa using this
end
end Go.Proofs.Ytfldnikepdbgkaa
namespace Go.Proofs.Ytfldnikepdbgkaa
open Go Go.RowKit
variable {P : Program} {G : Mem} {R : Reg} {ops : Array Oper} {K : Act → Mem → Prop} {rest : List Oper} {a : Act} {m : Mem} {d : Option Tmp} {ty : TypeId} {pos : String} {aft : Array Edge}
variable {T T' : TypeId} {x y : Operand}
theorem add_off (b o j : Nat) : (⟨b, o, none⟩ : Addr).add j = ⟨b, o + j, none⟩ := by
  unfold Addr.add; split
  · rename_i h0; subst h0; rfl
  · simp
theorem run_loadCellsAt {w : World} {z : Blk} (hin : RIn w z) (o l : Nat) (ho : o + l ≤ z.c.size) : ∀ (n i : Nat) (acc : Array Value), i + n = l →
    (loadCellsFrom ⟨z.b, o, none⟩ i n acc).run P w = .ok (acc ++ z.c.extract (o + i) (o + l)) w
  | 0, i, acc, h => by
    have : i = l := by omega
    subst this
    simp [loadCellsFrom]
    omega
  | n + 1, i, acc, h => by
    have hi : o + i < z.c.size := by omega
    have hcell : w.cell? ((⟨z.b, o, none⟩ : Addr).add i) = some z.c[o + i] := by
      rw [add_off, hin.2 (o + i) hi]; simp [hi]
    unfold loadCellsFrom
    simp only [Sem.run_bind, run_load, hcell, Result.andThen_ok]
    rw [run_loadCellsAt hin o l ho n (i + 1) (acc.push z.c[o + i]) (by omega)]
    congr 1
    apply Array.ext
    · simp; omega
    · intro j h1 h2
      by_cases hj : j < acc.size
      · have hj2 : j < acc.size + 1 := by omega
        simp [hj, hj2, Array.getElem_push]
      · by_cases hj' : j = acc.size
        · subst hj'; simp
        · have : ¬ j < acc.size + 1 := by omega
          simp [Array.getElem_append, hj, this]
          congr 1; omega
theorem run_loadPart {w : World} {z : Blk} {td : TypeDesc} {o l : Nat} (hin : RIn w z) (hT : P.underlying T = some td) (hn : rowLike td = true) (hs : (P.info? T).map (·.size) = some l) (ho : o + l ≤ z.c.size) :
    (loadVar T ⟨z.b, o, none⟩).run P w = .ok (.agg (z.c.extract o (o + l))) w := by
  cases hi : P.info? T with
  | none => simp [hi] at hs
  | some i =>
    have hsz : i.size = l := by simpa [hi] using hs
    have := run_loadCellsAt (P := P) hin o l ho l 0 #[] (by omega)
    simp only [loadVar, loadCells, sizeOf, typeInfo]
    simp [run_isAgg hT, hn, hi, hsz, this]
theorem st_loadS {b i o l : Nat} {c : Array Value} {t : TypeId} {td : TypeDesc} (hT : P.underlying T = some td) (hn : rowLike td = true) (hs : (P.info? T).map (·.size) = some l)
    (hx : a.eval x = .pointer (some ⟨b, o, none⟩)) (hm : m[i]? = some ⟨b, c, t⟩) (hX : b ∉ R.X ∧ inL R.L b) (ho : o + l ≤ c.size) (h : opsM P G R ops K rest (a.put d (.agg (c.extract o (o + l)))) m) : opsM P G R ops K (⟨d, .load T x, ty, pos, aft, none⟩ :: rest) a m :=
  .inr ⟨rfl, .agg (c.extract o (o + l)), fun w _ hw => .inl (by
    have hin := (hw _ (mem_of_get hm) hX).read
    simp only [execOp, Instr.loadAt, hx, Instr.sureAddr]
    simp [run_loadPart hin hT hn hs ho]), h⟩
theorem st_field {b o f sz : Nat} {fs : Array Field} {fd : Field} (hT : P.underlying T = some (.struct fs)) (hf : fs[f]? = some fd) (hs : (P.info? fd.type).map (·.size) = some (sz + 1)) (hx : a.eval x = .pointer (some ⟨b, o, none⟩))
    (h : opsM P G R ops K rest (a.put d (.pointer (some ⟨b, o + fd.offset, none⟩))) m) : opsM P G R ops K (⟨d, .fieldAddr T x f, ty, pos, aft, none⟩ :: rest) a m :=
  st_quiet (v := .pointer (some ⟨b, o + fd.offset, none⟩)) rfl rfl (fun w => by
    cases hi : P.info? fd.type with
    | none => simp [hi] at hs
    | some i =>
      have hsz : i.size = sz + 1 := by simpa [hi] using hs
      simp only [execOp, Instr.fieldAt, hx, underlying, program, Instr.sureAddr, fieldPlace, sizeOf, typeInfo]
      simp [Sem.run, hT, hf, hi, hsz, add_off]) h
theorem st_buildS {z : Value} {fs : Array Field} {places : Array (Nat × Nat)} {parts : Array (Nat × Operand)} {pv : List (Nat × Value)} {c : Array Value} (hz : (P.info? T).bind (·.zero) = some z) (hT : P.underlying T = some (.struct fs))
    (hpl : ∀ w, (fs.mapM fun f => do pure (f.offset, ← sizeOf f.type) : Sem (Array (Nat × Nat))).run P w = .ok places w)
    (hp : parts.toList.map (fun p => (p.1, a.eval p.2)) = pv) (hf : Instr.fill (places[·]?) z.cells pv = some c)
    (h : opsM P G R ops K rest (a.put d (.agg c)) m) : opsM P G R ops K (⟨d, .build T parts, ty, pos, aft, none⟩ :: rest) a m :=
  st_quiet (v := .agg c) rfl rfl (fun w => by
    cases hi : P.info? T with
    | none => simp [hi] at hz
    | some i =>
      have hz' : i.zero = some z := by simpa [hi] using hz
      have hp' : (parts.map fun (i, x) => (i, a.eval x)).toList = pv := by rw [← hp]; simp
      simp only [execOp, Instr.build, zeroValue, typeInfo, underlying, program]
      simp only [hp']
      simp only [Sem.run_bind, Sem.run, Sem.run_pure, Result.andThen_ok, hi, hz', hT, hpl, hf]) h
end Go.Proofs.Ytfldnikepdbgkaa
namespace Go.Proofs.Ytfldnikepdbgkaa
end Go.Proofs.Ytfldnikepdbgkaa
namespace Go.Proofs.Ytfldnikepdbgkaa
end Go.Proofs.Ytfldnikepdbgkaa
namespace Go.Proofs.Ytfldnikepdbgkaa
end Go.Proofs.Ytfldnikepdbgkaa
namespace Go.Proofs.Ytfldnikepdbgkaa
end Go.Proofs.Ytfldnikepdbgkaa
namespace Go.Proofs.Ytfldnikepdbgkaa
open Go Go.RowKit
variable {P : Program} {G : Mem} {R : Reg} {ops : Array Oper} {n : Nat} {K : Env → Mm → Prop} {rest : List Oper} {E : Env} {M : Mm} {d : Nat} {ty : TypeId} {pos : String} {aft : Array Edge}
variable {T T' : TypeId} {x y : Operand}
theorem e_buildS {z : Value} {fs : Array Field} {places : Array (Nat × Nat)} {parts : Array (Nat × Operand)} {pv : List (Nat × Value)} (c : Array Value) (hz : (P.info? T).bind (·.zero) = some z) (hT : P.underlying T = some (.struct fs))
    (hpl : ∀ w, (fs.mapM fun f => do pure (f.offset, ← sizeOf f.type) : Sem (Array (Nat × Nat))).run P w = .ok places w)
    (hp : rdp E parts.toList = some pv) (hf : Instr.fill (places[·]?) z.cells pv = some c) (hd : Nat.blt d n = true)
    (h : OpsE P G R ops n K rest ((d, .agg c) :: E) M) : OpsE P G R ops n K (⟨some d, .build T parts, ty, pos, aft, none⟩ :: rest) E M :=
  fun _ _ ha hM => st_buildS hz hT hpl (ha.rdp hp) hf (h _ _ (ha.put hd _) hM)
end Go.Proofs.Ytfldnikepdbgkaa
namespace Go.Proofs.Ytfldnikepdbgkaa
open Go Go.RowKit
variable {P : Program} {G : Mem} {R : Reg} {ops : Array Oper} {K : Act → Mem → Prop} {rest : List Oper} {a : Act} {m : Mem} {d : Option Tmp} {ty : TypeId} {pos : String} {aft : Array Edge}
variable {T T' : TypeId} {x y : Operand}
theorem st_indexZ {b o j n z : Nat} {k : IntKind} {e : TypeId} (hT : P.underlying T = some (.array n e)) (hs : (P.info? e).map (·.size) = some (z + 1)) (hx : a.eval x = .pointer (some ⟨b, o, none⟩)) (hy : a.eval y = .int k (j : Int)) (hj : j < n)
    (h : opsM P G R ops K rest (a.put d (.pointer (some ⟨b, o + j * (z + 1), none⟩))) m) : opsM P G R ops K (⟨d, .indexAddr T x y, ty, pos, aft, none⟩ :: rest) a m :=
  st_quiet (v := .pointer (some ⟨b, o + j * (z + 1), none⟩)) rfl rfl (fun w => by
    cases hi : P.info? e with
    | none => simp [hi] at hs
    | some i =>
      have hsz : i.size = z + 1 := by simpa [hi] using hs
      have h0 : (0 : Int) ≤ j ∧ (j : Int) < n := by omega
      simp only [execOp, Instr.indexAt, hx, hy, asIntOf, underlying, program, sizeOf, typeInfo, Instr.sureAddr]
      simp [Sem.run, hT, hi, hsz, h0, add_off, hj]) h
theorem places_run {fs : Array Field} {l : List (Nat × Nat)} (h : (fs.toList.mapM fun f => (P.info? f.type).map fun i => (f.offset, i.size)) = some l) (w : World) :
    ((fs.mapM fun f => do pure (f.offset, ← sizeOf f.type) : Sem (Array (Nat × Nat)))).run P w = .ok l.toArray w := by
  have key : ∀ (fs : List Field) (l : List (Nat × Nat)), (fs.mapM fun f => (P.info? f.type).map fun i => (f.offset, i.size)) = some l →
      ((fs.mapM fun f => do pure (f.offset, ← sizeOf f.type) : Sem (List (Nat × Nat)))).run P w = .ok l w := by
    intro fs
    induction fs with
    | nil => intro l h; simp at h; subst h; rfl
    | cons f fs ih =>
      intro l h
      rw [List.mapM_cons] at h ⊢
      cases hi : P.info? f.type with
      | none => simp [hi] at h
      | some i =>
        cases hr : (fs.mapM fun f => (P.info? f.type).map fun i => (f.offset, i.size)) with
        | none => rw [hi, hr] at h; simp at h
        | some r =>
          rw [hi, hr] at h
          simp at h
          subst h
          have := ih r hr
          have h1 : (do pure (f.offset, ← sizeOf f.type) : Sem (Nat × Nat)).run P w = .ok (f.offset, i.size) w := by simp [sizeOf, typeInfo, hi]
          rw [Sem.run_bind, h1, Result.andThen_ok, Sem.run_bind, this]
          rfl
  rw [Array.mapM_eq_mapM_toList]
  have := key fs.toList l h
  rw [map_eq_pure_bind, Sem.run_bind, this]
  rfl
end Go.Proofs.Ytfldnikepdbgkaa
namespace Go.Proofs.Ytfldnikepdbgkaa
open Go Go.RowKit
variable {P : Program} {G : Mem} {R : Reg} {ops : Array Oper} {n : Nat} {K : Env → Mm → Prop} {rest : List Oper} {E : Env} {M : Mm} {d : Nat} {ty : TypeId} {pos : String} {aft : Array Edge}
variable {T T' : TypeId} {x y : Operand}
theorem e_at (o' : Nat) {b o j l z : Nat} {k : IntKind} {e : TypeId} (hT : P.underlying T = some (.array l e)) (hs : (P.info? e).map (·.size) = some (z + 1)) (hx : rd E x = some (.pointer (some ⟨b, o, none⟩))) (hy : rd E y = some (.int k (j : Int))) (hj : j < l) (ho : o + j * (z + 1) = o')
    (hd : Nat.blt d n = true) (h : OpsE P G R ops n K rest ((d, .pointer (some ⟨b, o', none⟩)) :: E) M) : OpsE P G R ops n K (⟨some d, .indexAddr T x y, ty, pos, aft, none⟩ :: rest) E M :=
  fun _ _ ha hM => st_indexZ hT hs (ha.rd hx) (ha.rd hy) hj (by rw [ho]; exact h _ _ (ha.put hd _) hM)
theorem e_fld (o' : Nat) {b o f sz : Nat} {fs : Array Field} {fd : Field} (hT : P.underlying T = some (.struct fs)) (hf : fs[f]? = some fd) (hs : (P.info? fd.type).map (·.size) = some (sz + 1)) (hx : rd E x = some (.pointer (some ⟨b, o, none⟩)))
    (ho : o + fd.offset = o') (hd : Nat.blt d n = true) (h : OpsE P G R ops n K rest ((d, .pointer (some ⟨b, o', none⟩)) :: E) M) : OpsE P G R ops n K (⟨some d, .fieldAddr T x f, ty, pos, aft, none⟩ :: rest) E M :=
  fun _ _ ha hM => st_field hT hf hs (ha.rd hx) (by rw [ho]; exact h _ _ (ha.put hd _) hM)
end Go.Proofs.Ytfldnikepdbgkaa
namespace Go.Proofs.Ytfldnikepdbgkaa
open Go Go.RowKit
variable {P : Program} {G : Mem} {R : Reg} {ops : Array Oper} {K : Act → Mem → Prop} {rest : List Oper} {a : Act} {m : Mem} {d : Option Tmp} {ty : TypeId} {pos : String} {aft : Array Edge}
variable {T T' : TypeId} {x y : Operand}
theorem st_buildSl {zv : Value} {len z : Nat} {e : TypeId} {parts : Array (Nat × Operand)} {pv : List (Nat × Value)} {c : Array Value} (hT : P.underlying T = some (.slice e)) (hs : (P.info? e).map (·.size) = some z) (hz : (P.info? e).bind (·.zero) = some zv)
    (h0 : len * z ≠ 0) (h1 : len * z ≤ 16777216) (hp : parts.toList.map (fun p => (p.1, a.eval p.2)) = pv) (hf : Instr.fill (fun i => some (i * z, z)) ((Array.range (len * z)).map (zv.cells[· % zv.cells.size]!)) pv = some c)
    (h : ∀ r, (∀ x ∈ m, x.b ≠ r) → opsM P G R ops K rest (a.put d (.slice (some ⟨r, 0, none⟩) len len)) (m ++ [⟨r, c, e⟩])) : opsM P G R ops K (⟨d, .buildSlice T len parts, ty, pos, aft, none⟩ :: rest) a m :=
  .inr ⟨rfl, c, e, fun r => .slice (some ⟨r, 0, none⟩) len len, fun w => by
    cases hi : P.info? e with
    | none => simp [hi] at hz
    | some j =>
      have hz' : j.zero = some zv := by simpa [hi] using hz
      have hsz : j.size = z := by simpa [hi] using hs
      have hp' : (parts.map fun (i, x) => (i, a.eval x)).toList = pv := by rw [← hp]; simp
      have h2 : ¬ len * z > 2 ^ 24 := by omega
      simp only [execOp, Instr.buildSlice, zeroValue, typeInfo, underlying, program, sizeOf, newRow, newObj]
      simp only [hp']
      simp [Sem.run, hT, hi, hz', hsz, h0, h2, hf], h⟩
def isB : Option Value → Nat → Nat → Prop
  | none, l, dflt => l = dflt
  | some v, l, _ => ∃ k, v = .int k (l : Int)
theorem run_bounds {isS : Bool} {len cap l h : Nat} {lo hi : Option Value} (hl : isB lo l 0) (hh : isB hi h len) (h1 : l ≤ h) (h2 : h ≤ cap) (w : World) : (Instr.sliceBounds isS len cap lo hi none).run P w = .ok (l, h, cap) w := by
  have hb : ∀ (k : IntKind) (n y : Nat) (code : BoundsCode), n ≤ y → (Instr.sliceBound (.int k (n : Int)) y code).run P w = .ok n w := fun k n y code hn => by
    have h0 : (0 : Int) ≤ n ∧ (n : Int) ≤ y := by omega
    simp [Instr.sliceBound, asIntOf, hn]
  unfold Instr.sliceBounds
  cases lo with
  | none =>
    cases hi with
    | none => simp only [isB] at hl hh; subst hl hh; simp
    | some v => obtain ⟨k, rfl⟩ := hh; simp only [isB] at hl; subst hl; simp [hb k h cap _ h2]
  | some u =>
    obtain ⟨k', rfl⟩ := hl
    cases hi with
    | none => simp only [isB] at hh; subst hh; simp [hb k' l _ _ h1]
    | some v => obtain ⟨k, rfl⟩ := hh; simp [hb k h cap _ h2, hb k' l _ _ h1]
theorem st_sliceA {b o N l h z : Nat} {e : TypeId} {lo hi : Option Operand} (hT : P.underlying T = some (.array N e)) (hs : (P.info? e).map (·.size) = some z) (hx : a.eval x = .pointer (some ⟨b, o, none⟩)) (hl : isB (lo.map a.eval) l 0) (hh : isB (hi.map a.eval) h N) (h1 : l ≤ h) (h2 : h ≤ N) (h3 : l < N)
    (hK : opsM P G R ops K rest (a.put d (.slice (some ⟨b, o + l * z, none⟩) (h - l) (N - l))) m) : opsM P G R ops K (⟨d, .slice T x lo hi none, ty, pos, aft, none⟩ :: rest) a m :=
  st_quiet (v := .slice (some ⟨b, o + l * z, none⟩) (h - l) (N - l)) rfl rfl (fun w => by
    cases hi' : P.info? e with
    | none => simp [hi'] at hs
    | some i =>
      have hsz : i.size = z := by simpa [hi'] using hs
      have hb := run_bounds (P := P) (isS := false) hl hh h1 h2 w
      have hne : ¬ N = l := by omega
      simp only [execOp, Instr.sliceAt, hx, underlying, program, sizeOf, typeInfo, Instr.sureAddr, Option.map_none]
      simp only [Sem.run_bind, Sem.run, Sem.run_pure, Result.andThen_ok, hT, hb, hi', hsz, hne, if_false, add_off]) hK
theorem st_sliceS {b o len cap l h z : Nat} {e : TypeId} {lo hi : Option Operand} (hT : P.underlying T = some (.slice e)) (hs : (P.info? e).map (·.size) = some z) (hx : a.eval x = .slice (some ⟨b, o, none⟩) len cap) (hl : isB (lo.map a.eval) l 0) (hh : isB (hi.map a.eval) h len) (h1 : l ≤ h) (h2 : h ≤ cap)
    (hK : opsM P G R ops K rest (a.put d (.slice (some (if cap = l then ⟨b, o, none⟩ else ⟨b, o + l * z, none⟩)) (h - l) (cap - l))) m) : opsM P G R ops K (⟨d, .slice T x lo hi none, ty, pos, aft, none⟩ :: rest) a m :=
  st_quiet (v := .slice (some (if cap = l then ⟨b, o, none⟩ else ⟨b, o + l * z, none⟩)) (h - l) (cap - l)) rfl rfl (fun w => by
    cases hi' : P.info? e with
    | none => simp [hi'] at hs
    | some i =>
      have hsz : i.size = z := by simpa [hi'] using hs
      have hb := run_bounds (P := P) (isS := true) hl hh h1 h2 w
      simp only [execOp, Instr.sliceAt, Instr.slice, hx, underlying, program, sizeOf, typeInfo, Option.map_none]
      simp only [Sem.run_bind, Sem.run, Sem.run_pure, Result.andThen_ok, hT, hb, hi', hsz]
      by_cases hc : cap = l
      · simp [hc]
      · simp [hc, add_off]) hK
end Go.Proofs.Ytfldnikepdbgkaa
namespace Go.Proofs.Ytfldnikepdbgkaa
open Go Go.RowKit
variable {P : Program} {G : Mem} {R : Reg} {ops : Array Oper} {n : Nat} {K : Env → Mm → Prop} {rest : List Oper} {E : Env} {M : Mm} {d : Nat} {ty : TypeId} {pos : String} {aft : Array Edge}
variable {T T' : TypeId} {x y : Operand}
theorem e_buildSl (i : Nat) {zv : Value} {len z : Nat} {e : TypeId} {parts : Array (Nat × Operand)} {pv : List (Nat × Value)} (c : Array Value) (hT : P.underlying T = some (.slice e)) (hs : (P.info? e).map (·.size) = some z) (hz : (P.info? e).bind (·.zero) = some zv)
    (h0 : len * z ≠ 0) (h1 : len * z ≤ 16777216) (hp : rdp E parts.toList = some pv) (hf : Instr.fill (fun i => some (i * z, z)) ((Array.range (len * z)).map (zv.cells[· % zv.cells.size]!)) pv = some c) (hd : Nat.blt d n = true)
    (h : ∀ r, OpsE P G R ops n K rest ((d, .slice (some ⟨r, 0, none⟩) len len) :: E) ((i, some ⟨r, c, e⟩) :: M)) : OpsE P G R ops n K (⟨some d, .buildSlice T len parts, ty, pos, aft, none⟩ :: rest) E M :=
  fun _ _ ha hM => st_buildSl hT hs hz h0 h1 (ha.rdp hp) hf fun r hr => h r _ _ (ha.put hd _) (hM.alloc i ⟨r, c, e⟩ hr)
def rdo (E : Env) : Option Operand → Option (Option Value)
  | none => some none
  | some x => (rd E x).map some
theorem Fits.rdo {a : Act} (h : Fits n E a) {o : Option Operand} {v : Option Value} (ho : Ytfldnikepdbgkaa.rdo E o = some v) : o.map a.eval = v := by
  cases o with
  | none => simpa [Ytfldnikepdbgkaa.rdo] using ho
  | some x =>
    cases hx : Ytfldnikepdbgkaa.rd E x with
    | none => simp [Ytfldnikepdbgkaa.rdo, hx] at ho
    | some u => simp [Ytfldnikepdbgkaa.rdo, hx] at ho; subst ho; simp [h.rd hx]
theorem e_sliceA (l h : Nat) {b o N z : Nat} {e : TypeId} {lo hi : Option Operand} {vl vh : Option Value} (hT : P.underlying T = some (.array N e)) (hs : (P.info? e).map (·.size) = some z) (hx : rd E x = some (.pointer (some ⟨b, o, none⟩))) (hlo : rdo E lo = some vl) (hhi : rdo E hi = some vh) (hl : isB vl l 0) (hh : isB vh h N)
    (h1 : l ≤ h) (h2 : h ≤ N) (h3 : l < N) (hd : Nat.blt d n = true) (hK : OpsE P G R ops n K rest ((d, .slice (some ⟨b, o + l * z, none⟩) (h - l) (N - l)) :: E) M) : OpsE P G R ops n K (⟨some d, .slice T x lo hi none, ty, pos, aft, none⟩ :: rest) E M :=
  fun _ _ ha hM => st_sliceA hT hs (ha.rd hx) (by rw [ha.rdo hlo]; exact hl) (by rw [ha.rdo hhi]; exact hh) h1 h2 h3 (hK _ _ (ha.put hd _) hM)
end Go.Proofs.Ytfldnikepdbgkaa
namespace Go.Proofs.Ytfldnikepdbgkaa
open Go Go.RowKit
variable {P : Program} {G : Mem} {R : Reg} {ops : Array Oper} {K : Act → Mem → Prop} {rest : List Oper} {a : Act} {m : Mem} {d : Option Tmp} {ty : TypeId} {pos : String} {aft : Array Edge}
variable {T T' : TypeId} {x y : Operand}
def bstr (l : List Nat) : ByteArray := ⟨(l.map UInt8.ofNat).toArray⟩
abbrev sv (l : List Nat) : Value := .string (bstr l)
theorem bstr_size (l : List Nat) : (bstr l).size = l.length := by simp [bstr, ByteArray.size]
end Go.Proofs.Ytfldnikepdbgkaa
namespace Go.Proofs.Ytfldnikepdbgkaa
open Go Go.RowKit
variable {P : Program} {G : Mem} {R : Reg} {ops : Array Oper} {K : Act → Mem → Prop} {rest : List Oper} {a : Act} {m : Mem} {d : Option Tmp} {ty : TypeId} {pos : String} {aft : Array Edge}
variable {T T' : TypeId} {x y : Operand}
abbrev nilS : Value := .slice none 0 0
def Shows (B : Mem) (z : Nat) (v : Value) (n : Nat) (xs : List Value) : Prop :=
  (n = 0 ∧ xs = [] ∧ ∃ oa cap, v = .slice oa 0 cap ∧ (oa = none → cap = 0)) ∨ ∃ b o cap c t, v = .slice (some ⟨b, o, none⟩) n cap ∧ n ≤ cap ∧ (⟨b, c, t⟩ : Blk) ∈ B ∧ xs.length = n * z ∧ o + n * z ≤ c.size ∧ ∀ j u, xs[j]? = some u → c[o + j]? = some u
def slAddr (v : Value) (j : Nat) : Value := match v with
  | .slice (some ⟨b, o, s⟩) _ _ => .pointer (some ⟨b, o + j, s⟩)
  | _ => undef
def slPart (z : Nat) (v : Value) (i j : Nat) : Value := match v with
  | .slice (some ⟨b, o, s⟩) _ cap => .slice (some (if cap = i then ⟨b, o, s⟩ else ⟨b, o + i * z, s⟩)) (j - i) (cap - i)
  | v => v
theorem Shows.len {B : Mem} {z n : Nat} {v : Value} {xs : List Value} (h : Shows B z v n xs) : xs.length = n * z := by
  rcases h with ⟨rfl, rfl, _⟩ | ⟨b, o, cap, c, t, _, _, _, h, _⟩
  · simp
  · exact h
theorem Shows.part {B : Mem} {z n i j : Nat} {v : Value} {xs : List Value} (h : Shows B z v n xs) (h1 : i ≤ j) (h2 : j ≤ n) : Shows B z (slPart z v i j) (j - i) ((xs.drop (i * z)).take ((j - i) * z)) := by
  rcases h with ⟨rfl, rfl, oa, cap, rfl, hoa⟩ | ⟨b, o, cap, c, t, rfl, hc, hB, hl, ho, hx⟩
  · left
    have e1 : i = 0 := by omega
    have e2 : j = 0 := by omega
    subst e1 e2
    refine ⟨rfl, by simp, ?_⟩
    cases oa with
    | none => exact ⟨none, cap, rfl, hoa⟩
    | some a => exact ⟨some (if cap = 0 then ⟨a.block, a.off, a.spot⟩ else ⟨a.block, a.off + 0 * z, a.spot⟩), cap - 0, rfl, fun h => by cases h⟩
  · right
    have hm1 : i * z + (j - i) * z = j * z := by rw [← Nat.add_mul]; congr 1; omega
    have hm2 : j * z ≤ n * z := Nat.mul_le_mul_right _ h2
    refine ⟨b, if cap = i then o else o + i * z, cap - i, c, t, ?_, by omega, hB, ?_, ?_, fun k u hk => ?_⟩
    · show Value.slice (some (if cap = i then ⟨b, o, none⟩ else ⟨b, o + i * z, none⟩)) (j - i) (cap - i) = _
      split <;> rfl
    · simp [hl]; omega
    · split <;> omega
    · rw [List.getElem?_take] at hk
      split at hk
      · rename_i hlt
        rw [List.getElem?_drop] at hk
        have := hx _ _ hk
        by_cases e : cap = i
        · have : j - i = 0 := by omega
          rw [this] at hlt; omega
        · rw [if_neg e, Nat.add_assoc]; exact this
      · cases hk
theorem Shows.mono {B B' : Mem} {z n : Nat} {v : Value} {xs : List Value} (h : Shows B z v n xs) (hs : ∀ x ∈ B, x ∈ B') : Shows B' z v n xs := by
  rcases h with h | ⟨b, o, cap, c, t, h1, h2, h3, h4⟩
  · exact .inl h
  · exact .inr ⟨b, o, cap, c, t, h1, h2, hs _ h3, h4⟩
def Seen (G : Mem) (R : Reg) (m B : Mem) : Prop := ∀ z ∈ B, z ∈ G ∨ (z ∈ m ∧ z.b ∉ R.X ∧ inL R.L z.b)
theorem Seen.rin {B : Mem} (h : Seen G R m B) {w : World} (hG : MemR G w) (hm : vis R m w) {z : Blk} (hz : z ∈ B) : RIn w z := by
  rcases h z hz with h1 | ⟨h1, h2⟩
  · exact hG z h1
  · exact (hm z h1 h2).read
theorem st_value {b : Builtin} {args : Array Operand} {tys : Array TypeId} {v : Value} (hc : cls R ⟨d, .call ⟨.builtin b, args, tys⟩, ty, pos, aft, none⟩ = 0) (_hR : callOk R = true) (hr : ∀ w, (execOp a.eval ⟨d, .call ⟨.builtin b, args, tys⟩, ty, pos, aft, none⟩).run P w = .ok (.value v) w) (h : opsM P G R ops K rest (a.put d v) m) :
    opsM P G R ops K (⟨d, .call ⟨.builtin b, args, tys⟩, ty, pos, aft, none⟩ :: rest) a m :=
  .inr ⟨rfl, by rw [hc]; exact ⟨v, hr, h⟩⟩
theorem st_lenS {e : TypeId} {v : Value} {B : Mem} {z n : Nat} {xs : List Value} (hR : callOk R = true) (hT : P.underlying T = some (.slice e)) (hx : a.eval x = v) (hv : Shows B z v n xs) (h : opsM P G R ops K rest (a.put d (ii n)) m) :
    opsM P G R ops K (⟨d, .call ⟨.builtin .len, #[x], #[T]⟩, ty, pos, aft, none⟩ :: rest) a m :=
  st_value rfl hR (fun w => by
    have : (Builtin.len_ #[T] ty #[v]).run P w = .ok (ii n) w := by
      rcases hv with ⟨rfl, _, oa, cap, rfl, _⟩ | ⟨b, o, cap, c, t, rfl, _⟩ <;> simp [Builtin.len_, run_underlying hT, goInt]
    simp only [execOp, resolve, invoke, builtin, Sem.run_bind, Sem.run_pure, Result.andThen_ok, List.map_toArray, List.map_cons, List.map_nil, hx, this]) h
theorem st_min {k k' : IntKind} {p q : Nat} (hR : callOk R = true) (hx : a.eval x = .int k (p : Int)) (hy : a.eval y = .int k' (q : Int)) (h : opsM P G R ops K rest (a.put d (.int k ((min p q : Nat) : Int))) m) :
    opsM P G R ops K (⟨d, .call ⟨.builtin .min, #[x, y], #[T, T']⟩, ty, pos, aft, none⟩ :: rest) a m :=
  st_value rfl hR (fun w => by
    have e : (if q < p then (q : Int) else p) = ((min p q : Nat) : Int) := by split <;> omega
    have : (Builtin.min_ #[T, T'] ty #[.int k (p : Int), .int k' (q : Int)]).run P w = .ok (.int k ((min p q : Nat) : Int)) w := by simp [Builtin.min_, Builtin.min2, e]
    simp only [execOp, resolve, invoke, builtin, Sem.run_bind, Sem.run_pure, Result.andThen_ok, List.map_toArray, List.map_cons, List.map_nil, hx, hy, this]) h
theorem st_atV {e : TypeId} {k : IntKind} {v : Value} {B : Mem} {z n j : Nat} {xs : List Value} (hT : P.underlying T = some (.slice e)) (hs : (P.info? e).map (·.size) = some z) (hx : a.eval x = v) (hy : a.eval y = .int k (j : Int)) (hv : Shows B z v n xs) (hj : j < n)
    (h : opsM P G R ops K rest (a.put d (slAddr v (j * z))) m) : opsM P G R ops K (⟨d, .indexAddr T x y, ty, pos, aft, none⟩ :: rest) a m :=
  st_quiet (v := slAddr v (j * z)) rfl rfl (fun w => by
    rcases hv with ⟨rfl, _⟩ | ⟨b, o, cap, c, t, rfl, _⟩
    · omega
    · cases hi : P.info? e with
      | none => simp [hi] at hs
      | some i =>
        have hsz : i.size = z := by simpa [hi] using hs
        have h0 : (0 : Int) ≤ j ∧ (j : Int) < n := by omega
        simp only [execOp, Instr.indexAt, hx, hy, asIntOf, underlying, program, sizeOf, typeInfo]
        simp [Sem.run, hT, hi, hsz, add_off, hj, slAddr]) h
theorem st_loadV {td : TypeDesc} {v u : Value} {B : Mem} {n j : Nat} {xs : List Value} (hB : Seen G R m B) (hT : P.underlying T = some td) (hn : rowLike td = false) (hx : a.eval x = slAddr v j) (hv : Shows B 1 v n xs) (hj : xs[j]? = some u)
    (h : opsM P G R ops K rest (a.put d u) m) : opsM P G R ops K (⟨d, .load T x, ty, pos, aft, none⟩ :: rest) a m :=
  .inr ⟨rfl, u, fun w hG hm => .inl (by
    rcases hv with ⟨_, rfl, _⟩ | ⟨b, o, cap, c, t, rfl, _, hb, hl, ho, hc⟩
    · simp at hj
    · have hin := hB.rin hG hm hb
      have hlt : o + j < c.size := (Array.getElem?_eq_some_iff.1 (hc j u hj)).1
      have hcell : w.cell? ⟨b, o + j, none⟩ = some u := by rw [hin.2 (o + j) hlt]; exact hc j u hj
      simp only [execOp, Instr.loadAt, hx, slAddr, Instr.sureAddr, loadVar]
      simp [run_isAgg hT, hn, hcell]), h⟩
theorem st_sliceV {e : TypeId} {v : Value} {B : Mem} {z n i j : Nat} {xs : List Value} {lo hi : Option Operand} (hT : P.underlying T = some (.slice e)) (hs : (P.info? e).map (·.size) = some z) (hx : a.eval x = v) (hv : Shows B z v n xs) (hl : isB (lo.map a.eval) i 0) (hh : isB (hi.map a.eval) j n) (h1 : i ≤ j) (h2 : j ≤ n)
    (hK : opsM P G R ops K rest (a.put d (slPart z v i j)) m) : opsM P G R ops K (⟨d, .slice T x lo hi none, ty, pos, aft, none⟩ :: rest) a m := by
  rcases hv with ⟨rfl, _, oa, cap, rfl, hoa⟩ | ⟨b, o, cap, c, t, rfl, hc, _⟩
  · refine st_quiet (v := slPart z (.slice oa 0 cap) i j) rfl rfl (fun w => ?_) hK
    cases hi' : P.info? e with
    | none => simp [hi'] at hs
    | some k =>
      have hsz : k.size = z := by simpa [hi'] using hs
      have hb := run_bounds (P := P) (isS := true) (len := 0) (cap := cap) hl hh h1 (by omega) w
      have e1 : i = 0 := by omega
      have e2 : j = 0 := by omega
      subst e1 e2
      simp only [execOp, Instr.sliceAt, Instr.slice, hx, Option.map_none]
      cases oa with
      | none =>
        have := hoa rfl
        subst this
        simp [run_underlying hT, hb, sizeOf, typeInfo, hi', slPart]
      | some a =>
        obtain ⟨ab, ao, asp⟩ := a
        by_cases hc0 : cap = 0
        · subst hc0
          simp [run_underlying hT, hb, sizeOf, typeInfo, hi', slPart]
        · simp [run_underlying hT, hb, sizeOf, typeInfo, hi', slPart, hc0, Addr.add]
  · refine st_sliceS hT hs hx hl hh h1 (by omega) ?_
    simpa [slPart] using hK
theorem post_row {w : World} {b : Nat} {c c' : Array Value} {t : TypeId} (hin : In w ⟨b, c, t⟩) (hsz : c'.size = c.size) : Post [⟨b, c, t⟩] [⟨b, c', t⟩] [] w (w.setRow b c') :=
  ⟨⟨rfl, rfl, rfl, by simp [World.setRow], fun k _ hk => setRow_other w b k c' (by simpa using hk)⟩, fun x hx => by
    simp at hx; subst hx
    exact hin.set hsz, by simp [MemIn], by simp, by simp⟩
theorem post_drew (w : World) (c : Array Value) (t : TypeId) (l0 : Mem) (h0 : MemIn l0 w) : Post l0 l0 [⟨w.heap.size, c, t⟩] w (w.drew.alloc (.cells c t)) := by
  have hb : Below w.heap.size w (w.drew.alloc (.cells c t)) := (Below.refl w.heap.size w).drew.alloc (Nat.le_refl _) _
  refine ⟨Keep.of_below hb _, h0.later hb, fun x hx => ?_, by simp, by simp⟩
  simp at hx; subst hx
  refine In.of ?_
  show (w.heap.push _)[w.heap.size]? = _
  simp
end Go.Proofs.Ytfldnikepdbgkaa
namespace Go.Proofs.Ytfldnikepdbgkaa
open Go Go.RowKit
variable {P : Program} {G : Mem} {R : Reg} {ops : Array Oper} {K : Act → Mem → Prop} {rest : List Oper} {a : Act} {m : Mem} {d : Option Tmp} {ty : TypeId} {pos : String} {aft : Array Edge}
variable {T T' : TypeId} {x y : Operand}
def OwnS (e : TypeId) (z : Nat) (v : Value) (n : Nat) (xs : List Value) (l : Mem) : Prop :=
  (v = nilS ∧ n = 0 ∧ xs = [] ∧ l = []) ∨ ∃ r cap c, v = .slice (some ⟨r, 0, none⟩) n cap ∧ l = [⟨r, c, e⟩] ∧ n ≤ cap ∧ cap ≤ maxLen ∧ c.size = cap * z ∧ xs.length = n * z ∧ c.toList.take (n * z) = xs
theorem OwnS.shows {e : TypeId} {z n : Nat} {v : Value} {xs : List Value} {l : Mem} (h : OwnS e z v n xs l) : Shows l z v n xs := by
  rcases h with ⟨h1, h2, h3, _⟩ | ⟨r, cap, c, h1, rfl, h3, _, h4, h5, h6⟩
  · exact .inl ⟨h2, h3, none, 0, h1, fun _ => rfl⟩
  · refine .inr ⟨r, 0, cap, c, e, h1, h3, by simp, h5, ?_, fun j u hj => ?_⟩
    · rw [h4, Nat.zero_add]; exact Nat.mul_le_mul_right _ h3
    · rw [← h6, List.getElem?_take] at hj
      split at hj
      · rw [Nat.zero_add]; simpa using hj
      · cases hj
theorem OwnS.len {e : TypeId} {z n : Nat} {v : Value} {xs : List Value} {l : Mem} (h : OwnS e z v n xs l) : xs.length = n * z := h.shows.len
theorem shows_new {z len r : Nat} (c : Array Value) (e : TypeId) (h : c.size = len * z) : Shows [⟨r, c, e⟩] z (.slice (some ⟨r, 0, none⟩) len len) len c.toList :=
  .inr ⟨r, 0, len, c, e, rfl, Nat.le_refl _, by simp, by simpa using h, by omega, fun j u hj => by rw [Nat.zero_add]; simpa using hj⟩
theorem own_nil (e : TypeId) (z : Nat) : OwnS e z nilS 0 [] [] := .inl ⟨rfl, rfl, rfl, rfl⟩
theorem run_append_in (w : World) (t ty e : TypeId) (i : TypeInfo) (ht : P.underlying t = some (.slice e)) (hi : P.info? e = some i)
    (g sLen sCap : Nat) (cur : Array Value) (hg : In w ⟨g, cur, e⟩)
    (a : Addr) (m c : Nat) (news : List Value) (hl : news.length = m * i.size) (hnews : ∀ j u, news[j]? = some u → w.cell? (a.add j) = some u) (h1 : ∀ u ∈ news, u.oneCell' = true)
    (hroom : sLen + m ≤ sCap) (hfit : sLen * i.size + news.length ≤ cur.size) :
    (Builtin.append_ #[t, t] ty #[.slice (some ⟨g, 0, none⟩) sLen sCap, .slice (some a) m c]).run P w =
      .ok (.slice (some ⟨g, 0, none⟩) (sLen + m) sCap) (w.setRow g (cur.toList.take (sLen * i.size) ++ news ++ cur.toList.drop (sLen * i.size + news.length)).toArray) := by
  have hf := run_firstCells_some (P := P) w i.size m a m c news hl hnews
  have hst := run_storeCells_in (P := P) g (sLen * i.size) e news 0 cur w hg (by simpa using hfit) h1
  simp only [Nat.add_zero] at hst
  simp [Builtin.append_, run_underlying ht, sizeOf, typeInfo, hi, Builtin.lenOf, hroom, hf, Addr.add_lit, hst]
theorem st_append {e : TypeId} {z n k bytes : Nat} {zv v vy : Value} {xs news : List Value} {l0 lr B : Mem} (hT : P.underlying T = some (.slice e)) (hs : (P.info? e).map (·.size) = some z) (hb : (P.info? e).map (·.bytes) = some bytes) (hz : (P.info? e).bind (·.zero) = some zv) (hzs : zv.cells.size = z)
    (hx : a.eval x = v) (hy : a.eval y = vy) (hown : OwnS e z v n xs l0) (hoff : ∀ x ∈ l0, offL R.L x.b) (hp : List.Perm m (l0 ++ lr)) (hsrc : Shows B z vy k news) (hB : ∀ q ∈ B, q ∈ G ∨ q ∈ m) (h1 : ∀ u ∈ news, u.oneCell' = true) (h63 : n + k ≤ maxLen) (hbytes : (n + k) * bytes ≤ 140737488355328)
    (h : ∀ v' l', OwnS e z v' (n + k) (xs ++ news) l' → (l'.map (·.b) = l0.map (·.b) → opsM P G R ops K rest (a.put d v') (l' ++ lr ++ [])) ∧ (FreshM m l' → opsM P G R ops K rest (a.put d v') (l0 ++ lr ++ l'))) :
    opsM P G R ops K (⟨d, .call ⟨.builtin .append, #[x, y], #[T, T]⟩, ty, pos, aft, none⟩ :: rest) a m := by
  have hlen : (xs ++ news).length = (n + k) * z := by rw [List.length_append, hown.len, hsrc.len, Nat.add_mul]
  refine .inr ⟨rfl, ?_⟩
  show coreM _ _ _ _ _ _ _ 5
  refine ⟨l0, lr, fun v' r1 nw => ∃ l', OwnS e z v' (n + k) (xs ++ news) l' ∧ ((r1 = l' ∧ nw = [] ∧ l'.map (·.b) = l0.map (·.b)) ∨ (r1 = l0 ∧ nw = l')), hp, ?_, ?_, ?_, ?_⟩
  · intro m'
    obtain ⟨r, hr⟩ := fresh_of m'
    exact ⟨.slice (some ⟨r, 0, none⟩) (n + k) (n + k), l0, [⟨r, (xs ++ news).toArray, e⟩], ⟨_, .inr ⟨r, n + k, (xs ++ news).toArray, rfl, rfl, Nat.le_refl _, h63, by simp only [List.size_toArray]; exact hlen, hlen, by rw [← hlen]; exact List.take_length⟩, .inr ⟨rfl, rfl⟩⟩, by simp, by simpa using hr⟩
  · refine ⟨?_, hoff⟩
    rintro v' r1 nw ⟨l', _, ⟨rfl, _, h3⟩ | ⟨rfl, _⟩⟩
    · exact h3
    · rfl
  · intro w hG hm _
    have hrun : ∀ v' w', (Builtin.append_ #[T, T] ty #[v, vy]).run P w = .ok v' w' → (execOp a.eval ⟨d, .call ⟨.builtin .append, #[x, y], #[T, T]⟩, ty, pos, aft, none⟩).run P w = .ok (.value v') w' := fun v' w' hr => by
      simp only [execOp, resolve, invoke, builtin, Sem.run_bind, Sem.run_pure, Result.andThen_ok, List.map_toArray, List.map_cons, List.map_nil, hx, hy, hr]
    have hl0 : MemIn l0 w := fun q hq => hm q (hp.mem_iff.2 (by simp [hq]))
    left
    cases hi : P.info? e with
    | none => simp [hi] at hs
    | some i =>
      have hsz : i.size = z := by simpa [hi] using hs
      have hby : i.bytes = bytes := by simpa [hi] using hb
      have hz' : i.zero = some zv := by simpa [hi] using hz
      have hsmall : n + k ≤ 9223372036854775807 := by simp only [maxLen] at h63; omega
      have grown : ∀ old (w0 : World), w0 = w → (∃ c', c' = xs.toArray ++ news.toArray ++ Builtin.zeroCells zv.cells (grownCap w (n + k) old e - (n + k)) ∧
          OwnS e z (.slice (some ⟨w.heap.size, 0, none⟩) (n + k) (grownCap w (n + k) old e)) (n + k) (xs ++ news) [⟨w.heap.size, c', e⟩]) := fun old _ _ => by
        have hge := grownCap_ge w (n + k) old e
        refine ⟨_, rfl, .inr ⟨_, _, _, rfl, rfl, hge, grownCap_le_maxLen w (n + k) old e h63, ?_, hlen, ?_⟩⟩
        · simp only [Array.size_append, List.size_toArray, size_zeroCells, hzs, hown.len, hsrc.len, ← Nat.add_mul]
          congr 1
          omega
        · simp only [Array.toList_append, List.append_assoc]
          rw [← List.append_assoc, ← hlen]
          exact List.take_left
      rcases hsrc with ⟨rfl, rfl, oa, cp, rfl, hoa⟩ | ⟨b, o, cp, c, t, rfl, hkc, hbB, hnl, ho, hnc⟩
      · -- nothing is appended
        refine ⟨v, l0, [], w, hrun _ _ ?_, ⟨l0, by simpa using hown, .inl ⟨rfl, rfl, rfl⟩⟩, Keep.refl _ _ _, hl0, by simp [MemIn], by simp, by simp⟩
        have hf : ∀ q, (Builtin.firstCells q 0 (.slice oa 0 cp)).run P w = .ok #[] w := fun q => by
          cases oa with
          | none => simp [Builtin.firstCells]
          | some a => simp [Builtin.firstCells, loadCells, loadCellsFrom]
        rcases hown with ⟨rfl, rfl, _⟩ | ⟨r, cap, c, rfl, rfl, hnc, _⟩
        · simp [Builtin.append_, run_underlying hT, sizeOf, typeInfo, hi, Builtin.lenOf, hf]
        · simp [Builtin.append_, run_underlying hT, sizeOf, typeInfo, hi, Builtin.lenOf, hf, hnc, storeCells]
      · have hrin : RIn w ⟨b, c, t⟩ := by
          rcases hB _ hbB with h2 | h2
          · exact hG _ h2
          · exact (hm _ h2).read
        have hnews : ∀ j u, news[j]? = some u → w.cell? ((⟨b, o, none⟩ : Addr).add j) = some u := fun j u hj => by
          have hlt : o + j < c.size := (Array.getElem?_eq_some_iff.1 (hnc j u hj)).1
          rw [add_off, hrin.2 (o + j) hlt]
          exact hnc j u hj
        rcases hown with ⟨rfl, rfl, rfl, rfl⟩ | ⟨r, cap, cur, rfl, rfl, hncap, hcm, hcs, hxl, htake⟩
        · by_cases hk : k = 0
          · subst hk
            have hn0 : news = [] := List.eq_nil_of_length_eq_zero (by simpa using hnl)
            subst hn0
            refine ⟨nilS, [], [], w, hrun _ _ ?_, ⟨[], .inl ⟨rfl, rfl, rfl, rfl⟩, .inl ⟨rfl, rfl, rfl⟩⟩, Keep.refl _ _ _, by simp [MemIn], by simp [MemIn], by simp, by simp⟩
            simp [Builtin.append_, run_underlying hT, sizeOf, typeInfo, hi, Builtin.lenOf, Builtin.firstCells, loadCells, loadCellsFrom]
          · have hr := run_append_nil (P := P) w T ty e i zv hT hi hz' ⟨b, o, none⟩ k cp news (by rw [hsz]; exact hnl) hnews (by omega) (by omega) (by rw [hby]; have := hbytes; simp only [Nat.zero_add] at this; omega)
            obtain ⟨c', hc', ho'⟩ := grown 0 w rfl
            simp only [Nat.zero_add, List.nil_append, Array.empty_append] at hc' ho' hr ⊢
            rw [← hc'] at hr
            exact ⟨_, [], _, _, hrun _ _ hr, ⟨_, ho', .inr ⟨rfl, rfl⟩⟩, post_drew w c' e [] (by simp [MemIn])⟩
        · have hg : In w ⟨r, cur, e⟩ := hl0 ⟨r, cur, e⟩ (by simp)
          by_cases hroom : n + k ≤ cap
          · have hfit : n * i.size + news.length ≤ cur.size := by rw [hsz, hnl, hcs, ← Nat.add_mul]; exact Nat.mul_le_mul_right _ hroom
            have hr := run_append_in (P := P) w T ty e i hT hi r n cap cur hg ⟨b, o, none⟩ k cp news (by rw [hsz]; exact hnl) hnews h1 hroom hfit
            obtain ⟨cw, hcw⟩ : ∃ cw, cw = (cur.toList.take (n * i.size) ++ news ++ cur.toList.drop (n * i.size + news.length)).toArray := ⟨_, rfl⟩
            rw [← hcw] at hr
            have hcz : cw.size = cur.size := by
              rw [hcw]
              simp only [List.size_toArray, List.length_append, List.length_take, List.length_drop, Array.length_toList]
              rw [hsz] at hfit ⊢
              omega
            refine ⟨_, [⟨r, cw, e⟩], [], _, hrun _ _ hr, ⟨[⟨r, cw, e⟩], .inr ⟨r, cap, cw, rfl, rfl, hroom, hcm, ?_, hlen, ?_⟩, .inl ⟨rfl, rfl, rfl⟩⟩, post_row (hl0 ⟨r, cur, e⟩ (by simp)) hcz⟩
            · exact hcz.trans hcs
            · rw [hcw, hsz, htake, ← hlen]
              exact List.take_left
          · have holds : ∀ j u, xs[j]? = some u → w.cell? ((⟨r, 0, none⟩ : Addr).add j) = some u := fun j u hj => by
              rw [← htake, List.getElem?_take] at hj
              split at hj
              · have hin : In w ⟨r, cur, e⟩ := hl0 ⟨r, cur, e⟩ (by simp)
                rw [add_off, Nat.zero_add]
                have := In.cell hin j
                simp only at this
                rw [this]; simpa using hj
              · cases hj
            have hr := run_append_grow (P := P) w T ty e i zv hT hi hz' ⟨r, 0, none⟩ n cap xs (by rw [hsz]; exact hxl) holds ⟨b, o, none⟩ k cp news (by rw [hsz]; exact hnl) hnews (by omega) (by omega) (by rw [hby]; exact growslice_fits (by omega) hbytes)
            obtain ⟨c', hc', ho'⟩ := grown cap w rfl
            rw [← hc'] at hr
            exact ⟨_, [⟨r, cur, e⟩], _, _, hrun _ _ hr, ⟨_, ho', .inr ⟨rfl, rfl⟩⟩, post_drew w c' e [⟨r, cur, e⟩] hl0⟩
  · rintro v' r1 nw ⟨l', ho', ⟨rfl, rfl, h3⟩ | ⟨rfl, rfl⟩⟩ hfr
    · exact (h v' r1 ho').1 h3
    · exact (h v' nw ho').2 hfr
def callMk (R : Reg) : Bool := R.c == 4 || R.c == 5
theorem st_callN (hR : callMk R = true) (hpu : pureD R d = false) {fo : Operand} {f : FuncId} {args : Array Operand} {tys : Array TypeId} {vs cap : Array Value} {g' : Mem} {S : Value → Mem → Prop} (hf : a.eval fo = .func (.func f) #[] cap) (hargs : args.map a.eval = vs) (he : enters P f = true)
    (hF : Fx P g' [] f (vs ++ cap) (fun v l1 nw => l1 = [] ∧ S v nw)) (hS : ∀ m' : Mem, ∃ v nw, S v nw ∧ FreshM m' nw) (hg : ∀ w, MemR G w → vis R m w → MemR g' w)
    (h : ∀ v nw, S v nw → FreshM m nw → opsM P G R ops K rest (a.put d v) (m ++ nw)) : opsM P G R ops K (⟨d, .call ⟨.value fo, args, tys⟩, ty, pos, aft, none⟩ :: rest) a m := by
  by_cases h4 : R.c = 4
  · exact st_callM h4 hpu hf hargs he hF hS hg h
  · have h5 : R.c = 5 := by
      unfold callMk at hR
      simp only [Bool.or_eq_true, beq_iff_eq] at hR
      exact hR.resolve_left h4
    refine st_callX h5 hpu hf hargs he hF (l0 := []) (lr := m) (by simp) (by simp) (fun m' => by obtain ⟨v0, n0, h0, h1⟩ := hS m'; exact ⟨v0, [], n0, ⟨rfl, h0⟩, h1⟩) ?_ (fun w hG hm => hg w hG (fun z hz _ => hm z hz)) (by simp) (by simp) ?_
    · rintro v l1 nw ⟨rfl, _⟩; rfl
    · rintro v l1 nw ⟨rfl, hs⟩ hr
      simpa using h v nw hs hr
end Go.Proofs.Ytfldnikepdbgkaa
