import Derived.Test.YtacflmjoigffpaaGreatDoorKX8
import Derived.Test.YtacflmjoigffpaaGreatDoorRows
set_option maxRecDepth 30000
set_option maxHeartbeats 4000000
/-
 Rules with short names.
-/
namespace Go.Proofs.YtacflmjoigffpaaGreatDoor
open Go Go.RowKit
variable {G : Mem} {R : Reg} {ops : Array Oper} {n : Nat} {K : Env → Mm → Prop} {Q : Exit → Env → Mm → Prop} {rest : List Oper} {E : Env} {M : Mm} {d : Nat} {ty : TypeId} {pos : String} {aft : Array Edge} {T : TypeId} {T' : TypeId} {x : Operand} {y : Operand}
theorem Qs {c : Code} {c' : Code} : (zZ Tryz.prog G c n (z2c (zZ Tryz.prog G c' n Q) Q) E M) → zZ Tryz.prog G (.seq c c') n Q E M := fun h => zn9 h
theorem Qp {id : Nat} : (z4 Tryz.prog G Vy ops n (Q .normal) ops.toList E M) → zZ Tryz.prog G (.region id ops false) n Q E M := fun h => zjn h
theorem Qn : (K E M) → z4 Tryz.prog G R ops n K [] E M := fun h => znV h
theorem Qk : (Q .normal E M) → zZ Tryz.prog G .skip n Q E M := fun h => zlu h
theorem Qb {id : Nat} {c : Code} : (zZ Tryz.prog G c n (z28 id Q) E M) → zZ Tryz.prog G (.block id c) n Q E M := fun h => zif h
theorem Qe {id : Nat} : (Q (.exit id) E M) → zZ Tryz.prog G (.exit id) n Q E M := fun h => zl6 h
theorem Qr : (Q .ret E M) → zZ Tryz.prog G .ret n Q E M := fun h => zn7 h
theorem Qm {v : Value} (hx : rd E x = some v := by rfl) (hd : Nat.blt d n = true := by rfl) : (z4 Tryz.prog G R ops n K rest ((d, v) :: E) M) → z4 Tryz.prog G R ops n K (⟨some d, .move x, ty, pos, aft, none⟩ :: rest) E M := fun h => zm5 hx hd h
theorem Qa {v : Value} (hx : rd E x = some v := by rfl) (hd : Nat.blt d n = true := by rfl) : (z4 Tryz.prog G R ops n K rest ((d, v) :: E) M) → z4 Tryz.prog G R ops n K (⟨some d, .assign x, ty, pos, aft, none⟩ :: rest) E M := fun h => y8 hx hd h
theorem Qx {i : Nat} {vs : Array Value} {v : Value} (hx : rd E x = some (.tuple vs) := by rfl) (hv : vs[i]? = some v := by rfl) (hd : Nat.blt d n = true := by rfl) : (z4 Tryz.prog G R ops n K rest ((d, v) :: E) M) → z4 Tryz.prog G R ops n K (⟨some d, .extract x i, ty, pos, aft, none⟩ :: rest) E M := fun h => zbi hx hv hd h
theorem Qy {dd : Option Tmp} {op : Op} {g : Nat} {s : Nat} {want : Bool} {b : Bool} (hg : (ops[g]?).bind (·.dst) = some s := by rfl) (hb : lk E s = some (.bool b) := by rfl) (hw : b = want := by rfl) : (z4 Tryz.prog G R ops n K (⟨dd, op, ty, pos, aft, none⟩ :: rest) E M) → z4 Tryz.prog G R ops n K (⟨dd, op, ty, pos, aft, some (g, want)⟩ :: rest) E M := fun h => zmY hg hb hw h
theorem Qo {op : Op} {g : Nat} {s : Nat} {want : Bool} {b : Bool} (hg : (ops[g]?).bind (·.dst) = some s := by rfl) (hb : lk E s = some (.bool b) := by rfl) (hw : b ≠ want := by decide) (hd : Nat.blt d n = true := by rfl) : (z4 Tryz.prog G R ops n K rest ((d, undef) :: E) M) → z4 Tryz.prog G R ops n K (⟨some d, op, ty, pos, aft, some (g, want)⟩ :: rest) E M := fun h => zos hg hb hw hd h
theorem Qw {op : Op} {g : Nat} {s : Nat} {want : Bool} (hg : (ops[g]?).bind (·.dst) = some s := by rfl) (hb : lk E s = some undef := by rfl) (hd : Nat.blt d n = true := by rfl) : (z4 Tryz.prog G R ops n K rest ((d, undef) :: E) M) → z4 Tryz.prog G R ops n K (⟨some d, op, ty, pos, aft, some (g, want)⟩ :: rest) E M := fun h => zn3 hg hb hd h
theorem QT {p : Operand} {q : Operand} {r : Operand} {t : Bool} {v : Value} (hc : rd E p = some (.bool t) := by rfl) (ht : t = true := by rfl) (hv : rd E q = some v := by rfl) (hd : Nat.blt d n = true := by rfl) : (z4 Tryz.prog G R ops n K rest ((d, v) :: E) M) → z4 Tryz.prog G R ops n K (⟨some d, .pick p q r, ty, pos, aft, none⟩ :: rest) E M := fun h => zi6 hc ht hv hd h
theorem QF {p : Operand} {q : Operand} {r : Operand} {t : Bool} {v : Value} (hc : rd E p = some (.bool t) := by rfl) (ht : t = false := by rfl) (hv : rd E r = some v := by rfl) (hd : Nat.blt d n = true := by rfl) : (z4 Tryz.prog G R ops n K rest ((d, v) :: E) M) → z4 Tryz.prog G R ops n K (⟨some d, .pick p q r, ty, pos, aft, none⟩ :: rest) E M := fun h => zjD hc ht hv hd h
theorem Qg {id : Nat} (hm : Tryz.prog.follows .mixedOrders = true := by exact zfW) (hok : wa Vy ops (List.range ops.size) = true := by kernel_rfl) : (z4 Tryz.prog G Vy ops n (Q .normal) ops.toList E M) → zZ Tryz.prog G (.region id ops true) n Q E M := fun h => zmk hm hok h
theorem QR {id : Nat} (R : Reg) : (z4 Tryz.prog G R ops n (Q .normal) ops.toList E M) → zZ Tryz.prog G (.region id ops false) n Q E M := fun h => zdq R h
theorem Qq {id : Nat} (R : Reg) (hm : Tryz.prog.follows .mixedOrders = true := by exact zfW) (hok : wa R ops (List.range ops.size) = true := by kernel_rfl) : (z4 Tryz.prog G R ops n (Q .normal) ops.toList E M) → zZ Tryz.prog G (.region id ops true) n Q E M := fun h => zjf R hm hok h
theorem Ql {k : IntKind} {p : Int} {q : Int} (hx : rd E x = some (.int k p) := by rfl) (hy : rd E y = some (.int k q) := by rfl) (hd : Nat.blt d n = true := by rfl) : (z4 Tryz.prog G R ops n K rest ((d, .bool (decide (p < q))) :: E) M) → z4 Tryz.prog G R ops n K (⟨some d, .binOp .lss T x y T', ty, pos, aft, none⟩ :: rest) E M := fun h => zop hx hy hd h
theorem QG {k : IntKind} {p : Int} {q : Int} (hx : rd E x = some (.int k p) := by rfl) (hy : rd E y = some (.int k q) := by rfl) (hd : Nat.blt d n = true := by rfl) : (z4 Tryz.prog G R ops n K rest ((d, .bool (decide (q < p))) :: E) M) → z4 Tryz.prog G R ops n K (⟨some d, .binOp .gtr T x y T', ty, pos, aft, none⟩ :: rest) E M := fun h => zov hx hy hd h
theorem QL {k : IntKind} {p : Int} {q : Int} (hx : rd E x = some (.int k p) := by rfl) (hy : rd E y = some (.int k q) := by rfl) (hd : Nat.blt d n = true := by rfl) : (z4 Tryz.prog G R ops n K rest ((d, .bool (decide (p ≤ q))) :: E) M) → z4 Tryz.prog G R ops n K (⟨some d, .binOp .leq T x y T', ty, pos, aft, none⟩ :: rest) E M := fun h => zoy hx hy hd h
theorem QE {k : IntKind} {p : Int} {q : Int} (hx : rd E x = some (.int k p) := by rfl) (hy : rd E y = some (.int k q) := by rfl) (hd : Nat.blt d n = true := by rfl) : (z4 Tryz.prog G R ops n K rest ((d, .bool (decide (q ≤ p))) :: E) M) → z4 Tryz.prog G R ops n K (⟨some d, .binOp .geq T x y T', ty, pos, aft, none⟩ :: rest) E M := fun h => zoJ hx hy hd h
theorem Qc {k : IntKind} {p : Int} {q : Int} (hx : rd E x = some (.int k p) := by rfl) (hy : rd E y = some (.int k q) := by rfl) (hd : Nat.blt d n = true := by rfl) : (z4 Tryz.prog G R ops n K rest ((d, .bool (decide (p = q))) :: E) M) → z4 Tryz.prog G R ops n K (⟨some d, .binOp .eql T x y T', ty, pos, aft, none⟩ :: rest) E M := fun h => zof hx hy hd h
theorem QN {k : IntKind} {p : Int} {q : Int} (hx : rd E x = some (.int k p) := by rfl) (hy : rd E y = some (.int k q) := by rfl) (hd : Nat.blt d n = true := by rfl) : (z4 Tryz.prog G R ops n K rest ((d, .bool (decide (p ≠ q))) :: E) M) → z4 Tryz.prog G R ops n K (⟨some d, .binOp .neq T x y T', ty, pos, aft, none⟩ :: rest) E M := fun h => zog hx hy hd h
theorem Q0 {b : Bool} (hx : rd E x = some (.bool b) := by rfl) (hd : Nat.blt d n = true := by rfl) : (z4 Tryz.prog G R ops n K rest ((d, .bool (!b)) :: E) M) → z4 Tryz.prog G R ops n K (⟨some d, .unOp .not T x, ty, pos, aft, none⟩ :: rest) E M := fun h => znH hx hd h
theorem Qd {b : Nat} {l : Nat} {c : Array Value} {t : TypeId} {td : TypeDesc} (i : Nat) (hT : Tryz.prog.underlying T = some td := by exact Tu rfl) (hn : zE td = true := by rfl) (hs : (Tryz.prog.info? T).map (·.size) = some l := by exact Tz rfl) (hx : rd E x = some (.pointer (some ⟨b, 0, none⟩)) := by rfl) (hm : lkM M i = some ⟨b, c, t⟩ := by rfl) (hl : c.size = l := by exact (zH _ _ _)) (hd : Nat.blt d n = true := by rfl) (hX : ∃ js, Zb M i js R := by exact ⟨[], trivial⟩) : (z4 Tryz.prog G R ops n K rest ((d, .agg c) :: E) M) → z4 Tryz.prog G R ops n K (⟨some d, .load T x, ty, pos, aft, none⟩ :: rest) E M := fun h => zS (i := i) hT hn hs hx hm hl hd hX h
theorem QD {b : Nat} {l : Nat} {c : Array Value} {t : TypeId} {td : TypeDesc} (i : Nat) (hT : Tryz.prog.underlying T = some td := by exact Tu rfl) (hn : zE td = true := by rfl) (hs : (Tryz.prog.info? T).map (·.size) = some l := by exact Tz rfl) (hx : rd E x = some (.pointer (some ⟨b, 0, none⟩)) := by rfl) (hm : lkM M i = some ⟨b, c, t⟩ := by rfl) (hl : c.size = l := by exact (z3 _ _)) (hd : Nat.blt d n = true := by rfl) (hX : ∃ js, Zb M i js R := by exact ⟨[], trivial⟩) : (z4 Tryz.prog G R ops n K rest ((d, .agg c) :: E) M) → z4 Tryz.prog G R ops n K (⟨some d, .load T x, ty, pos, aft, none⟩ :: rest) E M := fun h => zS (i := i) hT hn hs hx hm hl hd hX h
theorem Q1 {b : Nat} {o : Nat} {c : Array Value} {t : TypeId} {v : Value} {td : TypeDesc} (i : Nat) (hT : Tryz.prog.underlying T = some td := by exact Tu rfl) (hn : zE td = false := by rfl) (hx : rd E x = some (.pointer (some ⟨b, o, none⟩)) := by rfl) (hm : lkM M i = some ⟨b, c, t⟩ := by rfl) (hc : c[o]? = some v := by exact (ye (by omega))) (hd : Nat.blt d n = true := by rfl) (hX : ∃ js, Zb M i js R := by exact ⟨[], trivial⟩) : (z4 Tryz.prog G R ops n K rest ((d, v) :: E) M) → z4 Tryz.prog G R ops n K (⟨some d, .load T x, ty, pos, aft, none⟩ :: rest) E M := fun h => yg (i := i) hT hn hx hm hc hd hX h
theorem Qt {b : Nat} {l : Nat} {c : Array Value} {c' : Array Value} {t : TypeId} (i : Nat) (hs : (Tryz.prog.info? T).map (·.size) = some l := by exact Tz rfl) (hx : rd E x = some (.pointer (some ⟨b, 0, none⟩)) := by rfl) (hy : rd E y = some (.agg c') := by rfl) (hl : c'.size = l := by exact (zH _ _ _)) (hv : ∀ v ∈ c', v.oneCell' = true := by exact vS) (hm : lkM M i = some ⟨b, c, t⟩ := by rfl) (ho : c'.size = c.size := by exact (Yf _ _ _ _ _)) (hX : R.X = [] ∨ b ∈ R.X := by exact (.inl rfl)) (hY : R.Y = none := by rfl) : (z4 Tryz.prog G R ops n K rest E ((i, some ⟨b, c', t⟩) :: M)) → z4 Tryz.prog G R ops n K (⟨none, .store T x y, ty, pos, aft, none⟩ :: rest) E M := fun h => z7 (i := i) hs hx hy hl hv hm ho hX h
theorem Qu {b : Nat} {o : Nat} {l : Nat} {v : Nat} {k : IntKind} {f : Nat → Nat} {t : TypeId} (i : Nat) (hs : (Tryz.prog.info? T).map (·.size) = some 1 := by exact Tz rfl) (hx : rd E x = some (.pointer (some ⟨b, o, none⟩)) := by rfl) (hy : rd E y = some (.int k (v : Int)) := by rfl) (hm : lkM M i = some ⟨b, arr k l f, t⟩ := by rfl) (ho : o < l := by omega) (hX : R.X = [] ∨ b ∈ R.X := by exact (.inl rfl)) (hY : R.Y = none := by rfl) : (z4 Tryz.prog G R ops n K rest E ((i, some ⟨b, arr k l (upd f o v), t⟩) :: M)) → z4 Tryz.prog G R ops n K (⟨none, .store T x y, ty, pos, aft, none⟩ :: rest) E M := fun h => ZD (i := i) hs hx hy hm ho hX h
theorem Qf {b : Nat} {o : Nat} {f : Nat} {sz : Nat} {fs : Array Field} {fd : Field} (o' : Nat) (hT : Tryz.prog.underlying T = some (.struct fs) := by exact Tu rfl) (hf : fs[f]? = some fd := by rfl) (hs : (Tryz.prog.info? fd.type).map (·.size) = some (sz + 1) := by exact Tz rfl) (hx : rd E x = some (.pointer (some ⟨b, o, none⟩)) := by rfl) (ho : o + fd.offset = o' := by rfl) (hd : Nat.blt d n = true := by rfl) : (z4 Tryz.prog G R ops n K rest ((d, .pointer (some ⟨b, o', none⟩)) :: E) M) → z4 Tryz.prog G R ops n K (⟨some d, .fieldAddr T x f, ty, pos, aft, none⟩ :: rest) E M := fun h => znB o' hT hf hs hx ho hd h
theorem Qi {b : Nat} {j : Nat} {l : Nat} {k : IntKind} {e : TypeId} (hT : Tryz.prog.underlying T = some (.array l e) := by exact Tu rfl) (hs : (Tryz.prog.info? e).map (·.size) = some 1 := by exact Tz rfl) (hx : rd E x = some (.pointer (some ⟨b, 0, none⟩)) := by rfl) (hy : rd E y = some (.int k (j : Int)) := by rfl) (hj : j < l := by omega) (hd : Nat.blt d n = true := by rfl) : (z4 Tryz.prog G R ops n K rest ((d, .pointer (some ⟨b, j, none⟩)) :: E) M) → z4 Tryz.prog G R ops n K (⟨some d, .indexAddr T x y, ty, pos, aft, none⟩ :: rest) E M := fun h => Z5 hT hs hx hy hj hd h
theorem Qj {b : Nat} {l : Nat} {k : IntKind} {e : TypeId} (j : Nat) (hT : Tryz.prog.underlying T = some (.array l e) := by exact Tu rfl) (hs : (Tryz.prog.info? e).map (·.size) = some 1 := by exact Tz rfl) (hx : rd E x = some (.pointer (some ⟨b, 0, none⟩)) := by rfl) (hy : rd E y = some (.int k (j : Int)) := by rfl) (hj : j < l := by omega) (hd : Nat.blt d n = true := by rfl) : (z4 Tryz.prog G R ops n K rest ((d, .pointer (some ⟨b, j, none⟩)) :: E) M) → z4 Tryz.prog G R ops n K (⟨some d, .indexAddr T x y, ty, pos, aft, none⟩ :: rest) E M := fun h => Z5 (j := j) hT hs hx hy hj hd h
theorem QA {b : Nat} {o : Nat} {l : Nat} {z : Nat} {k : IntKind} {e : TypeId} (o' : Nat) (j : Nat) (hT : Tryz.prog.underlying T = some (.array l e) := by exact Tu rfl) (hs : (Tryz.prog.info? e).map (·.size) = some (z + 1) := by exact Tz rfl) (hx : rd E x = some (.pointer (some ⟨b, o, none⟩)) := by rfl) (hy : rd E y = some (.int k (j : Int)) := by rfl) (hj : j < l := by omega) (ho : o + j * (z + 1) = o' := by omega) (hd : Nat.blt d n = true := by rfl) : (z4 Tryz.prog G R ops n K rest ((d, .pointer (some ⟨b, o', none⟩)) :: E) M) → z4 Tryz.prog G R ops n K (⟨some d, .indexAddr T x y, ty, pos, aft, none⟩ :: rest) E M := fun h => zlV (j := j) o' hT hs hx hy hj ho hd h
theorem QB {b : Nat} {o : Nat} {j : Nat} {l : Nat} {z : Nat} {k : IntKind} {e : TypeId} (o' : Nat) (hT : Tryz.prog.underlying T = some (.array l e) := by exact Tu rfl) (hs : (Tryz.prog.info? e).map (·.size) = some (z + 1) := by exact Tz rfl) (hx : rd E x = some (.pointer (some ⟨b, o, none⟩)) := by rfl) (hy : rd E y = some (.int k (j : Int)) := by rfl) (hj : j < l := by omega) (ho : o + j * (z + 1) = o' := by omega) (hd : Nat.blt d n = true := by rfl) : (z4 Tryz.prog G R ops n K rest ((d, .pointer (some ⟨b, o', none⟩)) :: E) M) → z4 Tryz.prog G R ops n K (⟨some d, .indexAddr T x y, ty, pos, aft, none⟩ :: rest) E M := fun h => zlV o' hT hs hx hy hj ho hd h
theorem Qh {v : Value} (i : Nat) (hx : rd E x = some v := by rfl) (hd : Nat.blt d n = true := by rfl) : (∀ r, z4 Tryz.prog G R ops n K rest ((d, ptr r) :: E) ((i, some ⟨r, v.cells, T⟩) :: M)) → z4 Tryz.prog G R ops n K (⟨some d, .box T x, ty, pos, aft, none⟩ :: rest) E M := fun h => znJ i hx hd h
theorem QH {z : Value} (i : Nat) (hz : (Tryz.prog.info? T).bind (·.zero) = some z := by exact Tb rfl) (hd : Nat.blt d n = true := by rfl) : (∀ r, z4 Tryz.prog G R ops n K rest ((d, ptr r) :: E) ((i, some ⟨r, z.cells, T⟩) :: M)) → z4 Tryz.prog G R ops n K (⟨some d, .alloc T, ty, pos, aft, none⟩ :: rest) E M := fun h => zhy i hz hd h
theorem Qv {b : Nat} {o : Nat} {l : Nat} {N : Nat} {kd : IntKind} {f : Nat → Nat} {ps : List y7} {t : TypeId} {td : TypeDesc} (k : Nat) (i : Nat) (hT : Tryz.prog.underlying T = some td := by exact Tu rfl) (hn : zE td = true := by rfl) (hs : (Tryz.prog.info? T).map (·.size) = some l := by exact Tz rfl) (hx : rd E x = some (.pointer (some ⟨b, o, none⟩)) := by rfl) (hm : lkM M i = some ⟨b, zr N ps, t⟩ := by rfl) (hk : xV ps k = some (o, pI kd l f) := by rfl) (ho : o + l ≤ N := by decide) (hd : Nat.blt d n = true := by rfl) (hX : ∃ js, Zb M i js R := by exact ⟨[], trivial⟩) : (z4 Tryz.prog G R ops n K rest ((d, .agg (arr kd l f)) :: E) M) → z4 Tryz.prog G R ops n K (⟨some d, .load T x, ty, pos, aft, none⟩ :: rest) E M := fun h => z9J (i := i) k hT hn hs hx hm hk ho hd hX h
theorem QV {b : Nat} {o : Nat} {N : Nat} {v : Value} {ps : List y7} {t : TypeId} {td : TypeDesc} (k : Nat) (i : Nat) (hT : Tryz.prog.underlying T = some td := by exact Tu rfl) (hn : zE td = false := by rfl) (hx : rd E x = some (.pointer (some ⟨b, o, none⟩)) := by rfl) (hm : lkM M i = some ⟨b, zr N ps, t⟩ := by rfl) (hk : xV ps k = some (o, pV v) := by rfl) (hN : o < N := by decide) (hd : Nat.blt d n = true := by rfl) (hX : ∃ js, Zb M i js R := by exact ⟨[], trivial⟩) : (z4 Tryz.prog G R ops n K rest ((d, v) :: E) M) → z4 Tryz.prog G R ops n K (⟨some d, .load T x, ty, pos, aft, none⟩ :: rest) E M := fun h => z0Q (i := i) k hT hn hx hm hk hN hd hX h
theorem QI {b : Nat} {o : Nat} {o' : Nat} {l : Nat} {N : Nat} {kd : IntKind} {f : Nat → Nat} {ps : List y7} {t : TypeId} {td : TypeDesc} (k : Nat) (j : Nat) (i : Nat) (hT : Tryz.prog.underlying T = some td := by exact Tu rfl) (hn : zE td = false := by rfl) (hx : rd E x = some (.pointer (some ⟨b, o', none⟩)) := by rfl) (hm : lkM M i = some ⟨b, zr N ps, t⟩ := by rfl) (hk : xV ps k = some (o, pI kd l f) := by rfl) (ho : o' = o + j := by rfl) (hj : j < l := by decide) (hN : o' < N := by decide) (hd : Nat.blt d n = true := by rfl) (hX : ∃ js, Zb M i js R := by exact ⟨[], trivial⟩) : (z4 Tryz.prog G R ops n K rest ((d, .int kd (f j : Int)) :: E) M) → z4 Tryz.prog G R ops n K (⟨some d, .load T x, ty, pos, aft, none⟩ :: rest) E M := fun h => z3h (i := i) k j hT hn hx hm hk ho hj hN hd hX h
theorem Q2 {p : Nat} (q : Nat) (hx : rd E x = some (ii p) := by rfl) (hy : rd E y = some (ii q) := by rfl) (hd : Nat.blt d n = true := by rfl) (hb : p + q < 9223372036854775808 := by omega) : (z4 Tryz.prog G R ops n K rest ((d, ii (p + q)) :: E) M) → z4 Tryz.prog G R ops n K (⟨some d, .binOp .add T x y T', ty, pos, aft, none⟩ :: rest) E M := fun h => zT (q := q) hx hy hd hb h
theorem Q3 {p : Nat} {q : Nat} (hx : rd E x = some (ii p) := by rfl) (hy : rd E y = some (ii q) := by rfl) (hd : Nat.blt d n = true := by rfl) (hb : p + q < 9223372036854775808 := by omega) : (z4 Tryz.prog G R ops n K rest ((d, ii (p + q)) :: E) M) → z4 Tryz.prog G R ops n K (⟨some d, .binOp .add T x y T', ty, pos, aft, none⟩ :: rest) E M := fun h => zT hx hy hd hb h
theorem Q4 {p : Nat} (q : Nat) (hx : rd E x = some (ii p) := by rfl) (hy : rd E y = some (ii q) := by rfl) (hd : Nat.blt d n = true := by rfl) (hq : 0 < q := by omega) : (z4 Tryz.prog G R ops n K rest ((d, ii (p % q)) :: E) M) → z4 Tryz.prog G R ops n K (⟨some d, .binOp .rem T x y T', ty, pos, aft, none⟩ :: rest) E M := fun h => zhr (q := q) hx hy hd hq h
theorem Q5 {p : Nat} (q : Nat) (hx : rd E x = some (ii p) := by rfl) (hy : rd E y = some (ii q) := by rfl) (hd : Nat.blt d n = true := by rfl) (hp : p < 9223372036854775808 := by omega) (hq : 0 < q := by omega) : (z4 Tryz.prog G R ops n K rest ((d, ii (p / q)) :: E) M) → z4 Tryz.prog G R ops n K (⟨some d, .binOp .quo T x y T', ty, pos, aft, none⟩ :: rest) E M := fun h => zju (q := q) hx hy hd hp hq h
theorem Q6 {p : Nat} (q : Nat) (hx : rd E x = some (ii p) := by rfl) (hy : rd E y = some (ii q) := by rfl) (hd : Nat.blt d n = true := by rfl) (hb : p * q < 9223372036854775808 := by omega) : (z4 Tryz.prog G R ops n K rest ((d, ii (p * q)) :: E) M) → z4 Tryz.prog G R ops n K (⟨some d, .binOp .mul T x y T', ty, pos, aft, none⟩ :: rest) E M := fun h => z4q (q := q) hx hy hd hb h
theorem Q7 {q : Nat} (p : Nat) (hx : rd E x = some (ii p) := by rfl) (hy : rd E y = some (ii q) := by rfl) (hd : Nat.blt d n = true := by rfl) (hb : p * q < 9223372036854775808 := by omega) : (z4 Tryz.prog G R ops n K rest ((d, ii (p * q)) :: E) M) → z4 Tryz.prog G R ops n K (⟨some d, .binOp .mul T x y T', ty, pos, aft, none⟩ :: rest) E M := fun h => z4q (p := p) hx hy hd hb h
theorem Q8 {k : IntKind} {p : Nat} (s : Nat) (hx : rd E x = some (u p) := by rfl) (hy : rd E y = some (.int k (s : Int)) := by rfl) (hd : Nat.blt d n = true := by rfl) (hs : s ≤ 64 := by omega) : (z4 Tryz.prog G R ops n K rest ((d, u (p / 2 ^ s)) :: E) M) → z4 Tryz.prog G R ops n K (⟨some d, .binOp .shr T x y T', ty, pos, aft, none⟩ :: rest) E M := fun h => z03 (s := s) hx hy hd hs h
theorem Q9 {p : Nat} (q : Nat) (hx : rd E x = some (u p) := by rfl) (hy : rd E y = some (u q) := by rfl) (hd : Nat.blt d n = true := by rfl) : (z4 Tryz.prog G R ops n K rest ((d, u ((p &&& q) % 18446744073709551616)) :: E) M) → z4 Tryz.prog G R ops n K (⟨some d, .binOp .and T x y T', ty, pos, aft, none⟩ :: rest) E M := fun h => z0q (q := q) hx hy hd h
theorem QU {l : List Nat} (hT : Tryz.prog.underlying T = some .string := by exact Tu rfl) (hx : rd E x = some (sv l) := by rfl) (hd : Nat.blt d n = true := by rfl) (hR : yJ R = true := by rfl) : (z4 Tryz.prog G R ops n K rest ((d, ii l.length) :: E) M) → z4 Tryz.prog G R ops n K (⟨some d, .call ⟨.builtin .len, #[x], #[T]⟩, ty, pos, aft, none⟩ :: rest) E M := fun h => zdK hT hx hd hR h
theorem QX {j : Nat} {l : Nat} {k : IntKind} {k' : IntKind} {k2 : IntKind} {e : TypeId} {f : Nat → Nat} (hT : Tryz.prog.underlying T = some (.array l e) := by exact Tu rfl) (he : Tryz.prog.underlying e = some (.int k') := by exact Tu rfl) (hs : (Tryz.prog.info? e).map (·.size) = some 1 := by exact Tz rfl) (hx : rd E x = some (.agg (arr k l f)) := by rfl) (hy : rd E y = some (.int k2 (j : Int)) := by rfl) (hj : j < l := by omega) (hd : Nat.blt d n = true := by rfl) : (z4 Tryz.prog G R ops n K rest ((d, .int k (f j : Int)) :: E) M) → z4 Tryz.prog G R ops n K (⟨some d, .index T x y, ty, pos, aft, none⟩ :: rest) E M := fun h => znD hT he hs hx hy hj hd h
theorem QY {fn : Go.Fn} {fs : Array Operand} {cs : Array Operand} {vf : List Value} {vc : List Value} (h1 : rdl E fs.toList = some vf := by rfl) (h2 : rdl E cs.toList = some vc := by rfl) (hd : Nat.blt d n = true := by rfl) : (z4 Tryz.prog G R ops n K rest ((d, .func fn vf.toArray vc.toArray) :: E) M) → z4 Tryz.prog G R ops n K (⟨some d, .makeFunc fn fs cs, ty, pos, aft, none⟩ :: rest) E M := fun h => zkC h1 h2 hd h
theorem QC {e : TypeId} {v : Value} {B : Mem} {z : Nat} {k : Nat} {xs : List Value} (hv : Shows B z v k xs) (hT : Tryz.prog.underlying T = some (.slice e) := by exact Tu rfl) (hx : rd E x = some v := by rfl) (hd : Nat.blt d n = true := by rfl) (hR : yJ R = true := by rfl) : (z4 Tryz.prog G R ops n K rest ((d, ii k) :: E) M) → z4 Tryz.prog G R ops n K (⟨some d, .call ⟨.builtin .len, #[x], #[T]⟩, ty, pos, aft, none⟩ :: rest) E M := fun h => zlb hv hT hx hd hR h
theorem QS {l : List Oper} {s : Nat} {v : Value} {v' : Value} (hv : v = v' := by exact (congrArg (we _) (Nat.mul_one _))) : (z4 Tryz.prog G R ops n K l ((s, v') :: E) M) → z4 Tryz.prog G R ops n K l ((s, v) :: E) M := fun h => zi hv h
theorem Qat {l : List Oper} {s : Nat} {v : Value} {v' : Value} (hv : v = v' := by exact (congrArg Value.bool (decide_eq_true (by omega)))) : (z4 Tryz.prog G R ops n K l ((s, v') :: E) M) → z4 Tryz.prog G R ops n K l ((s, v) :: E) M := fun h => zi hv h
theorem Qaf {l : List Oper} {s : Nat} {v : Value} {v' : Value} (hv : v = v' := by exact (congrArg Value.bool (decide_eq_false (by omega)))) : (z4 Tryz.prog G R ops n K l ((s, v') :: E) M) → z4 Tryz.prog G R ops n K l ((s, v) :: E) M := fun h => zi hv h
theorem Qar {l : List Oper} {s : Nat} {v : Value} {v' : Value} (hv : v = v' := by exact (congrArg Value.bool (decide_eq_true rfl))) : (z4 Tryz.prog G R ops n K l ((s, v') :: E) M) → z4 Tryz.prog G R ops n K l ((s, v) :: E) M := fun h => zi hv h
theorem Qz {c : Code} (I : Nat → Env → Mm → Prop) {E0 : Env} {M0 : Mm} {k : Nat} (h0 : I k E0 M0) (hs : sub E0 E) (hl : xR M0 M) (round : ∀ k E M, I k E M → zZ Tryz.prog G c n (z2c (fun E' M' => ∃ k' E'' M'', k' < k ∧ sub E'' E' ∧ xR M'' M' ∧ I k' E'' M'') Q) E M) : zZ Tryz.prog G (.loop c) n Q E M := z8n I E0 M0 k hs hl h0 round
theorem QzK {c : Code} (Ek : Env) (Mk : Mm) (I : Nat → Env → Mm → Prop) {E0 : Env} {M0 : Mm} {k : Nat} (h0 : I k E0 M0) (hs : sub (zB E0 Ek) E) (hl : xR (zA M0 Mk) M) (round : ∀ k E M, I k E M → zZ Tryz.prog G c n (z2c (fun E' M' => ∃ k' E'' M'', k' < k ∧ sub (zB E'' Ek) E' ∧ xR (zA M'' Mk) M' ∧ I k' E'' M'') Q) (zB E Ek) (zA M Mk)) : zZ Tryz.prog G (.loop c) n Q E M := zjV Ek Mk I E0 M0 k hs hl h0 round
theorem Qzr {I : Nat → Env → Mm → Prop} {k k' : Nat} {E' : Env} {M' : Mm} {E'' : Env} {M'' : Mm} (h : I k' E'' M'') (hs : sub E'' E') (hl : xR M'' M') (hk : k' < k) : ∃ k' E'' M'', k' < k ∧ sub E'' E' ∧ xR M'' M' ∧ I k' E'' M'' := ⟨_, _, _, hk, hs, hl, h⟩
theorem QzL {I : Nat → Env → Mm → Prop} {k k' : Nat} {Ek : Env} {Mk : Mm} {E' : Env} {M' : Mm} {E'' : Env} {M'' : Mm} (h : I k' E'' M'') (hs : sub (zB E'' Ek) E') (hl : xR (zA M'' Mk) M') (hk : k' < k) : ∃ k' E'' M'', k' < k ∧ sub (zB E'' Ek) E' ∧ xR (zA M'' Mk) M' ∧ I k' E'' M'' := ⟨_, _, _, hk, hs, hl, h⟩
theorem Qf1 {f : FuncId} {fn : Func} {c : Code} {vs : List Value} {v : Value} (hf : Tryz.prog.funcs[f]? = some fn) (h : zZ Tryz.prog G c n (znF Tryz.prog fn v) (xM vs 0) []) (hb : fn.body = some c := by rfl) (hn : fn.ntmps = n := by rfl) (ha : vs.toArray.size ≤ n := by simp) : Fn Tryz.prog G f vs.toArray v := fn1 hf hb hn ha (xM vs 0) (yi vs) h
theorem Qf2 {f : FuncId} {fn : Func} {c : Code} {vs : List Value} {v v' : Value} (hf : Tryz.prog.funcs[f]? = some fn) (h : zZ Tryz.prog G c n (znL Tryz.prog fn v v') (xM vs 0) []) (hb : fn.body = some c := by rfl) (hn : fn.ntmps = n := by rfl) (ha : vs.toArray.size ≤ n := by simp) : Fn Tryz.prog G f vs.toArray (.tuple #[v, v']) := fn2 hf hb hn ha (xM vs 0) (yi vs) h
theorem Qf3 {f : FuncId} {fn : Func} {c : Code} {vs : List Value} {v v' v'' : Value} (hf : Tryz.prog.funcs[f]? = some fn) (h : zZ Tryz.prog G c n (znd Tryz.prog fn v v' v'') (xM vs 0) []) (hb : fn.body = some c := by rfl) (hn : fn.ntmps = n := by rfl) (ha : vs.toArray.size ≤ n := by simp) : Fn Tryz.prog G f vs.toArray (.tuple #[v, v', v'']) := fn3 hf hb hn ha (xM vs 0) (yi vs) h
theorem QfN {f : FuncId} {fn : Func} {c : Code} {vs : List Value} {e : TypeId} {z k : Nat} {xs : List Value} (hf : Tryz.prog.funcs[f]? = some fn) (h : zZ Tryz.prog G c n (zns Tryz.prog e z k xs fn) (xM vs 0) []) (hb : fn.body = some c := by rfl) (hn : fn.ntmps = n := by rfl) (ha : vs.toArray.size ≤ n := by simp) : Fx Tryz.prog G [] f vs.toArray (fun v l1 nw => l1 = [] ∧ ∃ v', v = v' ∧ OwnS e z v' k xs nw) := fxN hf hb hn ha (xM vs 0) (yi vs) h
theorem QfM {f : FuncId} {fn : Func} {c : Code} {vs : List Value} {e : TypeId} {z k : Nat} {xs : List Value} {u : Value} (hf : Tryz.prog.funcs[f]? = some fn) (h : zZ Tryz.prog G c n (zka Tryz.prog e z k xs u fn) (xM vs 0) []) (hb : fn.body = some c := by rfl) (hn : fn.ntmps = n := by rfl) (ha : vs.toArray.size ≤ n := by simp) : Fx Tryz.prog G [] f vs.toArray (fun v l1 nw => l1 = [] ∧ ∃ v', v = .tuple #[v', u] ∧ OwnS e z v' k xs nw) := zox hf hb hn ha (xM vs 0) (yi vs) h
theorem QfO {f : FuncId} {fn : Func} {c : Code} {vs : List Value} {e : TypeId} {z k : Nat} {xs : List Value} {q u : Value} (hf : Tryz.prog.funcs[f]? = some fn) (h : zZ Tryz.prog G c n (zki Tryz.prog e z k xs q u fn) (xM vs 0) []) (hb : fn.body = some c := by rfl) (hn : fn.ntmps = n := by rfl) (ha : vs.toArray.size ≤ n := by simp) : Fx Tryz.prog G [] f vs.toArray (fun v l1 nw => l1 = [] ∧ ∃ v', v = .tuple #[q, v', u] ∧ OwnS e z v' k xs nw) := zou hf hb hn ha (xM vs 0) (yi vs) h
theorem QfW {f : FuncId} {fn : Func} {c : Code} {vs : List Value} {b : Nat} {c0 c' : Array Value} {t : TypeId} (hf : Tryz.prog.funcs[f]? = some fn) (h : zZ Tryz.prog G c n (zmZ b c' t fn) (xM vs 0) [(0, some ⟨b, c0, t⟩)]) (hb : fn.body = some c := by rfl) (hn : fn.ntmps = n := by rfl) (ha : vs.toArray.size ≤ n := by simp) : Fx Tryz.prog G [⟨b, c0, t⟩] f vs.toArray (fun v' l1 nw => v' = .tuple #[] ∧ l1 = [⟨b, c', t⟩] ∧ nw = []) := fxW hf hb hn ha (xM vs 0) (yi vs) h
abbrev Sh (G : Mem) (v : Value) (l : List Nat) : Prop := Shows G 1 v l.length (l.map by8)
abbrev By (l : List Nat) : Prop := ∀ b ∈ l, b < 256
abbrev L8 (n : Nat) (f : Nat → Nat) : Prop := ∀ j, j < n → f j < 256
theorem Ca {f : FuncId} {args : Array Operand} {tys : Array TypeId} {vs : List Value} {v : Value} (hF : Fn Tryz.prog G f vs.toArray v) (hargs : rdl E args.toList = some vs := by rfl) (he : xr Tryz.prog f = true := by exact Un _) (hd : Nat.blt d n = true := by rfl) (hR : yJ R = true := by rfl) : (z4 Tryz.prog G R ops n K rest ((d, v) :: E) M) → z4 Tryz.prog G R ops n K (⟨some d, .call ⟨.value (.func f), args, tys⟩, ty, pos, aft, none⟩ :: rest) E M := fun h => zC hargs he hF hd hR h
theorem Av {l : List Oper} {s : Nat} {v : Value} (v' : Value) (hv : v = v' := by exact rfl) : (z4 Tryz.prog G R ops n K l ((s, v') :: E) M) → z4 Tryz.prog G R ops n K l ((s, v) :: E) M := fun h => zi hv h
theorem Aa {l : List Oper} {s N : Nat} {k : IntKind} {f g : Nat → Nat} (hv : ∀ j, j < N → f j = g j) : (z4 Tryz.prog G R ops n K l ((s, .agg (arr k N g)) :: E) M) → z4 Tryz.prog G R ops n K l ((s, .agg (arr k N f)) :: E) M := fun h => zi (congrArg Value.agg (zz hv)) h
theorem Ab {l : List Oper} {s : Nat} {v v' : Bool} (hv : v = v') : (z4 Tryz.prog G R ops n K l ((s, .bool v') :: E) M) → z4 Tryz.prog G R ops n K l ((s, .bool v) :: E) M := fun h => zi (congrArg Value.bool hv) h
theorem Af {l : List Oper} {s : Nat} {f g : Nat → Nat} (hv : f = g) : (z4 Tryz.prog G R ops n K l ((s, .agg (arr .u8 32 g)) :: E) M) → z4 Tryz.prog G R ops n K l ((s, .agg (arr .u8 32 f)) :: E) M := fun h => zi (congrArg (fun f => Value.agg (arr .u8 32 f)) hv) h
theorem Ai {l : List Oper} {s : Nat} {p q : Nat} (hv : p = q) : (z4 Tryz.prog G R ops n K l ((s, ii q) :: E) M) → z4 Tryz.prog G R ops n K l ((s, ii p) :: E) M := fun h => zi (congrArg ii hv) h
theorem Au {l : List Oper} {s : Nat} {p q : Nat} (hv : p = q) : (z4 Tryz.prog G R ops n K l ((s, u q) :: E) M) → z4 Tryz.prog G R ops n K l ((s, u p) :: E) M := fun h => zi (congrArg u hv) h
theorem Qcm {a b c : Prop} (h : b → a) (e : b = c) : c → a := e ▸ h
theorem Qcd {c : Operand} {p q : Code} {t : Prop} {ht : Decidable t} (hc : rd E c = some (.bool (@decide t ht)) := by rfl) : (t → zZ Tryz.prog G p n Q E M) → (¬ t → zZ Tryz.prog G q n Q E M) → zZ Tryz.prog G (.cond c p q) n Q E M := fun a b => ze hc (fun e => a (of_decide_eq_true e)) (fun e => b (of_decide_eq_false e))
theorem Qct {c : Operand} {p q : Code} (hc : rd E c = some (.bool true) := by rfl) : (zZ Tryz.prog G p n Q E M) → zZ Tryz.prog G (.cond c p q) n Q E M := fun h => ze hc (fun _ => h) (fun e => by cases e)
theorem Qcf {c : Operand} {p q : Code} (hc : rd E c = some (.bool false) := by rfl) : (zZ Tryz.prog G q n Q E M) → zZ Tryz.prog G (.cond c p q) n Q E M := fun h => ze hc (fun e => by cases e) (fun _ => h)
theorem ya {t : Nat} {b l : Nat} {c : Array Value} {t' : TypeId} {td : TypeDesc} (i : Nat) (h : lk E t = some (ptr b) := by rfl) (hm : lkM M i = some ⟨b, c, t'⟩ := by rfl) (hT : Tryz.prog.underlying T = some td := by exact Tu rfl) (hn : zE td = true := by rfl) (hs : (Tryz.prog.info? T).map (·.size) = some l := by exact Tz rfl) (hl : c.size = l := by exact (zH _ _ _)) : Res Tryz.prog E M (.cell t T) (.agg c) := .cell h hm hT hn hs hl
theorem yb {t : Nat} {b l : Nat} {c : Array Value} {t' : TypeId} {td : TypeDesc} (i : Nat) (h : lk E t = some (ptr b) := by rfl) (hm : lkM M i = some ⟨b, c, t'⟩ := by rfl) (hT : Tryz.prog.underlying T = some td := by exact Tu rfl) (hn : zE td = true := by rfl) (hs : (Tryz.prog.info? T).map (·.size) = some l := by exact Tz rfl) (hl : c.size = l := by exact (z3 _ _)) : Res Tryz.prog E M (.cell t T) (.agg c) := .cell h hm hT hn hs hl
theorem yt {t : Nat} {v : Value} (h : lk E t = some v := by rfl) : Res Tryz.prog E M (.tmp t) v := h
theorem QW {b : Nat} {l : Nat} {c : Array Value} {c' : Array Value} {t : TypeId} (i : Nat) (hs : (Tryz.prog.info? T).map (·.size) = some l := by exact Tz rfl) (hx : rd E x = some (.pointer (some ⟨b, 0, none⟩)) := by rfl) (hy : rd E y = some (.agg c') := by rfl) (hl : c'.size = l := by exact (z3 _ _)) (hv : ∀ v ∈ c', v.oneCell' = true := by exact za (by repeat (first | exact trivial | refine ⟨fun _ => rfl, ?_⟩))) (hm : lkM M i = some ⟨b, c, t⟩ := by rfl) (ho : c'.size = c.size := by exact z8) (hX : R.X = [] ∨ b ∈ R.X := by exact (.inl rfl)) (hY : R.Y = none := by rfl) : (z4 Tryz.prog G R ops n K rest E ((i, some ⟨b, c', t⟩) :: M)) → z4 Tryz.prog G R ops n K (⟨none, .store T x y, ty, pos, aft, none⟩ :: rest) E M := fun h_ => z7 (i := i) hs hx hy hl hv hm ho hX h_
theorem Qsa {b : Nat} {o : Nat} {N : Nat} {z : Nat} {e : TypeId} {lo : Option Operand} {hi : Option Operand} {vl : Option Value} {vh : Option Value} (l : Nat) (h : Nat) (hT : Tryz.prog.underlying T = some (.array N e) := by exact Tu rfl) (hs : (Tryz.prog.info? e).map (·.size) = some z := by exact Tz rfl) (hx : rd E x = some (.pointer (some ⟨b, o, none⟩)) := by rfl) (hlo : rdo E lo = some vl := by rfl) (hhi : rdo E hi = some vh := by rfl) (hl : isB vl l 0 := by rfl) (hh : isB vh h N := by rfl) (h1 : l ≤ h := by omega) (h2 : h ≤ N := by omega) (h3 : l < N := by omega) (hd : Nat.blt d n = true := by rfl) : (z4 Tryz.prog G R ops n K rest ((d, .slice (some ⟨b, o + l * z, none⟩) (h - l) (N - l)) :: E) M) → z4 Tryz.prog G R ops n K (⟨some d, .slice T x lo hi none, ty, pos, aft, none⟩ :: rest) E M := fun h_ => Z4 l h hT hs hx hlo hhi hl hh h1 h2 h3 hd h_
theorem Qls {b : Nat} {o : Nat} {l : Nat} {N : Nat} {k : IntKind} {f : Nat → Nat} {t : TypeId} {td : TypeDesc} (i : Nat) (hT : Tryz.prog.underlying T = some td := by exact Tu rfl) (hn : zE td = true := by rfl) (hs : (Tryz.prog.info? T).map (·.size) = some l := by exact Tz rfl) (hx : rd E x = some (.pointer (some ⟨b, o, none⟩)) := by rfl) (hm : lkM M i = some ⟨b, arr k N f, t⟩ := by rfl) (ho : o + l ≤ N := by omega) (hd : Nat.blt d n = true := by rfl) (hX : ∃ js, Zb M i js R := by exact ⟨[], trivial⟩) : (z4 Tryz.prog G R ops n K rest ((d, .agg (arr k l (fun t => f (o + t)))) :: E) M) → z4 Tryz.prog G R ops n K (⟨some d, .load T x, ty, pos, aft, none⟩ :: rest) E M := fun h_ => zhC (i := i) hT hn hs hx hm ho hd hX h_
theorem Qxw {p : Nat} {q : Nat} (hx : rd E x = some (uw p) := by rfl) (hy : rd E y = some (uw q) := by rfl) (hd : Nat.blt d n = true := by rfl) : (z4 Tryz.prog G R ops n K rest ((d, uw ((p ^^^ q) % 4294967296)) :: E) M) → z4 Tryz.prog G R ops n K (⟨some d, .binOp .xor T x y T', ty, pos, aft, none⟩ :: rest) E M := fun h_ => z9E hx hy hd h_
theorem Qaw {p : Nat} {q : Nat} (hx : rd E x = some (uw p) := by rfl) (hy : rd E y = some (uw q) := by rfl) (hd : Nat.blt d n = true := by rfl) : (z4 Tryz.prog G R ops n K rest ((d, uw ((p + q) % 4294967296)) :: E) M) → z4 Tryz.prog G R ops n K (⟨some d, .binOp .add T x y T', ty, pos, aft, none⟩ :: rest) E M := fun h_ => zim hx hy hd h_
theorem Qau {p : Nat} {q : Nat} (hx : rd E x = some (u p) := by rfl) (hy : rd E y = some (u q) := by rfl) (hd : Nat.blt d n = true := by rfl) : (z4 Tryz.prog G R ops n K rest ((d, u ((p + q) % 18446744073709551616)) :: E) M) → z4 Tryz.prog G R ops n K (⟨some d, .binOp .add T x y T', ty, pos, aft, none⟩ :: rest) E M := fun h_ => z0p hx hy hd h_
theorem Qcw {k : IntKind} {dk : TypeDesc} {p : Nat} (hs : Tryz.prog.underlying T = some dk := by exact Tu rfl) (ht : Tryz.prog.underlying T' = some (.int .u32) := by exact Tu rfl) (hx : rd E x = some (.int k (p : Int)) := by rfl) (hd : Nat.blt d n = true := by rfl) (hv : wj R T T' = 1 := by rfl) : (z4 Tryz.prog G R ops n K rest ((d, uw (p % 4294967296)) :: E) M) → z4 Tryz.prog G R ops n K (⟨some d, .convert T T' x, ty, pos, aft, none⟩ :: rest) E M := fun h_ => zeU hs ht hx hd hv h_
theorem QlK {b : Nat} {o : Nat} {l : Nat} {N : Nat} {ps : List y7} {t : TypeId} {td : TypeDesc} (i : Nat) (k : Nat) (c : Nat) (hT : Tryz.prog.underlying T = some td := by exact Tu rfl) (hn : zE td = true := by rfl) (hs : (Tryz.prog.info? T).map (·.size) = some l := by exact Tz rfl) (hx : rd E x = some (.pointer (some ⟨b, o, none⟩)) := by rfl) (hm : lkM M i = some ⟨b, zr N ps, t⟩ := by rfl) (ho : o = xg (ps.take k) := by rfl) (hl : l = xg (yO ps k c) := by rfl) (hN : o + l ≤ N := by exact Nat.le_of_ble_eq_true rfl) (hd : Nat.blt d n = true := by rfl) (hX : ∃ js, Zb M i js R := by exact ⟨[], trivial⟩) : (z4 Tryz.prog G R ops n K rest ((d, .agg (zr l (yO ps k c))) :: E) M) → z4 Tryz.prog G R ops n K (⟨some d, .load T x, ty, pos, aft, none⟩ :: rest) E M := fun h_ => znw (i := i) k c hT hn hs hx hm ho hl hN hd hX h_
theorem QtK {b : Nat} {o : Nat} {l : Nat} {N : Nat} {ps : List y7} {qs : List y7} {t : TypeId} (i : Nat) (k : Nat) (c : Nat) (hs : (Tryz.prog.info? T).map (·.size) = some l := by exact Tz rfl) (hx : rd E x = some (.pointer (some ⟨b, o, none⟩)) := by rfl) (hy : rd E y = some (.agg (zr l qs)) := by rfl) (hq : z5Q qs := by repeat (first | exact trivial | refine ⟨fun _ => rfl, ?_⟩)) (hm : lkM M i = some ⟨b, zr N ps, t⟩ := by rfl) (ho : o = xg (ps.take k) := by rfl) (hl : l = xg (yO ps k c) := by rfl) (hl2 : l = xg qs := by rfl) (hN : o + l ≤ N := by exact Nat.le_of_ble_eq_true rfl) (hX : R.X = [] ∨ b ∈ R.X := by exact (.inl rfl)) (hY : R.Y = none := by rfl) : (z4 Tryz.prog G R ops n K rest E ((i, some ⟨b, zr N (ps.take k ++ (qs ++ ps.drop (k + c))), t⟩) :: M)) → z4 Tryz.prog G R ops n K (⟨none, .store T x y, ty, pos, aft, none⟩ :: rest) E M := fun h_ => zo2 (i := i) k c hs hx hy hq hm ho hl hl2 hN hX h_
theorem QtC {b : Nat} {o : Nat} {l : Nat} {N : Nat} {kd : IntKind} {f : Nat → Nat} {F : Nat → Value} {ps : List y7} {t : TypeId} (i : Nat) (k : Nat) (hs : (Tryz.prog.info? T).map (·.size) = some l := by exact Tz rfl) (hx : rd E x = some (.pointer (some ⟨b, o, none⟩)) := by rfl) (hy : rd E y = some (.agg (arr kd l f)) := by rfl) (hm : lkM M i = some ⟨b, zr N ps, t⟩ := by rfl) (hk : xV ps k = some (o, l, F) := by rfl) (ho : o + l ≤ N := by decide) (hX : R.X = [] ∨ b ∈ R.X := by exact (.inl rfl)) (hY : R.Y = none := by rfl) : (z4 Tryz.prog G R ops n K rest E ((i, some ⟨b, zr N (wY ps k (fun i => .int kd (f i : Int))), t⟩) :: M)) → z4 Tryz.prog G R ops n K (⟨none, .store T x y, ty, pos, aft, none⟩ :: rest) E M := fun h_ => zn8 (i := i) k hs hx hy hm hk ho hX h_
theorem QtV {b : Nat} {o : Nat} {N : Nat} {v : Value} {F : Nat → Value} {ps : List y7} {t : TypeId} (i : Nat) (k : Nat) (hs : (Tryz.prog.info? T).map (·.size) = some 1 := by exact Tz rfl) (hx : rd E x = some (.pointer (some ⟨b, o, none⟩)) := by rfl) (hy : rd E y = some v := by rfl) (hv : v.oneCell' = true := by rfl) (hm : lkM M i = some ⟨b, zr N ps, t⟩ := by rfl) (hk : xV ps k = some (o, 1, F) := by rfl) (hN : o < N := by decide) (hX : R.X = [] ∨ b ∈ R.X := by exact (.inl rfl)) (hY : R.Y = none := by rfl) : (z4 Tryz.prog G R ops n K rest E ((i, some ⟨b, zr N (wY ps k (fun _ => v)), t⟩) :: M)) → z4 Tryz.prog G R ops n K (⟨none, .store T x y, ty, pos, aft, none⟩ :: rest) E M := fun h_ => z0Z (i := i) k hs hx hy hv hm hk hN hX h_
abbrev NN := Nat → Nat
abbrev LN := List Nat
abbrev m64 := 18446744073709551615
abbrev Fp := Fn Tryz.prog
abbrev Fq := Fx Tryz.prog
abbrev R1 (e : TypeId) (l : List Nat) : Value → Mem → Mem → Prop := fun v l1 nw => l1 = [] ∧ ∃ v', v = v' ∧ OwnS e 1 v' l.length (l.map by8) nw
abbrev R2 (e : TypeId) (l : List Nat) : Value → Mem → Mem → Prop := fun v l1 nw => l1 = [] ∧ ∃ v', v = .tuple #[v', ii 0] ∧ OwnS e 1 v' l.length (l.map by8) nw
abbrev R3 (e : TypeId) (q : Value) (l : List Nat) : Value → Mem → Mem → Prop := fun v l1 nw => l1 = [] ∧ ∃ v', v = .tuple #[q, v', ii 0] ∧ OwnS e 1 v' l.length (l.map by8) nw
theorem g3 {a b c : Prop} (h : b → a := by exact Qcm (Qa) rfl) (g : c → b := by exact Qcm Qn rfl) : c → a := fun x => h (g x)
theorem g4 {a b c : Prop} (h : b → a := by exact Qcm Qs rfl) (g : c → b := by exact Qcm Qp rfl) : c → a := fun x => h (g x)
theorem g5 {a b c : Prop} (h : b → a := by exact Qcm (g4) rfl) (g : c → b := by exact Qcm (Qm) rfl) : c → a := fun x => h (g x)
theorem g6 {a b c : Prop} (h : b → a := by exact Qcm (Qo) rfl) (g : c → b := by exact Qcm (Qo) rfl) : c → a := fun x => h (g x)
theorem g7 {a b c : Prop} (h : b → a := by exact Qcm (Qa) rfl) (g : c → b := by exact Qcm (g3) rfl) : c → a := fun x => h (g x)
theorem g8 {a b c : Prop} (h : b → a := by exact Qcm (Qm) rfl) (g : c → b := by exact Qcm (Qy) rfl) : c → a := fun x => h (g x)
theorem g9 {a b c : Prop} (h : b → a := by exact Qcm (Qx) rfl) (g : c → b := by exact Qcm (Qx) rfl) : c → a := fun x => h (g x)
theorem ga {a b c : Prop} (h : b → a := by exact Qcm (Qm) rfl) (g : c → b := by exact Qcm (Qm) rfl) : c → a := fun x => h (g x)
theorem gb {a b c : Prop} (h : b → a := by exact Qcm (g4) rfl) (g : c → b := by exact Qcm (g3) rfl) : c → a := fun x => h (g x)
theorem gc {a b c : Prop} (h : b → a := by exact Qcm Qs rfl) (g : c → b := by exact Qcm (g5) rfl) : c → a := fun x => h (g x)
theorem gd {a b c : Prop} (h : b → a := by exact Qcm (Q2 1) rfl) (g : c → b := by exact Qcm (Qm) rfl) : c → a := fun x => h (g x)
theorem ge {a b c : Prop} (h : b → a := by exact Qcm (Qm) rfl) (g : c → b := by exact Qcm (g9) rfl) : c → a := fun x => h (g x)
theorem gf {a b c : Prop} (h : b → a := by exact Qcm (g4) rfl) (g : c → b := by exact Qcm (QD 0) rfl) : c → a := fun x => h (g x)
theorem gg {a b c : Prop} (h : b → a := by exact Qcm Qn rfl) (g : c → b := by exact Qcm (g4) rfl) : c → a := fun x => h (g x)
theorem gh {a b c : Prop} (h : b → a := by exact Qcm (g3) rfl) (g : c → b := by exact Qcm Qr rfl) : c → a := fun x => h (g x)
theorem gi {a b c : Prop} (h : b → a := by exact Qcm (g4) rfl) (g : c → b := by exact Qcm (Ql) rfl) : c → a := fun x => h (g x)
theorem gj {a b c : Prop} (h : b → a := by exact Qcm (g3) rfl) (g : c → b := by exact Qcm (g5) rfl) : c → a := fun x => h (g x)
theorem gk {a b c : Prop} (h : b → a := by exact Qcm (g8) rfl) (g : c → b := by exact Qcm (g8) rfl) : c → a := fun x => h (g x)
theorem gl {a b c : Prop} (h : b → a := by exact Qcm Qn rfl) (g : c → b := by exact Qcm (Qcf) rfl) : c → a := fun x => h (g x)
theorem gm {a b c : Prop} (h : b → a := by exact Qcm (g6) rfl) (g : c → b := by exact Qcm (g6) rfl) : c → a := fun x => h (g x)
theorem gn {a b c : Prop} (h : b → a := by exact Qcm (gd) rfl) (g : c → b := by exact Qcm Qn rfl) : c → a := fun x => h (g x)
theorem go {a b c : Prop} (h : b → a := by exact Qcm Qp rfl) (g : c → b := by exact Qcm (gn) rfl) : c → a := fun x => h (g x)
theorem gp {a b c : Prop} (h : b → a := by exact Qcm (gl) rfl) (g : c → b := by exact Qcm Qk rfl) : c → a := fun x => h (g x)
theorem gq {a b c : Prop} (h : b → a := by exact Qcm (Qi) rfl) (g : c → b := by exact Qcm (Q1 0) rfl) : c → a := fun x => h (g x)
theorem gr {a b c : Prop} (h : b → a := by exact Qcm (g7) rfl) (g : c → b := by exact Qcm Qr rfl) : c → a := fun x => h (g x)
theorem gs {a b c : Prop} (h : b → a := by exact Qcm (gi) rfl) (g : c → b := by exact Qcm Qn rfl) : c → a := fun x => h (g x)
theorem gt {a b c : Prop} (h : b → a := by exact Qcm (gs) rfl) (g : c → b := by exact Qcm Qs rfl) : c → a := fun x => h (g x)
theorem gu {a b c : Prop} (h : b → a := by exact Qcm Qs rfl) (g : c → b := by exact Qcm (g4) rfl) : c → a := fun x => h (g x)
theorem gv {a b c : Prop} (h : b → a := by exact Qcm (g7) rfl) (g : c → b := by exact Qcm (gc) rfl) : c → a := fun x => h (g x)
theorem gw {a b c : Prop} (h : b → a := by exact Qcm (gb) rfl) (g : c → b := by exact Qcm Qr rfl) : c → a := fun x => h (g x)
theorem gx {a b c : Prop} (h : b → a := by exact Qcm (g3) rfl) (g : c → b := by exact Qcm (gc) rfl) : c → a := fun x => h (g x)
theorem gy {a b c : Prop} (h : b → a := by exact Qcm Qs rfl) (g : c → b := by exact Qcm (Qg) rfl) : c → a := fun x => h (g x)
theorem gz {a b c : Prop} (h : b → a := by exact Qcm (g6) rfl) (g : c → b := by exact Qcm (Qo) rfl) : c → a := fun x => h (g x)
end Go.Proofs.YtacflmjoigffpaaGreatDoor
attribute [local simp] Go.Proofs.YtacflmjoigffpaaGreatDoor.By Go.Proofs.YtacflmjoigffpaaGreatDoor.L8
namespace Go.Proofs.YtacflmjoigffpaaGreatDoor
open Go Go.RowKit
theorem z2x : Tryz.prog.eqGuardType Tryz.prog.depth 30 = false := by kernel_rfl
theorem zdI : Tryz.prog.eqGuardType Tryz.prog.depth 33 = false := by kernel_rfl
theorem z0y : Tryz.prog.eqGuardType Tryz.prog.depth 289 = false := by kernel_rfl
theorem WH (w : World) : (((#[.mk "Has" 4 0 false "" "" 0, .mk "Key" 30 1 false "" "" 1, .mk "N" 31 33 false "" "" 40] : Array Field).mapM fun f => do pure (f.offset, ← sizeOf f.type) : Sem (Array (Nat × Nat)))).run Tryz.prog w = .ok #[(0, 1), (1, 32), (33, 1)] w := wZ (l := [(0, 1), (1, 32), (33, 1)]) (by kernel_rfl) w
theorem zdm (w : World) : (((#[.mk "Cipher" 33 0 false "" "" 0, .mk "Chain" 30 34 false "" "" 48, .mk "Hash" 30 66 false "" "" 80] : Array Field).mapM fun f => do pure (f.offset, ← sizeOf f.type) : Sem (Array (Nat × Nat)))).run Tryz.prog w = .ok #[(0, 34), (34, 32), (66, 32)] w := wZ (l := [(0, 34), (34, 32), (66, 32)]) (by kernel_rfl) w
theorem zkp (w : World) : (((#[.mk "Pattern" 29 0 false "" "" 0, .mk "First" 4 6 false "" "" 120, .mk "Turn" 3 7 false "" "" 128, .mk "Dead" 4 8 false "" "" 136, .mk "Sym" 35 9 false "" "" 144, .mk "Own" 30 107 false "" "" 256, .mk "Fresh" 30 139 false "" "" 288, .mk "Has" 4 171 false "" "" 320, .mk "Their" 30 172 false "" "" 321, .mk "Knows" 4 204 false "" "" 353, .mk "Newest" 30 205 false "" "" 354, .mk "Saw" 4 237 false "" "" 386, .mk "Psks" 24 238 false "" "" 392, .mk "Used" 3 239 false "" "" 416] : Array Field).mapM fun f => do pure (f.offset, ← sizeOf f.type) : Sem (Array (Nat × Nat)))).run Tryz.prog w = .ok #[(0, 6), (6, 1), (7, 1), (8, 1), (9, 98), (107, 32), (139, 32), (171, 1), (172, 32), (204, 1), (205, 32), (237, 1), (238, 1), (239, 1)] w := wZ (l := [(0, 6), (6, 1), (7, 1), (8, 1), (9, 98), (107, 32), (139, 32), (171, 1), (172, 32), (204, 1), (205, 32), (237, 1), (238, 1), (239, 1)]) (by kernel_rfl) w
theorem zkF (w : World) : (((#[.mk "H" 145 0 false "" "" 0, .mk "Held" 146 8 false "" "" 32, .mk "N" 3 72 false "" "" 96, .mk "Len" 3 73 false "" "" 104] : Array Field).mapM fun f => do pure (f.offset, ← sizeOf f.type) : Sem (Array (Nat × Nat)))).run Tryz.prog w = .ok #[(0, 8), (8, 64), (72, 1), (73, 1)] w := wZ (l := [(0, 8), (8, 64), (72, 1), (73, 1)]) (by kernel_rfl) w
theorem zlY (w : World) : (((#[.mk "R" 289 0 false "" "" 0, .mk "Pad" 289 2 false "" "" 16, .mk "Acc" 290 4 false "" "" 32, .mk "Held" 262 7 false "" "" 56, .mk "N" 3 23 false "" "" 72] : Array Field).mapM fun f => do pure (f.offset, ← sizeOf f.type) : Sem (Array (Nat × Nat)))).run Tryz.prog w = .ok #[(0, 2), (2, 2), (4, 3), (7, 16), (23, 1)] w := wZ (l := [(0, 2), (2, 2), (4, 3), (7, 16), (23, 1)]) (by kernel_rfl) w
theorem z7O : ((Tryz.prog.info? 5).map (·.size)).isSome = true := by kernel_rfl
theorem znr : ((Tryz.prog.info? 31).map (·.size)).isSome = true := by kernel_rfl
theorem Ym : Tryz.prog.underlying 33 = some (.struct #[.mk "Has" 4 0 false "" "" 0, .mk "Key" 30 1 false "" "" 1, .mk "N" 31 33 false "" "" 40]) := by kernel_rfl
theorem Yk : Tryz.prog.underlying 4 = some (.bool) := by kernel_rfl
theorem xO : Tryz.prog.underlying 30 = some (.array 32 5) := by kernel_rfl
theorem Y9 : (Tryz.prog.info? 30).map (·.size) = some 32 := by kernel_rfl
theorem Vp : Tryz.prog.underlying 5 = some (.int .u8) := by kernel_rfl
theorem V2 : (Tryz.prog.info? 5).map (·.size) = some 1 := by kernel_rfl
theorem vR : Tryz.prog.underlying 31 = some (.int .u64) := by kernel_rfl
theorem zgh {f0 g0 : Bool} {f1 g1 : NN} {f2 g2 : Int} : Eqv Tryz.prog 10000 33 (.agg (zr 34 [pV (.bool f0), pI .u8 32 f1, pV (.int .u64 f2)])) (.agg (zr 34 [pV (.bool g0), pI .u8 32 g1, pV (.int .u64 g2)])) ([(f0 == g0), y4 32 f1 g1, (f2 == g2)].all id) := z7S Ym (by kernel_rfl) ⟨⟨by decide, _, _, xz (k := 0) Yk rfl rfl rfl (Nat.le_of_ble_eq_true rfl), xz (k := 0) Yk rfl rfl rfl (Nat.le_of_ble_eq_true rfl), zgV Yk⟩, ⟨by decide, _, _, wU (k := 1) xO rfl Y9 rfl rfl (Nat.le_of_ble_eq_true rfl), wU (k := 1) xO rfl Y9 rfl rfl (Nat.le_of_ble_eq_true rfl), zii xO Vp V2⟩, ⟨by decide, _, _, xz (k := 2) vR rfl rfl rfl (Nat.le_of_ble_eq_true rfl), xz (k := 2) vR rfl rfl rfl (Nat.le_of_ble_eq_true rfl), ziC vR⟩, trivial⟩
theorem zk9 : Tryz.prog.eqGuardType Tryz.prog.depth 35 = false := by kernel_rfl
theorem z8V : Tryz.prog.eqGuardType Tryz.prog.depth 57 = false := by kernel_rfl
theorem zke (w : World) : (((#[.mk "own" 30 0 false "" "signet/signetkeep" 0, .mk "fresh" 30 32 false "" "signet/signetkeep" 32] : Array Field).mapM fun f => do pure (f.offset, ← sizeOf f.type) : Sem (Array (Nat × Nat)))).run Tryz.prog w = .ok #[(0, 32), (32, 32)] w := wZ (l := [(0, 32), (32, 32)]) (by kernel_rfl) w
theorem zj5 : Tryz.prog.underlying 35 = some (.struct #[.mk "Cipher" 33 0 false "" "" 0, .mk "Chain" 30 34 false "" "" 48, .mk "Hash" 30 66 false "" "" 80]) := by kernel_rfl
theorem z00 : (Tryz.prog.info? 33).map (·.size) = some 34 := by kernel_rfl
theorem zk8 {f0 : Bool} {f1 : NN} {f2 : Int} {f3 : NN} {f4 : NN} : VO Tryz.prog 10000 35 (.agg (zr 98 [pV (.bool f0), pI .u8 32 f1, pV (.int .u64 f2), pI .u8 32 f3, pI .u8 32 f4])) := (Zr zj5 (by kernel_rfl) (List.forall_mem_cons.2 ⟨⟨_, zbj (k := 0) (c := 3) Ym rfl z00 rfl rfl rfl (Nat.le_of_ble_eq_true rfl), (Zr Ym (by kernel_rfl) (List.forall_mem_cons.2 ⟨⟨_, xz (k := 0) Yk rfl rfl rfl (Nat.le_of_ble_eq_true rfl), Vw Yk⟩, (List.forall_mem_cons.2 ⟨⟨_, wU (k := 1) xO rfl Y9 rfl rfl (Nat.le_of_ble_eq_true rfl), YV xO Vp V2⟩, (List.forall_mem_cons.2 ⟨⟨_, xz (k := 2) vR rfl rfl rfl (Nat.le_of_ble_eq_true rfl), z1x vR⟩, (fun _ h => by cases h)⟩)⟩)⟩))⟩, (List.forall_mem_cons.2 ⟨⟨_, wU (k := 3) xO rfl Y9 rfl rfl (Nat.le_of_ble_eq_true rfl), YV xO Vp V2⟩, (List.forall_mem_cons.2 ⟨⟨_, wU (k := 4) xO rfl Y9 rfl rfl (Nat.le_of_ble_eq_true rfl), YV xO Vp V2⟩, (fun _ h => by cases h)⟩)⟩)⟩))
theorem zjz : Tryz.prog.underlying 57 = some (.array 2 33) := by kernel_rfl
theorem z9O {f0 : Bool} {f1 : NN} {f2 : Int} {f3 : Bool} {f4 : NN} {f5 : Int} : VO Tryz.prog 10000 57 (.agg (zr 68 [pV (.bool f0), pI .u8 32 f1, pV (.int .u64 f2), pV (.bool f3), pI .u8 32 f4, pV (.int .u64 f5)])) := by
 refine z74 zjz z00 fun i hi w => ?_
 have hi2 : i = 0 ∨ i = 1 := by omega
 rcases hi2 with rfl | rfl
 ·exact ⟨_, z57 (k := 0) (c := 3) Ym rfl z00 rfl rfl (Nat.le_of_ble_eq_true rfl) w, (Zr Ym (by kernel_rfl) (List.forall_mem_cons.2 ⟨⟨_, xz (k := 0) Yk rfl rfl rfl (Nat.le_of_ble_eq_true rfl), Vw Yk⟩, (List.forall_mem_cons.2 ⟨⟨_, wU (k := 1) xO rfl Y9 rfl rfl (Nat.le_of_ble_eq_true rfl), YV xO Vp V2⟩, (List.forall_mem_cons.2 ⟨⟨_, xz (k := 2) vR rfl rfl rfl (Nat.le_of_ble_eq_true rfl), z1x vR⟩, (fun _ h => by cases h)⟩)⟩)⟩))⟩
 ·exact ⟨_, z57 (k := 3) (c := 3) Ym rfl z00 rfl rfl (Nat.le_of_ble_eq_true rfl) w, (Zr Ym (by kernel_rfl) (List.forall_mem_cons.2 ⟨⟨_, xz (k := 0) Yk rfl rfl rfl (Nat.le_of_ble_eq_true rfl), Vw Yk⟩, (List.forall_mem_cons.2 ⟨⟨_, wU (k := 1) xO rfl Y9 rfl rfl (Nat.le_of_ble_eq_true rfl), YV xO Vp V2⟩, (List.forall_mem_cons.2 ⟨⟨_, xz (k := 2) vR rfl rfl rfl (Nat.le_of_ble_eq_true rfl), z1x vR⟩, (fun _ h => by cases h)⟩)⟩)⟩))⟩
variable {G : Mem}
theorem zhW (zn : Int) : Fp G 51 #[.int .i64 zn] (.agg (arr .u8 32 (z84 zn))) := by
 refine Qf1 Tryz.func51 ?_
 refine (g4)<|(QH 0) fun r1=>(gg)<|(QH 1) fun r2=>Qn<|(g5) ?_
 refine zc4 (Uu 3) (Uu 117) rfl rfl rfl ?_
 refine (gx)<|Qn<|Qb ?_
 refine QzK [(2, _), (3, _), (4, _)] [(0, _)] (fun kk E m => ∃ (i : Nat) (s : Nat → Nat), kk = 32 - i ∧ E = [(8, ii i)] ∧ m = [(1, some ⟨r2, arr .u8 32 s, 30⟩)] ∧ (i ≤ 32) ∧ (∀ t, t < i → s t = z84 zn t)) ⟨0, fun _ => 0, rfl, rfl, rfl, by omega, fun t ht => absurd ht (Nat.not_lt_zero t)⟩ ⟨rfl, rfl, rfl, rfl, trivial⟩ ⟨rfl, rfl, trivial⟩ ?_
 rintro kk E m ⟨i, s, rfl, rfl, rfl, hf0_0, hf0_1⟩
 simp only [zB, zA]
 refine (gt) ?_
 refine (Qcd) (fun hc0=>?_) fun hc0=>?_
 ·have hc0 : i < 32 := by omega
  refine Qk<|Qs<|Qb<|(g5)<|(g3)<|Qp<|(ga)<|(Qm)<|(Q4 4)<|(Q6 8) ?_
  refine Zp rfl rfl rfl (by omega) ?_
  refine wi (Uu 117) (Uu 5) rfl rfl rfl ?_
  refine (ga) ?_
  refine z4q rfl rfl rfl (Nat.lt_of_le_of_lt (Nat.mul_le_mul (show i ≤ 31 by omega) (show i ≤ 31 by omega)) (by decide)) ?_
  refine wi (Uu 3) (Uu 5) rfl rfl rfl ?_
  refine zk0 rfl rfl rfl  ?_
  refine (Qi)<|(Qu 1)<|Qn<|(go) ?_
  refine QzL ⟨i + 1, upd s i _, rfl, rfl, rfl, by omega, wF hf0_1 rfl⟩ ⟨rfl, rfl, rfl, rfl, trivial⟩ ⟨rfl, rfl, trivial⟩ ?_
  omega
 ·have hz0 : i = 32 := by omega
  refine Qe<|(g4)<|(Qd 1)<|(Qt 0)<|Qn<|Qr ?_
  rw [← show arr .u8 32 s = arr .u8 32 (z84 zn) from zz fun j hj => hf0_1 j (by omega)]
  exact ⟨_, rfl, ya 0⟩
theorem zc5 (zn : Int) (n : Nat) (hn : n ≤ 1000) : Fq G [] 17 #[.int .i64 zn, ii n] (fun u l1 nw => l1 = [] ∧ ∃ v', u = v' ∧ OwnS 30 32 v' n (psC (psN zn n)) nw) := by
 refine QfN Tryz.func17 ?_
 refine (gb)<|(gb)<|(gc)<|(Qm)<|Qn<|Qb ?_
 refine QzK [(0, _), (4, _), (7, _)] [] (fun kk E m => ∃ (i : Nat) (w4 : Value) (oz : Option Blk), kk = n - i ∧ E = [(5, w4), (8, ii i)] ∧ m = [(50, oz)] ∧ (i ≤ n) ∧ (OwnS 30 32 w4 i (psC (psN zn i)) (Option.toList oz))) ⟨0, zV, none, rfl, rfl, rfl, by omega, (ym _ _)⟩ ⟨rfl, rfl, rfl, rfl, rfl, trivial⟩ ⟨rfl, trivial⟩ ?_
 rintro kk E m ⟨i, w4, oz, rfl, rfl, rfl, hf0_0, hf0_1⟩
 simp only [zB, zA]
 refine (gt) ?_
 refine (Qcd) (fun hc0=>?_) fun hc0=>?_
 ·have hc0 : i < n := by omega
  refine Qk<|Qs<|Qb<|(g5)<|(g3)<|Qp<|(ga)<|(Qm) ?_
  refine zej rfl rfl rfl ?_
  refine (Ca (zhW (IntKind.i64.wrap (zn + (i : Int))))) ?_
  refine zu 0 (arr .u8 32 (z84 (IntKind.i64.wrap (zn + (i : Int))))) (Uu 24 rfl) (Uz 30 rfl) (Ub 30 rfl) (by decide) (by decide) rfl (by kernel_rfl) rfl fun r1 => ?_
  refine x9 50 hf0_1 (yX _ _ (by rfl)) rfl (zY 0 rfl ⟨[], trivial⟩) (Uu 24) (Uz 30) (Uy 30) (Ub 30) (by rfl) rfl rfl (zed _) (by simp only [maxLen]; omega) (by omega) rfl fun v2_1 oz2_1 ho2_1 => ?_
  refine (g3)<|(go) ?_
  refine QzL ⟨i + 1, _, _, rfl, rfl, rfl, by omega, (zw ho2_1 rfl (zfb zn i))⟩ ⟨rfl, rfl, rfl, rfl, rfl, trivial⟩ ⟨rfl, trivial⟩ ?_
  omega
 ·have hz0 : i = n := by omega
  refine Qe<|(g5)<|(gh) ?_
  exact ⟨_, _, _, 50, rfl, yt, (zw hf0_1 (by omega) (by rw [show n = i by omega])), rfl⟩
theorem zaT (n : Nat) (hn : n = 0) : Fq G [] 143 #[zV, ii n] (fun v l1 nw => l1 = [] ∧ ∃ v', v = v' ∧ OwnS 5 1 v' 0 [] nw) := by
 refine QfN Tryz.func143 ?_
 refine (gb)<|(gc)<|(Ql)<|(Qaf)<|(gp)<|(gc)<|(Qm) ?_
 refine z4a (Uu 22) rfl rfl rfl ?_
 refine (Qm)<|(QC (wT [] 1)) ?_
 refine yy rfl rfl rfl (by omega) (by omega) ?_
 refine (Av (ii 0)) ?_
 refine yy rfl rfl rfl (by omega) (by omega) ?_
 refine (Av (ii n))<|(gj)<|(QG)<|(Qaf)<|(gp)<|(g5)<|(gh) ?_
 exact ⟨_, _, _, 99, rfl, yt, (ym _ _), rfl⟩
theorem zax (n : Nat) (hn : 0 < n) (hm : n ≤ 1099511627776) : Fq G [] 143 #[zV, ii n] (fun v l1 nw => l1 = [] ∧ ∃ v', v = v' ∧ OwnS 5 1 v' 0 [] nw) := by
 refine QfN Tryz.func143 ?_
 refine (gb)<|(gc)<|(Ql)<|(Qaf)<|(gp)<|(gc)<|(Qm) ?_
 refine z4a (Uu 22) rfl rfl rfl ?_
 refine (Qm)<|(QC (wT [] 1)) ?_
 refine yy rfl rfl rfl (by omega) (by omega) ?_
 refine (Av (ii 0)) ?_
 refine yy rfl rfl rfl (by omega) (by omega) ?_
 refine (Av (ii n))<|(gj)<|(QG)<|(Qat)<|Qn<|(Qct)<|Qp<|(ga) ?_
 refine z4a (Uu 22) rfl rfl rfl ?_
 refine xb 0 0 (wT [] 1) (Uu 22) (Uz 5) rfl rfl rfl rfl ⟨_, rfl⟩ (by omega) (by omega) rfl ?_
 refine (Qm) ?_
 refine zcy 0 (Uu 22) (Uu 3) (Uz 5) (Uy 5) (Ub 5) rfl rfl rfl (by omega) (by simp only [maxLen]; omega) (by omega) rfl fun v3_1 oz3_1 xs3_1 ho3_1 => ?_
 refine (Qm)<|(QC (wT [] 1)) ?_
 refine xb 0 0 ho3_1.shows (Uu 22) (Uz 5) rfl rfl rfl rfl ⟨_, rfl⟩ (by omega) (by omega) rfl ?_
 refine (gj)<|(gh) ?_
 exact ⟨_, _, _, 0, rfl, yt, (zw (OwnS.cut ho3_1 (Nat.zero_le _)) rfl rfl), rfl⟩
theorem zjy {G : Mem} (n : Nat) (hm : n ≤ 1099511627776) : Fq G [] 143 #[zV, ii n] (fun v l1 nw => l1 = [] ∧ ∃ v', v = v' ∧ OwnS 5 1 v' 0 [] nw) := by
 by_cases h : n = 0
 ·exact zaT n h
 ·exact zax n (by omega) hm
theorem z3i (v : Value) (vs : List Value) (ls : List (LN)) (hv : Shows G 1 v vs.length vs) (hL : z1t G vs ls) (hn : vs.length ≤ 1099511627776) (hm : ls.flatten.length ≤ 1099511627776) : Fq G [] 91 #[v] (fun v l1 nw => l1 = [] ∧ ∃ v', v = v' ∧ OwnS 5 1 v' ls.flatten.length (ls.flatten.map by8) nw) := by
 have hvl := hL.1
 have hup := z9K ls
 refine QfN Tryz.func91 ?_
 refine (gb)<|(gb)<|(gc)<|(QC hv)<|(Qm)<|Qn<|Qb ?_
 refine QzK [(0, _), (2, _), (9, _), (10, _)] [] (fun kk E m => ∃ (i : Nat) (s : Nat), kk = vs.length - i ∧ E = [(3, ii s), (11, ii i)] ∧ m = [] ∧ (i ≤ vs.length) ∧ (s = (Yw ls i).length)) ⟨0, 0, rfl, rfl, rfl, by omega, rfl⟩ ⟨rfl, rfl, rfl, rfl, rfl, rfl, trivial⟩ trivial ?_
 rintro kk E m ⟨i, s, rfl, rfl, rfl, hf0_0, hf0_1⟩
 simp only [zB, zA]
 have hs1 := hup (i + 1)
 have hs2 : i < ls.length → (Yw ls (i + 1)).length = (Yw ls i).length + (ls.getD i []).length := fun h => by rw [wk h, List.length_append]
 refine (gt) ?_
 refine (Qcd) (fun hc0=>?_) fun hc0=>?_
 ·have hc0 : i < vs.length := by omega
  refine Qk<|Qs<|Qb<|(g4) ?_
  refine xf hv (Uu 197) (Uz 22) rfl rfl (by omega) rfl ?_
  refine (QS) ?_
  refine yc hv zo (Uu 22) rfl rfl (xU (by omega)) rfl ?_
  refine (gj)<|(Qm)<|(QC (hL.2 i (by omega))) ?_
  refine zT rfl rfl rfl (by have := hs2 (by omega); omega) ?_
  refine (gj)<|(Ql)<|(Qaf)<|(gp)<|(go) ?_
  refine QzL ⟨i + 1, _, rfl, rfl, rfl, by omega, (by rw [wk (by omega), List.length_append, hf0_1])⟩ ⟨rfl, rfl, rfl, rfl, rfl, rfl, trivial⟩ trivial ?_
  omega
 ·have hz0 : i = vs.length := by omega
  refine Qe<|Qs<|QR ⟨[], 4, [], none, none⟩<|(Qm) ?_
  refine zK 0 (fun v => v) rfl rfl (Un 143) zo (zjy s (by have := hup i; omega)) (by decide) rfl rfl rfl fun v2_1 oz2_1 ho2_1 => ?_
  refine (gx)<|(QC hv)<|(Qm)<|Qn<|Qb ?_
  refine QzK [(0, _), (2, _), (3, _), (9, _), (10, _), (11, _), (25, _), (26, _)] [] (fun kk E m => ∃ (j : Nat) (w : Value) (oz : Option Blk), kk = vs.length - j ∧ E = [(6, w), (27, ii j)] ∧ m = [(0, oz)] ∧ (j ≤ vs.length) ∧ (OwnS 5 1 w (Yw ls j).length ((Yw ls j).map by8) (Option.toList oz))) ⟨0, v2_1, oz2_1, rfl, rfl, rfl, by omega, ho2_1⟩ ⟨rfl, rfl, rfl, rfl, rfl, rfl, rfl, rfl, rfl, rfl, trivial⟩ ⟨rfl, trivial⟩ ?_
  rintro kk E m ⟨j, w, oz, rfl, rfl, rfl, hf1_0, hf1_1⟩
  simp only [zB, zA]
  have hs3 := hup (j + 1)
  have hs4 : j < ls.length → (Yw ls (j + 1)).length = (Yw ls j).length + (ls.getD j []).length := fun h => by rw [wk h, List.length_append]
  refine (gt) ?_
  refine (Qcd) (fun hc2=>?_) fun hc2=>?_
  ·have hc2 : j < vs.length := by omega
   refine Qk<|Qs<|Qb<|(g4) ?_
   refine xf hv (Uu 197) (Uz 22) rfl rfl (by omega) rfl ?_
   refine (QS) ?_
   refine yc hv zo (Uu 22) rfl rfl (xU (by omega)) rfl ?_
   refine (g3)<|Qp<|(ga) ?_
   refine x9 0 hf1_1 (hL.2 j (by omega)) rfl zo (Uu 22) (Uz 5) (Uy 5) (Ub 5) (by rfl) rfl rfl Yh (by have := hs4 (by omega); simp only [maxLen]; omega) (by have := hs4 (by omega); omega) rfl fun v3_2 oz3_2 ho3_2 => ?_
   refine (g3)<|(go) ?_
   refine QzL ⟨j + 1, _, _, rfl, rfl, rfl, by omega, (zw ho3_2 (by rw [wk (by omega), List.length_append]) (by rw [wk (by omega), List.map_append]))⟩ ⟨rfl, rfl, rfl, rfl, rfl, rfl, rfl, rfl, rfl, rfl, trivial⟩ ⟨rfl, trivial⟩ ?_
   omega
  ·have hz1 : j = vs.length := by omega
   refine Qe<|(g5)<|(gh) ?_
   exact ⟨_, _, _, 0, rfl, yt, (zw hf1_1 (by rw [hz1, hvl, Wv]) (by rw [hz1, hvl, Wv])), rfl⟩
theorem z6C (n : Nat) : Fq G [] 283 #[ii n] (fun v l1 nw => l1 = [] ∧ ∃ v', v = v' ∧ OwnS 5 1 v' ((16 - n % 16) % 16) ((zrs ((16 - n % 16) % 16)).map by8) nw) := by
 refine QfN Tryz.func283 ?_
 refine (gb)<|(g5)<|(Q4 16) ?_
 refine yy (p := 16) rfl rfl rfl (by omega) (by omega) ?_
 refine (Q4 16) ?_
 refine z7E 0 (Uu 22) (Uz 5) (Uy 5) (Ub 5) rfl rfl rfl (by omega) (by omega) rfl fun r1 => ?_
 refine (gh) ?_
 exact ⟨_, _, _, 0, rfl, yt, (YH (Y3 _) (by simp only [maxLen]; omega) (fun j hj => zd9 hj)), rfl⟩
theorem z2y (n : Nat) : Fq G [] 284 #[ii n] (fun v l1 nw => l1 = [] ∧ ∃ v', v = v' ∧ OwnS 5 1 v' 8 ((vG n 8).map by8) nw) := by
 refine QfN Tryz.func284 ?_
 refine (gb)<|(g4) ?_
 refine z7E 0 (l := 8) (Uu 22) (Uz 5) (Uy 5) (Ub 5) rfl rfl rfl (by omega) (by omega) rfl fun r1 => ?_
 refine (gx) ?_
 refine z3Y (Uu 22) rfl rfl rfl ?_
 refine (Qm)<|Qn<|Qb ?_
 refine QzK [(0, _), (2, _), (3, _), (7, _)] [] (fun kk E m => ∃ (i : Nat) (s : Nat → Nat), kk = 8 - i ∧ E = [(8, ii i)] ∧ m = [(0, some ⟨r1, arr .u8 8 s, 5⟩)] ∧ (i ≤ 8) ∧ (∀ t, t < i → s t = (vG n 8).getD t 0)) ⟨0, fun _ => 0, rfl, rfl, rfl, by omega, fun t ht => absurd ht (Nat.not_lt_zero t)⟩ ⟨rfl, rfl, rfl, rfl, rfl, trivial⟩ ⟨rfl, trivial⟩ ?_
 rintro kk E m ⟨i, s, rfl, rfl, rfl, hf0_0, hf0_1⟩
 simp only [zB, zA]
 refine (gt) ?_
 refine (Qcd) (fun hc0=>?_) fun hc0=>?_
 ·have hc0 : i < 8 := by omega
  refine Qk<|Qs<|Qb<|(g5)<|(g3)<|Qp<|(ga)<|(ga)<|(Q7 8) ?_
  refine Zg rfl rfl rfl (by omega) ?_
  refine wi (Uu 3) (Uu 5) rfl rfl rfl ?_
  refine Zy (i) (Uu 22) (Uz 5) rfl rfl (by omega) (by omega) rfl ?_
  refine (Qu 0)<|Qn<|(go) ?_
  refine QzL ⟨i + 1, upd s i _, rfl, rfl, rfl, by omega, wF hf0_1 (zlt n (by omega))⟩ ⟨rfl, rfl, rfl, rfl, rfl, trivial⟩ ⟨rfl, trivial⟩ ?_
  omega
 ·have hz0 : i = 8 := by omega
  subst hz0
  refine Qe<|(g5)<|(gh) ?_
  exact ⟨_, _, _, 0, rfl, yt, (YH (xk n 8) (by decide) hf0_1), rfl⟩
theorem XZ (x s : Nat) (hs : s < 32) : Fp G 260 #[uw x, ii s] (uw (vH x s)) := by
 refine Qf1 Tryz.func260 ?_
 refine (gb)<|(g5) ?_
 refine ZL (Uu 3) (Uu 201) rfl rfl rfl ?_
 refine (Au (Nat.mod_eq_of_lt (show s < 18446744073709551616 by omega)))<|(Q9 31) ?_
 refine (Au (znc hs))<|(gj)<|(Qm) ?_
 refine Zj rfl rfl rfl (by omega) ?_
 refine (ga) ?_
 refine We (p := 32) rfl rfl rfl (by omega) ?_
 refine (Au (show (32 + 18446744073709551616 - s) % 18446744073709551616 = 32 - s by omega)) ?_
 refine Zp rfl rfl rfl (by omega) ?_
 refine YA rfl rfl rfl  ?_
 refine (gh) ?_
 exact ⟨_, rfl, yt⟩
theorem z1f (f : NN) (r a b c d : Nat) (ha : a < 16) (hb : b < 16) (hc : c < 16) (hd : d < 16) : Fq G [⟨r, arr .u32 16 f, 341⟩] 291 #[ii a, ii b, ii c, ii d, ptr r] (fun v l1 nw => v = .tuple #[] ∧ l1 = [⟨r, arr .u32 16 (qst f a b c d), 341⟩] ∧ nw = []) := by
 refine QfW Tryz.func291 ?_
 refine (gy)<|(Qm)<|(gq)<|(Qm)<|(gq)<|(Qaw)<|(Qi)<|(Qu 0)<|Qn<|(gy)<|(ga)<|(gq)<|(Qm)<|(gq)<|(Qxw) ?_
 refine zC rfl (Un 260) (XZ _ _ (by decide)) rfl rfl ?_
 refine (Qi)<|(Qu 0)<|Qn<|(gy)<|(Qm)<|(gq)<|(Qm)<|(gq)<|(Qaw)<|(Qi)<|(Qu 0)<|Qn<|(gy)<|(ga)<|(gq)<|(Qm)<|(gq)<|(Qxw) ?_
 refine zC rfl (Un 260) (XZ _ _ (by decide)) rfl rfl ?_
 refine (Qi)<|(Qu 0)<|Qn<|(gy)<|(Qm)<|(gq)<|(Qm)<|(gq)<|(Qaw)<|(Qi)<|(Qu 0)<|Qn<|(gy)<|(ga)<|(gq)<|(Qm)<|(gq)<|(Qxw) ?_
 refine zC rfl (Un 260) (XZ _ _ (by decide)) rfl rfl ?_
 refine (Qi)<|(Qu 0)<|Qn<|(gy)<|(Qm)<|(gq)<|(Qm)<|(gq)<|(Qaw)<|(Qi)<|(Qu 0)<|Qn<|(Qg)<|(ga)<|(gq)<|(Qm)<|(gq)<|(Qxw) ?_
 refine zC rfl (Un 260) (XZ _ _ (by decide)) rfl rfl ?_
 refine (Qi)<|(Qu 0)<|Qn ?_
 exact ⟨rfl, 0, rfl⟩
theorem zay (f : NN) : Fp G 279 #[.agg (arr .u32 16 f)] (.agg (arr .u32 16 (z5i f 10))) := by
 refine Qf1 Tryz.func279 ?_
 refine (g4)<|(Qh 0) fun r1=>(QH 1) fun r2=>(gg)<|(QY)<|(gx)<|Qn<|Qb ?_
 refine Qz (fun kk E m => ∃ (n : Nat), kk = 10 - n ∧ E = [(1, ptr r1), (2, ptr r2), (3, .func (.func 291) #[] #[ptr r1]), (7, ii n)] ∧ m = [(0, some ⟨r1, arr .u32 16 (zaB f n), 341⟩), (1, some ⟨r2, arr .u32 16 (fun _ => 0), 341⟩)] ∧ (n ≤ 10)) ⟨0, rfl, rfl, rfl, by omega⟩ ⟨rfl, rfl, rfl, rfl, trivial⟩ ⟨rfl, rfl, trivial⟩ ?_
 rintro kk E m ⟨n, rfl, rfl, rfl, hf0_0⟩
 refine (gt) ?_
 refine (Qcd) (fun hc0=>?_) fun hc0=>?_
 ·refine Qk<|Qs<|Qb<|Qs<|Qs<|Qp<|(Qm)<|Qn<|Qb ?_
  refine Qz (fun kk E m => ∃ (i : Nat), kk = 4 - i ∧ E = [(1, ptr r1), (2, ptr r2), (3, .func (.func 291) #[] #[ptr r1]), (7, ii n), (9, ii i)] ∧ m = [(0, some ⟨r1, arr .u32 16 (zb2 (zaB f n) i), 341⟩), (1, some ⟨r2, arr .u32 16 (fun _ => 0), 341⟩)] ∧ (i ≤ 4)) ⟨0, rfl, rfl, rfl, by omega⟩ ⟨rfl, rfl, rfl, rfl, rfl, trivial⟩ ⟨rfl, rfl, trivial⟩ ?_
  rintro kk E m ⟨i, rfl, rfl, rfl, hf1_0⟩
  refine (gt) ?_
  refine (Qcd) (fun hc1=>?_) fun hc1=>?_
  ·refine Qk<|Qs<|Qb<|Qs<|Qp<|(Qm)<|(Qa)<|Qn<|QR ⟨[], 5, [], none, none⟩<|(Qm)<|(Qm)<|(Qm) ?_
   refine zT (p := 4) rfl rfl rfl (by omega) ?_
   refine (Qm) ?_
   refine zT (p := 8) rfl rfl rfl (by omega) ?_
   refine (Qm) ?_
   refine zT (p := 12) rfl rfl rfl (by omega) ?_
   refine z0j 0 rfl rfl (Un 291) rfl (by simp) (z1f (G := []) _ r1 i (4 + i) (8 + i) (12 + i) (by omega) (by omega) (by omega) (by omega)) rfl rfl ?_
   refine Qn<|(go) ?_
   refine Qzr ⟨i + 1, rfl, rfl, rfl, by omega⟩ ⟨rfl, rfl, rfl, rfl, rfl, trivial⟩ ⟨rfl, rfl, trivial⟩ ?_
   omega
  ·have hz1 : i = 4 := by omega
   subst hz1
   refine Qe<|(g5)<|Qn<|Qb ?_
   refine Qz (fun kk E m => ∃ (j : Nat), kk = 4 - j ∧ E = [(1, ptr r1), (2, ptr r2), (3, .func (.func 291) #[] #[ptr r1]), (7, ii n), (22, ii j)] ∧ m = [(0, some ⟨r1, arr .u32 16 (zgD (zb2 (zaB f n) 4) j), 341⟩), (1, some ⟨r2, arr .u32 16 (fun _ => 0), 341⟩)] ∧ (j ≤ 4)) ⟨0, rfl, rfl, rfl, by omega⟩ ⟨rfl, rfl, rfl, rfl, rfl, trivial⟩ ⟨rfl, rfl, trivial⟩ ?_
   rintro kk E m ⟨j, rfl, rfl, rfl, hf2_0⟩
   refine (gt) ?_
   refine (Qcd) (fun hc2=>?_) fun hc2=>?_
   ·refine Qk<|Qs<|Qb<|Qs<|Qp<|(Qm)<|(Qa)<|Qn<|QR ⟨[], 5, [], none, none⟩<|(Qm)<|(Qm)<|(Qm)<|(Q2 1)<|(Q4 4) ?_
    refine zT (p := 4) rfl rfl rfl (by omega) ?_
    refine (Qm)<|(Q2 2)<|(Q4 4) ?_
    refine zT (p := 8) rfl rfl rfl (by omega) ?_
    refine (Qm)<|(Q2 3)<|(Q4 4) ?_
    refine zT (p := 12) rfl rfl rfl (by omega) ?_
    refine z0j 0 rfl rfl (Un 291) rfl (by simp) (z1f (G := []) _ r1 j (4 + (j + 1) % 4) (8 + (j + 2) % 4) (12 + (j + 3) % 4) (by omega) (by omega) (by omega) (by omega)) rfl rfl ?_
    refine Qn<|(go) ?_
    refine Qzr ⟨j + 1, rfl, rfl, rfl, by omega⟩ ⟨rfl, rfl, rfl, rfl, rfl, trivial⟩ ⟨rfl, rfl, trivial⟩ ?_
    omega
   ·have hz2 : j = 4 := by omega
    subst hz2
    refine Qe<|(go) ?_
    refine Qzr ⟨n + 1, rfl, rfl, rfl, by omega⟩ ⟨rfl, rfl, rfl, rfl, trivial⟩ ⟨rfl, rfl, trivial⟩ ?_
    omega
 ·have hz0 : n = 10 := by omega
  subst hz0
  refine Qe<|(g4)<|(Qd 0)<|(Qt 1)<|Qn<|Qr ?_
  rw [← zz (k := .u32) (n := 16) (z2M f 10)]
  exact ⟨_, rfl, ya 1⟩
theorem zfp (k : NN) (c : Nat) (nn : NN) (hk : L8 32 k) (hn : L8 12 nn) (hc : c < 4294967296) : Fp G 278 #[.agg (arr .u8 32 k), uw c, .agg (arr .u8 12 nn)] (.agg (arr .u32 16 (wrd (z4H k c nn)))) := by
 refine Qf1 Tryz.func278 ?_
 refine (g4)<|(Qh 0) fun r1=>(Qh 1) fun r2=>(QH 2) fun r3=>Qn<|(g5) ?_
 refine yG (arr .u32 16 (fun t => if t = 0 then 1634760805 else if t = 1 then 857760878 else if t = 2 then 2036477234 else if t = 3 then 1797285236 else if t = 12 then c else 0)) (Ub 341 rfl) (Uu 341 rfl) (Uz 117 rfl) rfl (by kernel_rfl) rfl ?_
 refine (QH 3) fun r4=>(Qt 3)<|Qn<|(gu)<|(Qd 0)<|(Qm)<|Qn<|Qb ?_
 refine Qz (fun kk E m => ∃ (i : Nat) (s : Nat → Nat), kk = 32 - i ∧ E = [(3, ptr r1), (5, ptr r2), (6, ptr r3), (7, ptr r4), (14, .agg (arr .u8 32 k)), (15, ii i)] ∧ m = [(0, some ⟨r1, arr .u8 32 k, 30⟩), (1, some ⟨r2, arr .u8 12 nn, 178⟩), (2, some ⟨r3, arr .u32 16 (fun _ => 0), 341⟩), (3, some ⟨r4, arr .u32 16 s, 341⟩)] ∧ (i ≤ 32) ∧ (∀ t, t < 16 → s t = stw k c nn i 0 t)) ⟨0, (fun t => if t = 0 then 1634760805 else if t = 1 then 857760878 else if t = 2 then 2036477234 else if t = 3 then 1797285236 else if t = 12 then c else 0), rfl, rfl, rfl, by omega, zcc k c nn⟩ ⟨rfl, rfl, rfl, rfl, rfl, rfl, trivial⟩ ⟨rfl, rfl, rfl, rfl, trivial⟩ ?_
 rintro kk E m ⟨i, s, rfl, rfl, rfl, hf0_0, hf0_1⟩
 refine (gt) ?_
 refine (Qcd) (fun hc0=>?_) fun hc0=>?_
 ·refine Qk<|Qs<|Qb<|Qs<|Qp<|(Qm)<|(QX)<|(Qa)<|(Qa)<|Qn<|(Qg)<|(Qm)<|(Q5 4) ?_
  refine zT (p := 4) rfl rfl rfl (by omega) ?_
  refine (Qi)<|(Q1 3)<|(Qm)<|(Qcw) ?_
  refine zi (congrArg uw (Nat.mod_eq_of_lt (Nat.lt_trans (hk i (by omega)) (by decide)))) ?_
  refine (Qm)<|(Q4 4)<|(Q6 8) ?_
  refine Zj rfl rfl rfl (by omega) ?_
  refine YA rfl rfl rfl  ?_
  refine (Qi)<|(Qu 3)<|Qn<|(go) ?_
  refine Qzr ⟨i + 1, upd s (4 + i / 4) _, rfl, rfl, rfl, by omega, zjw hk (by omega) hf0_1⟩ ⟨rfl, rfl, rfl, rfl, rfl, rfl, trivial⟩ ⟨rfl, rfl, rfl, rfl, trivial⟩ ?_
  omega
 ·have hz0 : i = 32 := by omega
  subst hz0
  refine Qe<|(gu)<|(Qd 1)<|(Qm)<|Qn<|Qb ?_
  refine Qz (fun kk E m => ∃ (q : Nat) (s2 : Nat → Nat), kk = 12 - q ∧ E = [(3, ptr r1), (5, ptr r2), (6, ptr r3), (7, ptr r4), (33, .agg (arr .u8 12 nn)), (34, ii q)] ∧ m = [(0, some ⟨r1, arr .u8 32 k, 30⟩), (1, some ⟨r2, arr .u8 12 nn, 178⟩), (2, some ⟨r3, arr .u32 16 (fun _ => 0), 341⟩), (3, some ⟨r4, arr .u32 16 s2, 341⟩)] ∧ (q ≤ 12) ∧ (∀ t, t < 16 → s2 t = stw k c nn 32 q t)) ⟨0, s, rfl, rfl, rfl, by omega, hf0_1⟩ ⟨rfl, rfl, rfl, rfl, rfl, rfl, trivial⟩ ⟨rfl, rfl, rfl, rfl, trivial⟩ ?_
  rintro kk E m ⟨q, s2, rfl, rfl, rfl, hf1_0, hf1_1⟩
  refine (gt) ?_
  refine (Qcd) (fun hc1=>?_) fun hc1=>?_
  ·refine Qk<|Qs<|Qb<|Qs<|Qp<|(Qm)<|(QX)<|(Qa)<|(Qa)<|Qn<|(Qg)<|(Qm)<|(Q5 4) ?_
   refine zT (p := 13) rfl rfl rfl (by omega) ?_
   refine (Qi)<|(Q1 3)<|(Qm)<|(Qcw) ?_
   refine zi (congrArg uw (Nat.mod_eq_of_lt (Nat.lt_trans (hn q (by omega)) (by decide)))) ?_
   refine (Qm)<|(Q4 4)<|(Q6 8) ?_
   refine Zj rfl rfl rfl (by omega) ?_
   refine YA rfl rfl rfl  ?_
   refine (Qi)<|(Qu 3)<|Qn<|(go) ?_
   refine Qzr ⟨q + 1, upd s2 (13 + q / 4) _, rfl, rfl, rfl, by omega, zcv hn (by omega) hf1_1⟩ ⟨rfl, rfl, rfl, rfl, rfl, rfl, trivial⟩ ⟨rfl, rfl, rfl, rfl, trivial⟩ ?_
   omega
  ·have hz1 : q = 12 := by omega
   subst hz1
   refine Qe<|(g4)<|(Qd 3)<|(Qt 2)<|Qn<|Qr ?_
   rw [← zz (k := .u32) (n := 16) (ziI k nn hc), ← zz (k := .u32) (n := 16) hf1_1]
   exact ⟨_, rfl, ya 2⟩
theorem z5o (k : NN) (c : Nat) (nn : NN) (hk : L8 32 k) (hn : L8 12 nn) (hc : c < 4294967296) : Fp G 266 #[.agg (arr .u8 32 k), uw c, .agg (arr .u8 12 nn)] (.agg (arr .u8 64 (z13 k c nn))) := by
 obtain ⟨w, hw⟩ : ∃ w, w = wrd (z4H k c nn) := ⟨_, rfl⟩
 obtain ⟨v, hv⟩ : ∃ v, v = z5i (wrd (z4H k c nn)) 10 := ⟨_, rfl⟩
 refine Qf1 Tryz.func266 ?_
 refine (g4)<|(Qh 0) fun r1=>(Qh 1) fun r2=>(QH 2) fun r3=>(gg)<|(Qd 0)<|(Qm)<|(Qd 1) ?_
 refine (Ca (zfp k c nn hk hn hc)) ?_
 refine zi (congrArg (fun f => Value.agg (arr .u32 16 f)) hw.symm) ?_
 refine (QH 3) fun r4=>(Qt 3)<|(gg)<|(Qd 3) ?_
 refine (Ca (zay w)) ?_
 refine zi (congrArg (fun f => Value.agg (arr .u32 16 f)) (show z5i w 10 = v by rw [hv, hw])) ?_
 refine (QH 4) fun r5=>(Qt 4)<|(gg)<|(QH 5) fun r6=>Qn<|(gc)<|Qn<|Qb ?_
 refine Qz (fun kk E m => ∃ (i : Nat) (s : Nat → Nat), kk = 64 - i ∧ E = [(6, ptr r3), (7, ptr r4), (8, ptr r5), (9, ptr r6), (17, ii i)] ∧ m = [(0, some ⟨r1, arr .u8 32 k, 30⟩), (1, some ⟨r2, arr .u8 12 nn, 178⟩), (2, some ⟨r3, arr .u8 64 (fun _ => 0), 146⟩), (3, some ⟨r4, arr .u32 16 w, 341⟩), (4, some ⟨r5, arr .u32 16 v, 341⟩), (5, some ⟨r6, arr .u8 64 s, 146⟩)] ∧ (i ≤ 64) ∧ (∀ t, t < i → s t = z13 k c nn t)) ⟨0, fun _ => 0, rfl, rfl, rfl, by omega, fun t ht => absurd ht (Nat.not_lt_zero t)⟩ ⟨rfl, rfl, rfl, rfl, rfl, trivial⟩ ⟨rfl, rfl, rfl, rfl, rfl, rfl, trivial⟩ ?_
 rintro kk E m ⟨i, s, rfl, rfl, rfl, hf0_0, hf0_1⟩
 refine (gt) ?_
 refine (Qcd) (fun hc0=>?_) fun hc0=>?_
 ·refine Qk<|Qs<|Qb<|Qs<|Qp<|(Qm)<|(Qa)<|Qn<|(Qg)<|(Qm)<|(Qm)<|(Q5 4)<|(Qi)<|(Q1 4)<|(Qm)<|(Q5 4)<|(Qi)<|(Q1 3) ?_
  refine (Qaw)<|(Qm)<|(Q4 4)<|(Q6 8) ?_
  refine Zp rfl rfl rfl (by omega) ?_
  refine wi (Uu 117) (Uu 5) rfl rfl rfl ?_
  refine (Qi)<|(Qu 5)<|Qn<|(go) ?_
  refine Qzr ⟨i + 1, upd s i _, rfl, rfl, rfl, by omega, wF hf0_1 (zmw k c nn hv hw (by omega))⟩ ⟨rfl, rfl, rfl, rfl, rfl, trivial⟩ ⟨rfl, rfl, rfl, rfl, rfl, rfl, trivial⟩ ?_
  omega
 ·have hz0 : i = 64 := by omega
  subst hz0
  refine Qe<|(g4)<|(Qd 5)<|(Qt 2)<|Qn<|Qr ?_
  rw [← zz (k := .u8) (n := 64) hf0_1]
  exact ⟨_, rfl, ya 2⟩
theorem zbM (n : Nat) (hn : n < 9223372036854775808) : Fp G 277 #[ii n] (u ((n + 63) / 64)) := by
 refine Qf1 Tryz.func277 ?_
 refine (gb)<|(g5) ?_
 refine ZL (Uu 3) (Uu 31) rfl rfl rfl ?_
 refine (Au (Nat.mod_eq_of_lt (show n < 18446744073709551616 by omega))) ?_
 refine z0p (q := 63) rfl rfl rfl  ?_
 refine (Au (Nat.mod_eq_of_lt (show n + 63 < 18446744073709551616 by omega))) ?_
 refine ziH (q := 64) rfl rfl rfl (by omega) (by omega) ?_
 refine (gh) ?_
 exact ⟨_, rfl, yt⟩
theorem zaF (k : NN) (c : Nat) (nn : NN) (v : Value) (l : LN) (hv : Sh G v l) (hk : L8 32 k) (hn : L8 12 nn) (hc : c < 4294967296) (hl : l.length ≤ 1600) (ho : ¬ 64 * (4294967296 - c) < l.length) : Fq G [] 265 #[.agg (arr .u8 32 k), uw c, .agg (arr .u8 12 nn), v] (fun v l1 nw => l1 = [] ∧ ∃ v', v = .tuple #[v', ii 0] ∧ OwnS 5 1 v' (l.length - 0) ((vQ k c nn l 0).map by8) nw) := by
 refine QfM Tryz.func265 ?_
 refine (g4)<|(Qh 0) fun r1=>(Qh 1) fun r2=>(gv)<|(QC hv)<|(QG)<|(Qaf)<|(gp)<|(gc) ?_
 refine ZL (Uu 117) (Uu 31) rfl rfl rfl ?_
 refine (Au (Nat.mod_eq_of_lt (show c < 18446744073709551616 by omega)))<|(Qm)<|(QC hv) ?_
 refine zC rfl (Un 277) (zbM _ (by omega)) rfl rfl ?_
 refine (Qau) ?_
 refine (Au (Nat.mod_eq_of_lt (show c + (l.length + 63) / 64 < 18446744073709551616 by omega)))<|(QG)<|(Qaf)<|(gp)<|(g5)<|(QC hv) ?_
 refine z7E 2 (Uu 22) (Uz 5) (Uy 5) (Ub 5) rfl rfl rfl (by omega) (by omega) rfl fun r3 => ?_
 refine (g3)<|(g4)<|(QH 3) fun r4=>Qn<|(gc)<|(QC hv)<|(Qm)<|Qn<|Qb ?_
 refine Qz (fun kk E m => ∃ (i : Nat) (s : Nat → Nat) (p : Nat → Nat), kk = l.length - i ∧ E = [(1, uw c), (4, ptr r1), (6, ptr r2), (10, .slice (some ⟨r3, 0, none⟩) l.length l.length), (11, ptr r4), (27, v), (28, ii l.length), (29, ii i)] ∧ m = [(0, some ⟨r1, arr .u8 32 k, 30⟩), (1, some ⟨r2, arr .u8 12 nn, 178⟩), (2, some ⟨r3, arr .u8 l.length s, 5⟩), (3, some ⟨r4, arr .u8 64 p, 146⟩)] ∧ (i ≤ l.length) ∧ (∀ t, t < i → s t = z43 k c nn l t) ∧ (i % 64 ≠ 0 → ∀ t, t < 64 → p t = z13 k ((c + i / 64 % 4294967296) % 4294967296) nn t)) ⟨0, fun _ => 0, fun _ => 0, rfl, rfl, rfl, by omega, fun t ht => absurd ht (Nat.not_lt_zero t), fun h => absurd rfl h⟩ ⟨rfl, rfl, rfl, rfl, rfl, rfl, rfl, rfl, trivial⟩ ⟨rfl, rfl, rfl, rfl, trivial⟩ ?_
 rintro kk E m ⟨i, s, p, rfl, rfl, rfl, hf0_0, hf0_1, hf0_2⟩
 refine (gt) ?_
 refine (Qcd) (fun hc2=>?_) fun hc2=>?_
 ·refine Qk<|Qs<|Qb<|Qs<|Qp<|(Qm) ?_
  refine xf hv (Uu 22) (Uz 5) rfl rfl (by omega) rfl ?_
  refine (QS) ?_
  refine yc hv zo (Uu 5) rfl rfl (z9u (show i < l.length by omega)) rfl ?_
  refine (gv)<|(Q4 64)<|(Qc)<|Qn ?_
  refine (Qcd) (fun hc3=>?_) fun hc3=>?_
  ·refine Qp<|(Qd 0)<|(Qm)<|(Qm)<|(Q5 64) ?_
   refine (Qcw)<|(Qaw)<|(Qd 1) ?_
   refine zC rfl (Un 266) (z5o k _ nn hk hn (Nat.mod_lt _ (by decide))) rfl rfl ?_
   refine (Qt 3)<|Qn<|Qp<|(ga)<|(ga)<|(Q4 64)<|(Qi)<|(Q1 3) ?_
   refine z05 rfl rfl rfl  ?_
   refine Zy (i) (Uu 22) (Uz 5) rfl rfl (by omega) (by omega) rfl ?_
   refine (Qu 2)<|Qn<|(go) ?_
   refine Qzr ⟨i + 1, upd s i _, _, rfl, rfl, rfl, by omega, wF hf0_1 (zak k c nn _ l (by omega) (by first | rfl | exact hf0_2 (by omega) _ (by omega))), fun h t ht => by rw [show (i + 1) / 64 = i / 64 by omega] <;> exact hf0_2 (by omega) t ht⟩ ⟨rfl, rfl, rfl, rfl, rfl, rfl, rfl, rfl, trivial⟩ ⟨rfl, rfl, rfl, rfl, trivial⟩ ?_
   omega
  ·refine Qk<|Qp<|(Qm)<|(Qm)<|(Qm)<|(Qm)<|(Q4 64)<|(Qi)<|(Q1 3) ?_
   refine z05 rfl rfl rfl  ?_
   refine Zy (i) (Uu 22) (Uz 5) rfl rfl (by omega) (by omega) rfl ?_
   refine (Qu 2)<|Qn<|(go) ?_
   refine Qzr ⟨i + 1, upd s i _, _, rfl, rfl, rfl, by omega, wF hf0_1 (zak k c nn _ l (by omega) (by first | rfl | exact hf0_2 (by omega) _ (by omega))), fun h t ht => by rw [show (i + 1) / 64 = i / 64 by omega] <;> exact hf0_2 (by omega) t ht⟩ ⟨rfl, rfl, rfl, rfl, rfl, rfl, rfl, rfl, trivial⟩ ⟨rfl, rfl, rfl, rfl, trivial⟩ ?_
   omega
 ·have hz2 : i = l.length := by omega
  subst hz2
  refine Qe<|(g5)<|(gr) ?_
  exact ⟨_, _, _, _, 2, rfl, yt, yt, (zw (YH (xu k c nn l 0) (by simp only [maxLen]; omega) (fun j hj => (hf0_1 j (by omega)).trans (zhX k c nn l (by omega)).symm)) rfl rfl), rfl⟩
theorem z65 (x y : Nat) (hx : x < 18446744073709551616) (hy : y < 18446744073709551616) : Fp G 276 #[u x, u y] (.tuple #[u (x * y / 18446744073709551616), u (x * y % 18446744073709551616)]) := by
 refine Qf2 Tryz.func276 ?_
 refine (g4)<|(g7)<|(g5)<|(Q9 4294967295)<|(gj)<|(Q8 32)<|(gj)<|(Q9 4294967295)<|(gj)<|(Q8 32)<|(gj)<|(Qm) ?_
 refine Xt rfl rfl rfl  ?_
 refine (gj)<|(Qm) ?_
 refine Xt rfl rfl rfl  ?_
 refine (Qm)<|(Q8 32)<|(Qau)<|(gj)<|(Q9 4294967295)<|(gj)<|(Q8 32)<|(gj)<|(ga) ?_
 refine Xt rfl rfl rfl  ?_
 refine (Qau)<|(gj)<|(Qm) ?_
 refine Xt rfl rfl rfl  ?_
 refine (Qm)<|(Qau)<|(Qm)<|(Q8 32)<|(Qau)<|(gj)<|(Qm) ?_
 refine Xt rfl rfl rfl  ?_
 refine (gh) ?_
 rw [← zgv x y hx hy]
 exact ⟨_, _, rfl, yt, yt⟩
theorem WX : Fp G 301 #[] (f3 QQ) := by
 refine Qf1 Tryz.func301 ?_
 refine (g4)<|(QH 0) fun r1=>(gg) ?_
 refine yG (arr .u64 3 (wd QQ)) (Ub 357 rfl) (Uu 357 rfl) (Uz 31 rfl) rfl (by kernel_rfl) rfl ?_
 refine (Qt 0)<|Qn<|Qr ?_
 exact ⟨_, rfl, ya 0⟩
theorem z1y (f : NN) (hf : L8 16 f) : Fp G 294 #[.agg (arr .u8 16 f)] (f2 (vb f 16)) := by
 refine Qf1 Tryz.func294 ?_
 refine (g4)<|(Qh 0) fun r1=>(QH 1) fun r2=>(gg)<|(QH 2) fun r3=>Qn<|(gu)<|(Qd 0)<|(Qm)<|Qn<|Qb ?_
 refine QzK [(2, _), (3, _), (6, _)] [(0, _), (1, _)] (fun kk E m => ∃ (k : Nat) (s : Nat → Nat), kk = 16 - k ∧ E = [(7, ii k)] ∧ m = [(2, some ⟨r3, arr .u64 2 s, 289⟩)] ∧ (k ≤ 16) ∧ (∀ j, j < 4 → s j = wd (vb f k) j)) ⟨0, fun _ => 0, rfl, rfl, rfl, by omega, fun j _ => by simp [vb, wd]⟩ ⟨rfl, rfl, rfl, rfl, trivial⟩ ⟨rfl, rfl, rfl, trivial⟩ ?_
 rintro kk E m ⟨k, s, rfl, rfl, rfl, hf0_0, hf0_1⟩
 simp only [zB, zA]
 refine (gt) ?_
 refine (Qcd) (fun hc0=>?_) fun hc0=>?_
 ·have hc0 : k < 16 := by omega
  refine Qk<|Qs<|Qb<|(g5)<|(QX)<|(g7)<|(Qg)<|(Qm)<|(Q5 8)<|(Qi)<|(Q1 2)<|(Qm) ?_
  refine ZL (Uu 5) (Uu 31) rfl rfl rfl ?_
  refine (Qm)<|(Q4 8)<|(Q6 8) ?_
  refine Wg rfl rfl rfl (by omega) ?_
  refine z0z rfl rfl rfl  ?_
  refine (Qi)<|(Qu 2)<|Qn<|(go) ?_
  refine QzL ⟨k + 1, upd s (k / 8) _, rfl, rfl, rfl, by omega, zbs (by omega) hf hf0_1⟩ ⟨rfl, rfl, rfl, rfl, trivial⟩ ⟨rfl, rfl, rfl, trivial⟩ ?_
  omega
 ·have hz0 : k = 16 := by omega
  subst hz0
  refine Qe<|(g4)<|(Qd 2)<|(Qt 1)<|Qn<|Qr ?_
  rw [zkk (fun j hj => hf0_1 j (by omega))]
  exact ⟨_, rfl, ya 1⟩
theorem wh (r : NN) : Fp G 295 #[.agg (arr .u64 2 r)] (.agg (arr .u64 2 (clf r))) := by
 refine Qf1 Tryz.func295 ?_
 refine (g4)<|(Qh 0) fun r1=>(QH 1) fun r2=>(gg)<|(Qj 0)<|(Q1 0)<|(Q9 1152921487695413247)<|(Qj 1)<|(Q1 0)<|(Q9 1152921487695413244) ?_
 refine yG (arr .u64 2 (clf r)) (Ub 289 rfl) (Uu 289 rfl) (Uz 31 rfl) rfl rfl rfl ?_
 refine (Qt 1)<|Qn<|Qr ?_
 exact ⟨_, rfl, ya 1⟩
theorem z1j (a b : Nat) : Fp G 299 #[f3 a, f3 b] (f3 (a + b)) := by
 refine Qf1 Tryz.func299 ?_
 refine (g4)<|(Qh 0) fun r1=>(Qh 1) fun r2=>(QH 2) fun r3=>(gg)<|(QH 3) fun r4=>Qn<|(gb)<|(gc)<|Qn<|Qb ?_
 refine QzK [(2, _), (3, _), (4, _), (5, _)] [(0, _), (1, _), (2, _)] (fun kk E m => ∃ (k : Nat) (s : Nat → Nat), kk = 3 - k ∧ E = [(6, u (car a b k)), (8, ii k)] ∧ m = [(3, some ⟨r4, arr .u64 3 s, 357⟩)] ∧ (k ≤ 3) ∧ (∀ j, j < k → s j = wd (a + b) j)) ⟨0, fun _ => 0, rfl, rfl, rfl, by omega, fun j hj => absurd hj (Nat.not_lt_zero j)⟩ ⟨by rw [z6W]; rfl, rfl, rfl, rfl, rfl, rfl, trivial⟩ ⟨rfl, rfl, rfl, rfl, trivial⟩ ?_
 rintro kk E m ⟨k, s, rfl, rfl, rfl, hf0_0, hf0_1⟩
 simp only [zB, zA]
 have hcl := zeN a b k
 refine (gt) ?_
 refine (Qcd) (fun hc0=>?_) fun hc0=>?_
 ·have hc0 : k < 3 := by omega
  refine Qk<|Qs<|Qb<|(g5)<|(g3)<|(Qq ⟨[r4], 1, [], none, none⟩)<|(ga)<|(Qi) ?_
  refine yg (i := 0) (Uu 31) rfl rfl rfl (ye (by omega)) rfl ⟨[3], rfl, rfl, trivial⟩ ?_
  refine (Qm)<|(Qi) ?_
  refine yg (i := 1) (Uu 31) rfl rfl rfl (ye (by omega)) rfl ⟨[3], rfl, rfl, trivial⟩ ?_
  refine (Qm) ?_
  refine vL rfl (fun w => z3q _ _ _ (by omega) w) rfl rfl ?_
  refine (ge)<|(Qi) ?_
  refine ZD (i := 3) (Uz 31) rfl rfl rfl (by omega) (.inr (by simp)) ?_
  refine (g3)<|(go) ?_
  refine QzL ⟨k + 1, upd s k _, rfl, rfl, rfl, by omega, wF hf0_1 (z1E a b k)⟩ ⟨by rw [← z5p]; rfl, rfl, rfl, rfl, rfl, rfl, trivial⟩ ⟨rfl, rfl, rfl, rfl, trivial⟩ ?_
  omega
 ·have hz0 : k = 3 := by omega
  subst hz0
  refine Qe<|(g4)<|(Qd 3)<|(Qt 2)<|Qn<|Qr ?_
  rw [YK hf0_1]
  exact ⟨_, rfl, ya 2⟩
theorem z2F (a b : Nat) (ha : a < 2 ^ 192) (hb : b < 2 ^ 192) : Fp G 300 #[f3 a, f3 b] (.tuple #[f3 (a + 2 ^ 256 - b), u (if a < b then 1 else 0)]) := by
 have hfin : bor a b 3 = if a < b then 1 else 0 := by
  unfold bor
  rw [Nat.mod_eq_of_lt (show a < 2 ^ (64 * 3) from ha), Nat.mod_eq_of_lt (show b < 2 ^ (64 * 3) from hb)]
 refine Qf2 Tryz.func300 ?_
 refine (g4)<|(Qh 0) fun r1=>(Qh 1) fun r2=>(QH 2) fun r3=>(g3)<|(g4)<|(QH 3) fun r4=>Qn<|(gb)<|(gc)<|Qn<|Qb ?_
 refine QzK [(2, _), (3, _), (4, _), (5, _), (6, _)] [(0, _), (1, _), (2, _)] (fun kk E m => ∃ (k : Nat) (s : Nat → Nat), kk = 3 - k ∧ E = [(7, u (bor a b k)), (9, ii k)] ∧ m = [(3, some ⟨r4, arr .u64 3 s, 357⟩)] ∧ (k ≤ 3) ∧ (∀ j, j < k → s j = wd (a + 2 ^ 256 - b) j)) ⟨0, fun _ => 0, rfl, rfl, rfl, by omega, fun j hj => absurd hj (Nat.not_lt_zero j)⟩ ⟨by rw [z54]; rfl, rfl, rfl, rfl, rfl, rfl, rfl, trivial⟩ ⟨rfl, rfl, rfl, rfl, trivial⟩ ?_
 rintro kk E m ⟨k, s, rfl, rfl, rfl, hf0_0, hf0_1⟩
 simp only [zB, zA]
 have hcl := z7G a b k
 have hwl := xE b k
 refine (gt) ?_
 refine (Qcd) (fun hc0=>?_) fun hc0=>?_
 ·have hc0 : k < 3 := by omega
  refine Qk<|Qs<|Qb<|(g5)<|(g3)<|(Qq ⟨[r4], 1, [], none, none⟩)<|(ga)<|(Qi) ?_
  refine yg (i := 0) (Uu 31) rfl rfl rfl (ye (by omega)) rfl ⟨[3], rfl, rfl, trivial⟩ ?_
  refine (Qm)<|(Qi) ?_
  refine yg (i := 1) (Uu 31) rfl rfl rfl (ye (by omega)) rfl ⟨[3], rfl, rfl, trivial⟩ ?_
  refine (Qm) ?_
  refine vL rfl (fun w => zk4 _ _ _ (by omega) (by omega) w) rfl rfl ?_
  refine (ge)<|(Qi) ?_
  refine ZD (i := 3) (Uz 31) rfl rfl rfl (by omega) (.inr (by simp)) ?_
  refine (g3)<|(go) ?_
  refine QzL ⟨k + 1, upd s k _, rfl, rfl, rfl, by omega, wF hf0_1 (z6f a b k (by omega) (by omega))⟩ ⟨by rw [← z6s]; rfl, rfl, rfl, rfl, rfl, rfl, rfl, trivial⟩ ⟨rfl, rfl, rfl, rfl, trivial⟩ ?_
  omega
 ·have hz0 : k = 3 := by omega
  subst hz0
  refine Qe<|(g4)<|(Qd 3)<|(Qm)<|(Qt 2)<|(gh) ?_
  rw [← hfin, YK hf0_1]
  exact ⟨_, _, rfl, ya 2, yt⟩
theorem Xs (a : Nat) (ha : a < 2 ^ 192) : Fp G 297 #[f3 a] (.bool (decide (a < QQ))) := by
 have hQQ := z4I
 refine Qf1 Tryz.func297 ?_
 refine (g4)<|(Qh 0) fun r1=>(g3)<|(gy)<|(Qd 0) ?_
 refine (Ca WX) ?_
 refine zC rfl (Un 300) (z2F _ _ (by omega) (by omega)) rfl rfl ?_
 refine (ge)<|(QH 1) fun r2=>(Qt 1)<|(gj)<|(Qc) ?_
 refine zi (z9T _ _) ?_
 refine (gh) ?_
 exact ⟨_, rfl, yt⟩
theorem zbN (a n : Nat) (hn : n ≤ 1) : Fp G 304 #[f3 a, u n] (f3 (a * n)) := by
 refine Qf1 Tryz.func304 ?_
 refine (g4)<|(Qh 0) fun r1=>(QH 1) fun r2=>Qn<|(gc)<|Qn<|Qb ?_
 refine QzK [(1, _), (2, _), (4, _)] [(1, _)] (fun kk E m => ∃ (k : Nat) (s : Nat → Nat), kk = 3 - k ∧ E = [(6, ii k)] ∧ m = [(0, some ⟨r1, arr .u64 3 s, 357⟩)] ∧ (k ≤ 3) ∧ (∀ j, j < k → s j = wd (a * n) j) ∧ (∀ j, k ≤ j → s j = wd a j)) ⟨0, wd a, rfl, rfl, rfl, by omega, fun j hj => absurd hj (Nat.not_lt_zero j), fun j _ => rfl⟩ ⟨rfl, rfl, rfl, rfl, trivial⟩ ⟨rfl, rfl, trivial⟩ ?_
 rintro kk E m ⟨k, s, rfl, rfl, rfl, hf0_0, hf0_1, hf0_2⟩
 simp only [zB, zA]
 refine (gt) ?_
 refine (Qcd) (fun hc0=>?_) fun hc0=>?_
 ·have hc0 : k < 3 := by omega
  refine Qk<|Qs<|Qb<|(g5)<|(g3)<|Qp<|(Qm)<|(gq)<|(Qm) ?_
  refine z4D rfl rfl (by omega) ?_
  refine z0q rfl rfl rfl  ?_
  refine (Qi)<|(Qu 0)<|Qn<|(go) ?_
  refine QzL ⟨k + 1, upd s k _, rfl, rfl, rfl, by omega, wF hf0_1 (by rw [hf0_2 k (Nat.le_refl k)]; exact z56 a n k hn), z8w hf0_2⟩ ⟨rfl, rfl, rfl, rfl, trivial⟩ ⟨rfl, rfl, trivial⟩ ?_
  omega
 ·have hz0 : k = 3 := by omega
  subst hz0
  refine Qe<|(g4)<|(Qd 0)<|(Qt 1)<|Qn<|Qr ?_
  rw [YK hf0_1]
  exact ⟨_, rfl, ya 1⟩
theorem z6O (a b c d : Nat) (ha : a < 18446744073709551616) (hb : b < 18446744073709551616) (hc : c < 18446744073709551616) (hd : d < 18446744073709551616) : Fp G 303 #[u a, u b, u c, u d] (.tuple #[u ((a * b + c + d) % 18446744073709551616), u ((a * b + c + d) / 18446744073709551616)]) := by
 have hp := z3N ha hb
 refine Qf2 Tryz.func303 ?_
 refine (g4)<|(g7)<|(g5)<|(Qm) ?_
 refine zC rfl (Un 276) (z65 _ _ (by omega) (by omega)) rfl rfl ?_
 refine (ge)<|(g7)<|(g5)<|(Qm) ?_
 refine vL rfl (fun w => z3q _ _ 0 (by omega) w) rfl rfl ?_
 refine (ge)<|(g7)<|(g5)<|(Qm)<|(Qau)<|(gj)<|(Qm) ?_
 refine vL rfl (fun w => z3q _ _ 0 (by omega) w) rfl rfl ?_
 refine (ge)<|(g7)<|(g5)<|(ga)<|(Qau)<|(gr) ?_
 rw [← za5, ← za3 _ _ _ hp hc hd]
 exact ⟨_, _, rfl, yt, yt⟩
theorem zgL (a b : Nat) (ha : a < 2 ^ 192) (hb : b < 2 ^ 128) : Fp G 302 #[f3 a, f2 b] (.agg (arr .u64 5 (wd (a * b)))) := by
 refine Qf1 Tryz.func302 ?_
 refine (g4)<|(Qh 0) fun r1=>(Qh 1) fun r2=>(QH 2) fun r3=>(gg)<|(QH 3) fun r4=>Qn<|(gc)<|Qn<|Qb ?_
 refine QzK [(2, _), (3, _), (4, _), (5, _)] [(0, _), (1, _), (2, _)] (fun kk E m => ∃ (k : Nat) (s : Nat → Nat), kk = 3 - k ∧ E = [(9, ii k)] ∧ m = [(3, some ⟨r4, arr .u64 5 s, 344⟩)] ∧ (k ≤ 3) ∧ (∀ t, t < 5 → s t = wd (a % 2 ^ (64 * k) * b) t)) ⟨0, fun _ => 0, rfl, rfl, rfl, by omega, fun t _ => by simp [Nat.mod_one, wd]⟩ ⟨rfl, rfl, rfl, rfl, rfl, trivial⟩ ⟨rfl, rfl, rfl, rfl, trivial⟩ ?_
 rintro kk E m ⟨k, s, rfl, rfl, rfl, hf0_0, hf0_1⟩
 simp only [zB, zA]
 refine (gt) ?_
 refine (Qcd) (fun hc0=>?_) fun hc0=>?_
 ·have hc0 : k < 3 := by omega
  refine Qk<|Qs<|Qb<|(g5)<|(g3)<|(gb)<|(gc)<|Qn<|Qb ?_
  refine QzK [(2, _), (3, _), (4, _), (5, _), (6, _), (9, _)] [(0, _), (1, _), (2, _)] (fun kk E m => ∃ (j : Nat) (s2 : Nat → Nat), kk = 2 - j ∧ E = [(7, u (wO a b k j)), (12, ii j)] ∧ m = [(3, some ⟨r4, arr .u64 5 s2, 344⟩)] ∧ (j ≤ 2) ∧ (∀ t, t < k + j → s2 t = wd (wS a b k j) t) ∧ (∀ t, k + j ≤ t → t < 5 → s2 t = wd (a % 2 ^ (64 * k) * b) t)) ⟨0, s, rfl, rfl, rfl, by omega, fun t ht => (hf0_1 t (by omega)).trans (z8H a b k t (by omega)).symm, fun t _ ht => hf0_1 t ht⟩ ⟨by rw [z4v]; rfl, rfl, rfl, rfl, rfl, rfl, rfl, rfl, trivial⟩ ⟨rfl, rfl, rfl, rfl, trivial⟩ ?_
  rintro kk E m ⟨j, s2, rfl, rfl, rfl, hf1_0, hf1_1, hf1_2⟩
  simp only [zB, zA]
  have ha1 := xE a k
  have hb1 := xE b j
  have ho1 := zkf a b k j (by omega)
  have hs2 : j < 2 → s2 (k + j) = wd (a % 2 ^ (64 * k) * b) (k + j) := fun h => hf1_2 (k + j) (by omega) (by omega)
  refine (gt) ?_
  refine (Qcd) (fun hc1=>?_) fun hc1=>?_
  ·have hc1 : j < 2 := by omega
   refine Qk<|Qs<|Qb<|(g5)<|(g3)<|(Qg)<|(ga)<|(Q3)<|(Qm)<|(gq)<|(Qm)<|(Qi)<|(Q1 1)<|(ga)<|(Q3)<|(Qi)<|(Q1 3)<|(Qm) ?_
   have hs3 := xE (a % 2 ^ (64 * k) * b) (k + j); have hs4 := hs2 hc1
   refine zC rfl (Un 303) (z6O _ _ _ _ (by omega) (by omega) (by omega) (by omega)) rfl rfl ?_
   refine (ge)<|(Qi)<|(Qu 3)<|(g3)<|(go) ?_
   refine QzL ⟨j + 1, upd s2 (k + j) _, rfl, rfl, rfl, by omega, by rw [hs2 hc1]; exact z32 hf1_1, fun t h1 h2 => by rw [← hf1_2 t (by omega) h2]; unfold upd; rw [if_neg (by omega)]⟩ ⟨by rw [← z4x, ← hs2 hc1]; rfl, rfl, rfl, rfl, rfl, rfl, rfl, rfl, trivial⟩ ⟨rfl, rfl, rfl, rfl, trivial⟩ ?_
   omega
  ·have hz1 : j = 2 := by omega
   subst hz1
   refine Qe<|Qp<|(Qm)<|(Q2 2)<|(Qm)<|(Qi)<|(Qu 3)<|Qn<|(go) ?_
   refine QzL ⟨k + 1, upd s2 (k + 2) _, rfl, rfl, rfl, by omega, z7d hb hf1_1 hf1_2⟩ ⟨rfl, rfl, rfl, rfl, rfl, trivial⟩ ⟨rfl, rfl, rfl, rfl, trivial⟩ ?_
   omega
 ·have hz0 : k = 3 := by omega
  subst hz0
  refine Qe<|(g4)<|(Qd 3)<|(Qt 2)<|Qn<|Qr ?_
  rw [Nat.mod_eq_of_lt (show a < 2 ^ (64 * 3) from ha)] at hf0_1
  rw [← zz hf0_1]
  exact ⟨_, rfl, ya 2⟩
theorem z63 (a b : Nat) (ha : a < 2 ^ 131) (hb : b < 2 ^ 124) : Fp G 298 #[f3 a, f2 b] (f3 (a * b % QQ)) := by
 obtain ⟨x, hx⟩ : ∃ x, x = a * b := ⟨_, rfl⟩
 have hx2 : x < 2 ^ 255 := by rw [hx]; exact Nat.lt_of_le_of_lt (Nat.mul_le_mul (Nat.le_of_lt_succ ha) (Nat.le_of_lt hb)) (by decide)
 obtain ⟨L, hL⟩ : ∃ L, L = x % 2 ^ 130 := ⟨_, rfl⟩
 obtain ⟨H, hH⟩ : ∃ H, H = x / 2 ^ 130 := ⟨_, rfl⟩
 have hL2 : L < 2 ^ 130 := by rw [hL]; exact Nat.mod_lt _ (by decide)
 have hH2 : H < 2 ^ 125 := by omega
 have hQQ := z4I
 obtain ⟨S, hS⟩ : ∃ S, S = L + 5 * H := ⟨_, rfl⟩
 have hS2 : S < 2 ^ 192 := by omega
 obtain ⟨t, ht⟩ : ∃ t, t = (if S < QQ then 1 else 0) := ⟨_, rfl⟩
 have ht1 : t ≤ 1 := by rw [ht]; split <;> omega
 refine Qf1 Tryz.func298 ?_
 refine (g4)<|(Qh 0) fun r1=>(Qh 1) fun r2=>(QH 2) fun r3=>(gg)<|(Qd 0)<|(Qd 1) ?_
 refine (Ca (zgL a b (by omega) (by omega))) ?_
 refine zi (congrArg (fun z => Value.agg (arr .u64 5 (wd z))) hx.symm) ?_
 refine (QH 3) fun r4=>(Qt 3)<|(gg)<|(Qj 2)<|(Q1 3)<|(Q8 2)<|(Qj 3)<|(Q1 3) ?_
 refine Wg (s := 62) rfl rfl rfl (by omega) ?_
 refine z0z rfl rfl rfl  ?_
 refine (Au ((hi0 x).trans (by rw [← hH])))<|(Qj 3)<|(Q1 3)<|(Q8 2) ?_
 refine (Au ((hi1 hx2).trans (by rw [← hH]))) ?_
 refine yG (arr .u64 2 (wd H)) (Ub 289 rfl) (Uu 289 rfl) (Uz 31 rfl) rfl rfl rfl ?_
 refine (QH 4) fun r5=>(Qt 4)<|(gg)<|(Qj 0)<|(Q1 3) ?_
 refine (Au ((lo0 x).trans (by rw [← hL])))<|(Qj 1)<|(Q1 3) ?_
 refine (Au ((lo1 x).trans (by rw [← hL])))<|(Qj 2)<|(Q1 3)<|(Q9 3) ?_
 refine (Au ((lo2 x).trans (by rw [← hL]))) ?_
 refine yG (arr .u64 3 (wd L)) (Ub 357 rfl) (Uu 357 rfl) (Uz 31 rfl) rfl rfl rfl ?_
 refine (QH 5) fun r6=>(Qt 5)<|Qn<|(gb)<|(gc)<|Qn<|Qb ?_
 refine QzK [(4, _), (6, _), (7, _)] [(0, _), (1, _), (2, _), (3, _), (4, _)] (fun kk E m => ∃ (k : Nat) (s : Nat → Nat), kk = 2 - k ∧ E = [(8, u (qS L H k / 2 ^ (64 * k))), (34, ii k)] ∧ m = [(5, some ⟨r6, arr .u64 3 s, 357⟩)] ∧ (k ≤ 2) ∧ (∀ t, t < k → s t = wd (qS L H k) t) ∧ (∀ t, k ≤ t → s t = wd L t)) ⟨0, wd L, rfl, rfl, rfl, by omega, fun t ht => absurd ht (Nat.not_lt_zero t), fun t _ => rfl⟩ ⟨by rw [zhx]; rfl, rfl, rfl, rfl, rfl, trivial⟩ ⟨rfl, rfl, rfl, rfl, rfl, rfl, trivial⟩ ?_
 rintro kk E m ⟨k, s, rfl, rfl, rfl, hf0_0, hf0_1, hf0_2⟩
 simp only [zB, zA]
 have hw1 := xE H k
 have hw2 := xE L k
 have hov := zmQ L H k
 have hsk := hf0_2 k (Nat.le_refl k)
 refine (gt) ?_
 refine (Qcd) (fun hc0=>?_) fun hc0=>?_
 ·have hc0 : k < 2 := by omega
  refine Qk<|Qs<|Qb<|(g5)<|(g3)<|(Qg)<|(ga)<|(Qi)<|(Q1 4)<|(Qm)<|(Qi)<|(Q1 5)<|(Qm) ?_
  refine zC rfl (Un 303) (z6O _ 5 _ _ (by omega) (by omega) (by omega) (by omega)) rfl rfl ?_
  refine (ge)<|(Qi)<|(Qu 5)<|(g3)<|(go) ?_
  refine QzL ⟨k + 1, upd s k _, rfl, rfl, rfl, by omega, zlp (hf0_2 k (Nat.le_refl k)) hf0_1, z8w hf0_2⟩ ⟨by rw [← znR, ← hsk]; rfl, rfl, rfl, rfl, rfl, trivial⟩ ⟨rfl, rfl, rfl, rfl, rfl, rfl, trivial⟩ ?_
  omega
 ·have hz0 : k = 2 := by omega
  subst hz0
  refine Qe<|(g4)<|(Qj 2)<|(Q1 5)<|(Qm)<|(Qau) ?_
  refine (Au (Nat.mod_eq_of_lt (show s 2 + qS L H 2 / 2 ^ (64 * 2) < 18446744073709551616 by have := hf0_2 2 (Nat.le_refl 2); have h4 : wd L 2 < 4 := zhg hL2; omega)))<|(Qj 2)<|(Qu 5)<|Qn<|(gy)<|(Qd 5) ?_
  refine zi (show _ = f3 S by rw [hS]; exact (YK (zkX hL2 hH2 hf0_1 hf0_2)).symm) ?_
  refine (Ca WX) ?_
  refine zC rfl (Un 300) (z2F _ _ (by omega) (by omega)) rfl rfl ?_
  refine (ge) ?_
  refine (Au ht.symm)<|(QH 6) fun r7=>(Qt 6)<|(g3)<|(gy)<|(Qd 6) ?_
  refine (Ca WX)<|(Qm) ?_
  refine zC rfl (Un 304) (zbN _ _ (by omega)) rfl rfl ?_
  refine (Ca (z1j _ _))<|(Qt 2)<|Qn<|Qr ?_
  rw [ht, ← hx, YK (zaY (S := S) hx2 (by rw [hS, hL, hH]))]
  exact ⟨_, rfl, ya 2⟩
theorem z6l (r p : NN) (A : Nat) (h : NN) (n : Nat) (hr0 : r 0 < 18446744073709551616) (hr1 : r 1 < 18446744073709551616) (hR : k3 r < 2 ^ 124) (hA : A < 2 ^ 130) (hn : n ≤ 16) (hh : L8 16 h) (hz : ∀ j, n ≤ j → j < 16 → h j = 0) : Fp G 293 #[PV r p (wd A) h n] (PV r p (wd (pst (k3 r) A ((List.range n).map h))) (fun _ => 0) ((0 : Nat) : Int)) := by
 obtain ⟨V, hV⟩ : ∃ V, V = vb h 16 := ⟨_, rfl⟩
 obtain ⟨B, hB⟩ : ∃ B, B = leN ((List.range n).map h ++ [1]) := ⟨_, rfl⟩
 have hB2 : B < 2 * 2 ^ 128 := by rw [hB]; exact zeK (fun b hb => by obtain ⟨j, hj, rfl⟩ := List.mem_map.1 hb; exact hh j (by have := List.mem_range.1 hj; omega)) (by simp; exact hn)
 have hps : (A + B) * k3 r % QQ = pst (k3 r) A ((List.range n).map h) := by unfold pst; rw [← hB, Nat.mod_mul_mod]
 refine Qf1 Tryz.func293 ?_
 refine (g4)<|(Qh 0) fun r1=>(QH 1) fun r2=>(gg)<|(Qf 7)<|(Qv 3 0) ?_
 refine (Ca (z1y h hh)) ?_
 refine zi (congrArg f2 hV.symm) ?_
 refine (QH 2) fun r3=>(Qt 2)<|(gg)<|(Qj 0)<|(Q1 2)<|(Qj 1)<|(Q1 2) ?_
 refine yG (arr .u64 3 (upd (wd V) 2 0)) (Ub 357 rfl) (Uu 357 rfl) (Uz 31 rfl) rfl rfl rfl ?_
 refine (QH 3) fun r4=>(Qt 3)<|Qn<|(gy)<|(Qf 23)<|(QV 4 0)<|(Q5 8)<|(Qi)<|(Q1 3)<|(Qf 23)<|(QV 4 0)<|(Q4 8)<|(Q6 8) ?_
 refine Wg (p := 1) rfl rfl rfl (by omega) ?_
 refine z0z rfl rfl rfl  ?_
 refine (Qi)<|(Qu 3)<|Qn<|(gy)<|(Qf 4)<|(Qv 2 0)<|(Qd 3) ?_
 refine zi (show _ = f3 B from (YK (ze3 hh hz hn hV hB)).symm) ?_
 refine (Ca (z1j _ _))<|(Qf 0)<|(Qv 0 0) ?_
 refine zi (zkk (z8P hr0 hr1)).symm ?_
 refine (Ca (z63 (A + B) (k3 r) (by omega) hR)) ?_
 refine zi (congrArg f3 hps) ?_
 refine (Qf 4)<|(QtC 0 2)<|(gg) ?_
 refine vA (Ub 262 rfl) (Uu 262 rfl) z7O rfl ?_
 refine (Qf 7)<|(QtC 0 3)<|(Qf 23)<|(QtV 0 4)<|Qn<|(gf) ?_
 refine (Av (PV r p (wd (pst (k3 r) A ((List.range n).map h))) (fun _ => 0) ((0 : Nat) : Int)))<|(QW 1)<|Qn<|Qr ?_
 exact ⟨_, rfl, yb 1⟩
theorem z95 (r p : NN) (A : Nat) (h : NN) (n : Int) (hp0 : p 0 < 18446744073709551616) (hp1 : p 1 < 18446744073709551616) : Fp G 296 #[PV r p (wd A) h n] (.agg (arr .u8 16 (tgn (k3 (wd A)) (k3 p)))) := by
 obtain ⟨X, hX⟩ : ∃ X, X = A + k3 p := ⟨_, rfl⟩
 have hE : ∀ s : Nat → Nat, (∀ j, j < 16 → s j = bt X j) → arr .u8 16 s = arr .u8 16 (tgn (k3 (wd A)) (k3 p)) := fun s h => zz fun j hj => (h j hj).trans (by rw [hX]; exact zlf A (k3 p) hj)
 refine Qf1 Tryz.func296 ?_
 refine (g4)<|(Qh 0) fun r1=>(QH 1) fun r2=>(gg)<|(Qf 4)<|(Qv 2 0)<|(Qf 2)<|(QA 2 0)<|(QI 1 0 0)<|(Qf 2)<|(QA 3 1)<|(QI 1 1 0) ?_
 refine yG (arr .u64 3 (upd p 2 0)) (Ub 357 rfl) (Uu 357 rfl) (Uz 31 rfl) rfl rfl rfl ?_
 refine zi (show _ = f3 (k3 p) from (YK (zh3 hp0 hp1)).symm) ?_
 refine (Ca (z1j _ _)) ?_
 refine zi (congrArg f3 hX.symm) ?_
 refine (QH 2) fun r3=>(Qt 2)<|(gg)<|(QH 3) fun r4=>Qn<|(gc)<|Qn<|Qb ?_
 refine QzK [(2, _), (3, _), (4, _)] [(0, _), (1, _), (2, _)] (fun kk E m => ∃ (i : Nat) (s : Nat → Nat), kk = 16 - i ∧ E = [(16, ii i)] ∧ m = [(3, some ⟨r4, arr .u8 16 s, 262⟩)] ∧ (i ≤ 16) ∧ (∀ j, j < i → s j = bt X j)) ⟨0, fun _ => 0, rfl, rfl, rfl, by omega, fun j hj => absurd hj (Nat.not_lt_zero j)⟩ ⟨rfl, rfl, rfl, rfl, trivial⟩ ⟨rfl, rfl, rfl, rfl, trivial⟩ ?_
 rintro kk E m ⟨i, s, rfl, rfl, rfl, hf0_0, hf0_1⟩
 simp only [zB, zA]
 refine (gt) ?_
 refine (Qcd) (fun hc0=>?_) fun hc0=>?_
 ·have hc0 : i < 16 := by omega
  refine Qk<|Qs<|Qb<|(g5)<|(g3)<|Qp<|(ga)<|(Q5 8)<|(Qi)<|(Q1 2)<|(Qm)<|(Q4 8)<|(Q6 8) ?_
  refine z03 rfl rfl rfl (by omega) ?_
  refine wi (Uu 31) (Uu 5) rfl rfl rfl ?_
  refine (Qi)<|(Qu 3)<|Qn<|(go) ?_
  refine QzL ⟨i + 1, upd s i _, rfl, rfl, rfl, by omega, wF hf0_1 (z9P X i)⟩ ⟨rfl, rfl, rfl, rfl, trivial⟩ ⟨rfl, rfl, rfl, rfl, trivial⟩ ?_
  omega
 ·have hz0 : i = 16 := by omega
  subst hz0
  refine Qe<|(g4)<|(Qd 3)<|(Qt 1)<|Qn<|Qr ?_
  rw [← hE _ hf0_1]
  exact ⟨_, rfl, ya 1⟩
end Go.Proofs.YtacflmjoigffpaaGreatDoor
