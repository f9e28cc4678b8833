import Derived.Test.YtlidhfijmcelpaaGreatDoorKY7
import Derived.Test.YtlidhfijmcelpaaGreatDoorRows
set_option maxHeartbeats 4000000
set_option maxRecDepth 30000
/-
 Rules with short names.
-/
namespace Go.Proofs.YtlidhfijmcelpaaGreatDoor
open Go Go.RowKit
variable {G : Mem} {R : Reg} {ops : Array Oper} {n : Nat} {K : Env → Mm → Prop} {Q : Exit → Env → Mm → Prop} {rest : List Oper} {E : Env} {M : Mm} {d : Nat} {ty : TypeId} {pos : String} {aft : Array Edge} {T : TypeId} {T' : TypeId} {x : Operand} {y : Operand}
theorem Qs {c : Code} {c' : Code} : (yc Tryz.prog G c n (VY (yc Tryz.prog G c' n Q) Q) E M) → yc Tryz.prog G (.seq c c') n Q E M := fun h => zkK h
theorem Qp {id : Nat} : (z2 Tryz.prog G Vk ops n (Q .normal) ops.toList E M) → yc Tryz.prog G (.region id ops false) n Q E M := fun h => zgx h
theorem Qn : (K E M) → z2 Tryz.prog G R ops n K [] E M := fun h => zkM h
theorem Qk : (Q .normal E M) → yc Tryz.prog G .skip n Q E M := fun h => zjK h
theorem Qb {id : Nat} {c : Code} : (yc Tryz.prog G c n (z0X id Q) E M) → yc Tryz.prog G (.block id c) n Q E M := fun h => zht h
theorem Qe {id : Nat} : (Q (.exit id) E M) → yc Tryz.prog G (.exit id) n Q E M := fun h => zjg h
theorem Qr : (Q .ret E M) → yc Tryz.prog G .ret n Q E M := fun h => zkn h
theorem Qm {v : Value} (hx : rd E x = some v := by rfl) (hd : Nat.blt d n = true := by rfl) : (z2 Tryz.prog G R ops n K rest ((d, v) :: E) M) → z2 Tryz.prog G R ops n K (⟨some d, .move x, ty, pos, aft, none⟩ :: rest) E M := fun h => zjc hx hd h
theorem Qa {v : Value} (hx : rd E x = some v := by rfl) (hd : Nat.blt d n = true := by rfl) : (z2 Tryz.prog G R ops n K rest ((d, v) :: E) M) → z2 Tryz.prog G R ops n K (⟨some d, .assign x, ty, pos, aft, none⟩ :: rest) E M := fun h => wB hx hd h
theorem Qx {i : Nat} {vs : Array Value} {v : Value} (hx : rd E x = some (.tuple vs) := by rfl) (hv : vs[i]? = some v := by rfl) (hd : Nat.blt d n = true := by rfl) : (z2 Tryz.prog G R ops n K rest ((d, v) :: E) M) → z2 Tryz.prog G R ops n K (⟨some d, .extract x i, ty, pos, aft, none⟩ :: rest) E M := fun h => zbh hx hv hd h
theorem Qy {dd : Option Tmp} {op : Op} {g : Nat} {s : Nat} {want : Bool} {b : Bool} (hg : (ops[g]?).bind (·.dst) = some s := by rfl) (hb : lk E s = some (.bool b) := by rfl) (hw : b = want := by rfl) : (z2 Tryz.prog G R ops n K (⟨dd, op, ty, pos, aft, none⟩ :: rest) E M) → z2 Tryz.prog G R ops n K (⟨dd, op, ty, pos, aft, some (g, want)⟩ :: rest) E M := fun h => zla hg hb hw h
theorem Qo {op : Op} {g : Nat} {s : Nat} {want : Bool} {b : Bool} (hg : (ops[g]?).bind (·.dst) = some s := by rfl) (hb : lk E s = some (.bool b) := by rfl) (hw : b ≠ want := by decide) (hd : Nat.blt d n = true := by rfl) : (z2 Tryz.prog G R ops n K rest ((d, undef) :: E) M) → z2 Tryz.prog G R ops n K (⟨some d, op, ty, pos, aft, some (g, want)⟩ :: rest) E M := fun h => zln hg hb hw hd h
theorem Qw {op : Op} {g : Nat} {s : Nat} {want : Bool} (hg : (ops[g]?).bind (·.dst) = some s := by rfl) (hb : lk E s = some undef := by rfl) (hd : Nat.blt d n = true := by rfl) : (z2 Tryz.prog G R ops n K rest ((d, undef) :: E) M) → z2 Tryz.prog G R ops n K (⟨some d, op, ty, pos, aft, some (g, want)⟩ :: rest) E M := fun h => zkD hg hb hd h
theorem QT {p : Operand} {q : Operand} {r : Operand} {t : Bool} {v : Value} (hc : rd E p = some (.bool t) := by rfl) (ht : t = true := by rfl) (hv : rd E q = some v := by rfl) (hd : Nat.blt d n = true := by rfl) : (z2 Tryz.prog G R ops n K rest ((d, v) :: E) M) → z2 Tryz.prog G R ops n K (⟨some d, .pick p q r, ty, pos, aft, none⟩ :: rest) E M := fun h => zgh hc ht hv hd h
theorem QF {p : Operand} {q : Operand} {r : Operand} {t : Bool} {v : Value} (hc : rd E p = some (.bool t) := by rfl) (ht : t = false := by rfl) (hv : rd E r = some v := by rfl) (hd : Nat.blt d n = true := by rfl) : (z2 Tryz.prog G R ops n K rest ((d, v) :: E) M) → z2 Tryz.prog G R ops n K (⟨some d, .pick p q r, ty, pos, aft, none⟩ :: rest) E M := fun h => zgc hc ht hv hd h
theorem Qg {id : Nat} (hm : Tryz.prog.follows .mixedOrders = true := by exact ziv) (hok : wq Vk ops (List.range ops.size) = true := by kernel_rfl) : (z2 Tryz.prog G Vk ops n (Q .normal) ops.toList E M) → yc Tryz.prog G (.region id ops true) n Q E M := fun h => zjI hm hok h
theorem QR {id : Nat} (R : Reg) : (z2 Tryz.prog G R ops n (Q .normal) ops.toList E M) → yc Tryz.prog G (.region id ops false) n Q E M := fun h => zcs R h
theorem Qq {id : Nat} (R : Reg) (hm : Tryz.prog.follows .mixedOrders = true := by exact ziv) (hok : wq R ops (List.range ops.size) = true := by kernel_rfl) : (z2 Tryz.prog G R ops n (Q .normal) ops.toList E M) → yc Tryz.prog G (.region id ops true) n Q E M := fun h => zhF R hm hok h
theorem Ql {k : IntKind} {p : Int} {q : Int} (hx : rd E x = some (.int k p) := by rfl) (hy : rd E y = some (.int k q) := by rfl) (hd : Nat.blt d n = true := by rfl) : (z2 Tryz.prog G R ops n K rest ((d, .bool (decide (p < q))) :: E) M) → z2 Tryz.prog G R ops n K (⟨some d, .binOp .lss T x y T', ty, pos, aft, none⟩ :: rest) E M := fun h => zlm hx hy hd h
theorem QG {k : IntKind} {p : Int} {q : Int} (hx : rd E x = some (.int k p) := by rfl) (hy : rd E y = some (.int k q) := by rfl) (hd : Nat.blt d n = true := by rfl) : (z2 Tryz.prog G R ops n K rest ((d, .bool (decide (q < p))) :: E) M) → z2 Tryz.prog G R ops n K (⟨some d, .binOp .gtr T x y T', ty, pos, aft, none⟩ :: rest) E M := fun h => zlr hx hy hd h
theorem QE {k : IntKind} {p : Int} {q : Int} (hx : rd E x = some (.int k p) := by rfl) (hy : rd E y = some (.int k q) := by rfl) (hd : Nat.blt d n = true := by rfl) : (z2 Tryz.prog G R ops n K rest ((d, .bool (decide (q ≤ p))) :: E) M) → z2 Tryz.prog G R ops n K (⟨some d, .binOp .geq T x y T', ty, pos, aft, none⟩ :: rest) E M := fun h => zlz hx hy hd h
theorem Qc {k : IntKind} {p : Int} {q : Int} (hx : rd E x = some (.int k p) := by rfl) (hy : rd E y = some (.int k q) := by rfl) (hd : Nat.blt d n = true := by rfl) : (z2 Tryz.prog G R ops n K rest ((d, .bool (decide (p = q))) :: E) M) → z2 Tryz.prog G R ops n K (⟨some d, .binOp .eql T x y T', ty, pos, aft, none⟩ :: rest) E M := fun h => zlx hx hy hd h
theorem QN {k : IntKind} {p : Int} {q : Int} (hx : rd E x = some (.int k p) := by rfl) (hy : rd E y = some (.int k q) := by rfl) (hd : Nat.blt d n = true := by rfl) : (z2 Tryz.prog G R ops n K rest ((d, .bool (decide (p ≠ q))) :: E) M) → z2 Tryz.prog G R ops n K (⟨some d, .binOp .neq T x y T', ty, pos, aft, none⟩ :: rest) E M := fun h => zlB hx hy hd h
theorem Q0 {b : Bool} (hx : rd E x = some (.bool b) := by rfl) (hd : Nat.blt d n = true := by rfl) : (z2 Tryz.prog G R ops n K rest ((d, .bool (!b)) :: E) M) → z2 Tryz.prog G R ops n K (⟨some d, .unOp .not T x, ty, pos, aft, none⟩ :: rest) E M := fun h => zkN hx hd h
theorem Qd {b : Nat} {l : Nat} {c : Array Value} {t : TypeId} {td : TypeDesc} (i : Nat) (hT : Tryz.prog.underlying T = some td := by exact Tu rfl) (hn : zy td = true := by rfl) (hs : (Tryz.prog.info? T).map (·.size) = some l := by exact Tz rfl) (hx : rd E x = some (.pointer (some ⟨b, 0, none⟩)) := by rfl) (hm : lkM M i = some ⟨b, c, t⟩ := by rfl) (hl : c.size = l := by exact (zd _ _ _)) (hd : Nat.blt d n = true := by rfl) (hX : ∃ js, v7 M i js R := by exact ⟨[], trivial⟩) : (z2 Tryz.prog G R ops n K rest ((d, .agg c) :: E) M) → z2 Tryz.prog G R ops n K (⟨some d, .load T x, ty, pos, aft, none⟩ :: rest) E M := fun h => zV (i := i) hT hn hs hx hm hl hd hX h
theorem QD {b : Nat} {l : Nat} {c : Array Value} {t : TypeId} {td : TypeDesc} (i : Nat) (hT : Tryz.prog.underlying T = some td := by exact Tu rfl) (hn : zy td = true := by rfl) (hs : (Tryz.prog.info? T).map (·.size) = some l := by exact Tz rfl) (hx : rd E x = some (.pointer (some ⟨b, 0, none⟩)) := by rfl) (hm : lkM M i = some ⟨b, c, t⟩ := by rfl) (hl : c.size = l := by exact (z3 _ _)) (hd : Nat.blt d n = true := by rfl) (hX : ∃ js, v7 M i js R := by exact ⟨[], trivial⟩) : (z2 Tryz.prog G R ops n K rest ((d, .agg c) :: E) M) → z2 Tryz.prog G R ops n K (⟨some d, .load T x, ty, pos, aft, none⟩ :: rest) E M := fun h => zV (i := i) hT hn hs hx hm hl hd hX h
theorem Q1 {b : Nat} {o : Nat} {c : Array Value} {t : TypeId} {v : Value} {td : TypeDesc} (i : Nat) (hT : Tryz.prog.underlying T = some td := by exact Tu rfl) (hn : zy td = false := by rfl) (hx : rd E x = some (.pointer (some ⟨b, o, none⟩)) := by rfl) (hm : lkM M i = some ⟨b, c, t⟩ := by rfl) (hc : c[o]? = some v := by exact (zP (by omega))) (hd : Nat.blt d n = true := by rfl) (hX : ∃ js, v7 M i js R := by exact ⟨[], trivial⟩) : (z2 Tryz.prog G R ops n K rest ((d, v) :: E) M) → z2 Tryz.prog G R ops n K (⟨some d, .load T x, ty, pos, aft, none⟩ :: rest) E M := fun h => y6 (i := i) hT hn hx hm hc hd hX h
theorem Qt {b : Nat} {l : Nat} {c : Array Value} {c' : Array Value} {t : TypeId} (i : Nat) (hs : (Tryz.prog.info? T).map (·.size) = some l := by exact Tz rfl) (hx : rd E x = some (.pointer (some ⟨b, 0, none⟩)) := by rfl) (hy : rd E y = some (.agg c') := by rfl) (hl : c'.size = l := by exact (zd _ _ _)) (hv : ∀ v ∈ c', v.oneCell' = true := by exact zU) (hm : lkM M i = some ⟨b, c, t⟩ := by rfl) (ho : c'.size = c.size := by exact (yg _ _ _ _ _)) (hX : R.X = [] ∨ b ∈ R.X := by exact (.inl rfl)) (hY : R.Y = none := by rfl) : (z2 Tryz.prog G R ops n K rest E ((i, some ⟨b, c', t⟩) :: M)) → z2 Tryz.prog G R ops n K (⟨none, .store T x y, ty, pos, aft, none⟩ :: rest) E M := fun h => z4 (i := i) hs hx hy hl hv hm ho hX h
theorem Qu {b : Nat} {o : Nat} {l : Nat} {v : Nat} {k : IntKind} {f : Nat → Nat} {t : TypeId} (i : Nat) (hs : (Tryz.prog.info? T).map (·.size) = some 1 := by exact Tz rfl) (hx : rd E x = some (.pointer (some ⟨b, o, none⟩)) := by rfl) (hy : rd E y = some (.int k (v : Int)) := by rfl) (hm : lkM M i = some ⟨b, arr k l f, t⟩ := by rfl) (ho : o < l := by omega) (hX : R.X = [] ∨ b ∈ R.X := by exact (.inl rfl)) (hY : R.Y = none := by rfl) : (z2 Tryz.prog G R ops n K rest E ((i, some ⟨b, arr k l (upd f o v), t⟩) :: M)) → z2 Tryz.prog G R ops n K (⟨none, .store T x y, ty, pos, aft, none⟩ :: rest) E M := fun h => xU (i := i) hs hx hy hm ho hX h
theorem Qf {b : Nat} {o : Nat} {f : Nat} {sz : Nat} {fs : Array Field} {fd : Field} (o' : Nat) (hT : Tryz.prog.underlying T = some (.struct fs) := by exact Tu rfl) (hf : fs[f]? = some fd := by rfl) (hs : (Tryz.prog.info? fd.type).map (·.size) = some (sz + 1) := by exact Tz rfl) (hx : rd E x = some (.pointer (some ⟨b, o, none⟩)) := by rfl) (ho : o + fd.offset = o' := by rfl) (hd : Nat.blt d n = true := by rfl) : (z2 Tryz.prog G R ops n K rest ((d, .pointer (some ⟨b, o', none⟩)) :: E) M) → z2 Tryz.prog G R ops n K (⟨some d, .fieldAddr T x f, ty, pos, aft, none⟩ :: rest) E M := fun h => zkw o' hT hf hs hx ho hd h
theorem Qi {b : Nat} {j : Nat} {l : Nat} {k : IntKind} {e : TypeId} (hT : Tryz.prog.underlying T = some (.array l e) := by exact Tu rfl) (hs : (Tryz.prog.info? e).map (·.size) = some 1 := by exact Tz rfl) (hx : rd E x = some (.pointer (some ⟨b, 0, none⟩)) := by rfl) (hy : rd E y = some (.int k (j : Int)) := by rfl) (hj : j < l := by omega) (hd : Nat.blt d n = true := by rfl) : (z2 Tryz.prog G R ops n K rest ((d, .pointer (some ⟨b, j, none⟩)) :: E) M) → z2 Tryz.prog G R ops n K (⟨some d, .indexAddr T x y, ty, pos, aft, none⟩ :: rest) E M := fun h => ZA hT hs hx hy hj hd h
theorem Qj {b : Nat} {l : Nat} {k : IntKind} {e : TypeId} (j : Nat) (hT : Tryz.prog.underlying T = some (.array l e) := by exact Tu rfl) (hs : (Tryz.prog.info? e).map (·.size) = some 1 := by exact Tz rfl) (hx : rd E x = some (.pointer (some ⟨b, 0, none⟩)) := by rfl) (hy : rd E y = some (.int k (j : Int)) := by rfl) (hj : j < l := by omega) (hd : Nat.blt d n = true := by rfl) : (z2 Tryz.prog G R ops n K rest ((d, .pointer (some ⟨b, j, none⟩)) :: E) M) → z2 Tryz.prog G R ops n K (⟨some d, .indexAddr T x y, ty, pos, aft, none⟩ :: rest) E M := fun h => ZA (j := j) hT hs hx hy hj hd h
theorem QA {b : Nat} {o : Nat} {l : Nat} {z : Nat} {k : IntKind} {e : TypeId} (o' : Nat) (j : Nat) (hT : Tryz.prog.underlying T = some (.array l e) := by exact Tu rfl) (hs : (Tryz.prog.info? e).map (·.size) = some (z + 1) := by exact Tz rfl) (hx : rd E x = some (.pointer (some ⟨b, o, none⟩)) := by rfl) (hy : rd E y = some (.int k (j : Int)) := by rfl) (hj : j < l := by omega) (ho : o + j * (z + 1) = o' := by omega) (hd : Nat.blt d n = true := by rfl) : (z2 Tryz.prog G R ops n K rest ((d, .pointer (some ⟨b, o', none⟩)) :: E) M) → z2 Tryz.prog G R ops n K (⟨some d, .indexAddr T x y, ty, pos, aft, none⟩ :: rest) E M := fun h => zj8 (j := j) o' hT hs hx hy hj ho hd h
theorem QB {b : Nat} {o : Nat} {j : Nat} {l : Nat} {z : Nat} {k : IntKind} {e : TypeId} (o' : Nat) (hT : Tryz.prog.underlying T = some (.array l e) := by exact Tu rfl) (hs : (Tryz.prog.info? e).map (·.size) = some (z + 1) := by exact Tz rfl) (hx : rd E x = some (.pointer (some ⟨b, o, none⟩)) := by rfl) (hy : rd E y = some (.int k (j : Int)) := by rfl) (hj : j < l := by omega) (ho : o + j * (z + 1) = o' := by omega) (hd : Nat.blt d n = true := by rfl) : (z2 Tryz.prog G R ops n K rest ((d, .pointer (some ⟨b, o', none⟩)) :: E) M) → z2 Tryz.prog G R ops n K (⟨some d, .indexAddr T x y, ty, pos, aft, none⟩ :: rest) E M := fun h => zj8 o' hT hs hx hy hj ho hd h
theorem Qh {v : Value} (i : Nat) (hx : rd E x = some v := by rfl) (hd : Nat.blt d n = true := by rfl) : (∀ r, z2 Tryz.prog G R ops n K rest ((d, ptr r) :: E) ((i, some ⟨r, v.cells, T⟩) :: M)) → z2 Tryz.prog G R ops n K (⟨some d, .box T x, ty, pos, aft, none⟩ :: rest) E M := fun h => zlc i hx hd h
theorem QH {z : Value} (i : Nat) (hz : (Tryz.prog.info? T).bind (·.zero) = some z := by exact Tb rfl) (hd : Nat.blt d n = true := by rfl) : (∀ r, z2 Tryz.prog G R ops n K rest ((d, ptr r) :: E) ((i, some ⟨r, z.cells, T⟩) :: M)) → z2 Tryz.prog G R ops n K (⟨some d, .alloc T, ty, pos, aft, none⟩ :: rest) E M := fun h => zhY i hz hd h
theorem Qv {b : Nat} {o : Nat} {l : Nat} {N : Nat} {kd : IntKind} {f : Nat → Nat} {ps : List zW} {t : TypeId} {td : TypeDesc} (k : Nat) (i : Nat) (hT : Tryz.prog.underlying T = some td := by exact Tu rfl) (hn : zy td = true := by rfl) (hs : (Tryz.prog.info? T).map (·.size) = some l := by exact Tz rfl) (hx : rd E x = some (.pointer (some ⟨b, o, none⟩)) := by rfl) (hm : lkM M i = some ⟨b, cells N ps, t⟩ := by rfl) (hk : xe ps k = some (o, pI kd l f) := by rfl) (ho : o + l ≤ N := by decide) (hd : Nat.blt d n = true := by rfl) (hX : ∃ js, v7 M i js R := by exact ⟨[], trivial⟩) : (z2 Tryz.prog G R ops n K rest ((d, .agg (arr kd l f)) :: E) M) → z2 Tryz.prog G R ops n K (⟨some d, .load T x, ty, pos, aft, none⟩ :: rest) E M := fun h => X1 (i := i) k hT hn hs hx hm hk ho hd hX h
theorem QV {b : Nat} {o : Nat} {N : Nat} {v : Value} {ps : List zW} {t : TypeId} {td : TypeDesc} (k : Nat) (i : Nat) (hT : Tryz.prog.underlying T = some td := by exact Tu rfl) (hn : zy td = false := by rfl) (hx : rd E x = some (.pointer (some ⟨b, o, none⟩)) := by rfl) (hm : lkM M i = some ⟨b, cells N ps, t⟩ := by rfl) (hk : xe ps k = some (o, pV v) := by rfl) (hN : o < N := by decide) (hd : Nat.blt d n = true := by rfl) (hX : ∃ js, v7 M i js R := by exact ⟨[], trivial⟩) : (z2 Tryz.prog G R ops n K rest ((d, v) :: E) M) → z2 Tryz.prog G R ops n K (⟨some d, .load T x, ty, pos, aft, none⟩ :: rest) E M := fun h => Za (i := i) k hT hn hx hm hk hN hd hX h
theorem QI {b : Nat} {o : Nat} {o' : Nat} {l : Nat} {N : Nat} {kd : IntKind} {f : Nat → Nat} {ps : List zW} {t : TypeId} {td : TypeDesc} (k : Nat) (j : Nat) (i : Nat) (hT : Tryz.prog.underlying T = some td := by exact Tu rfl) (hn : zy td = false := by rfl) (hx : rd E x = some (.pointer (some ⟨b, o', none⟩)) := by rfl) (hm : lkM M i = some ⟨b, cells N ps, t⟩ := by rfl) (hk : xe ps k = some (o, pI kd l f) := by rfl) (ho : o' = o + j := by rfl) (hj : j < l := by decide) (hN : o' < N := by decide) (hd : Nat.blt d n = true := by rfl) (hX : ∃ js, v7 M i js R := by exact ⟨[], trivial⟩) : (z2 Tryz.prog G R ops n K rest ((d, .int kd (f j : Int)) :: E) M) → z2 Tryz.prog G R ops n K (⟨some d, .load T x, ty, pos, aft, none⟩ :: rest) E M := fun h => z2H (i := i) k j hT hn hx hm hk ho hj hN hd hX h
theorem Q2 {p : Nat} (q : Nat) (hx : rd E x = some (ii p) := by rfl) (hy : rd E y = some (ii q) := by rfl) (hd : Nat.blt d n = true := by rfl) (hb : p + q < 9223372036854775808 := by omega) : (z2 Tryz.prog G R ops n K rest ((d, ii (p + q)) :: E) M) → z2 Tryz.prog G R ops n K (⟨some d, .binOp .add T x y T', ty, pos, aft, none⟩ :: rest) E M := fun h => zY (q := q) hx hy hd hb h
theorem Q3 {p : Nat} {q : Nat} (hx : rd E x = some (ii p) := by rfl) (hy : rd E y = some (ii q) := by rfl) (hd : Nat.blt d n = true := by rfl) (hb : p + q < 9223372036854775808 := by omega) : (z2 Tryz.prog G R ops n K rest ((d, ii (p + q)) :: E) M) → z2 Tryz.prog G R ops n K (⟨some d, .binOp .add T x y T', ty, pos, aft, none⟩ :: rest) E M := fun h => zY hx hy hd hb h
theorem Q4 {p : Nat} (q : Nat) (hx : rd E x = some (ii p) := by rfl) (hy : rd E y = some (ii q) := by rfl) (hd : Nat.blt d n = true := by rfl) (hq : 0 < q := by omega) : (z2 Tryz.prog G R ops n K rest ((d, ii (p % q)) :: E) M) → z2 Tryz.prog G R ops n K (⟨some d, .binOp .rem T x y T', ty, pos, aft, none⟩ :: rest) E M := fun h => zhZ (q := q) hx hy hd hq h
theorem Q5 {p : Nat} (q : Nat) (hx : rd E x = some (ii p) := by rfl) (hy : rd E y = some (ii q) := by rfl) (hd : Nat.blt d n = true := by rfl) (hp : p < 9223372036854775808 := by omega) (hq : 0 < q := by omega) : (z2 Tryz.prog G R ops n K rest ((d, ii (p / q)) :: E) M) → z2 Tryz.prog G R ops n K (⟨some d, .binOp .quo T x y T', ty, pos, aft, none⟩ :: rest) E M := fun h => zhw (q := q) hx hy hd hp hq h
theorem Q6 {p : Nat} (q : Nat) (hx : rd E x = some (ii p) := by rfl) (hy : rd E y = some (ii q) := by rfl) (hd : Nat.blt d n = true := by rfl) (hb : p * q < 9223372036854775808 := by omega) : (z2 Tryz.prog G R ops n K rest ((d, ii (p * q)) :: E) M) → z2 Tryz.prog G R ops n K (⟨some d, .binOp .mul T x y T', ty, pos, aft, none⟩ :: rest) E M := fun h => VJ (q := q) hx hy hd hb h
theorem Q7 {q : Nat} (p : Nat) (hx : rd E x = some (ii p) := by rfl) (hy : rd E y = some (ii q) := by rfl) (hd : Nat.blt d n = true := by rfl) (hb : p * q < 9223372036854775808 := by omega) : (z2 Tryz.prog G R ops n K rest ((d, ii (p * q)) :: E) M) → z2 Tryz.prog G R ops n K (⟨some d, .binOp .mul T x y T', ty, pos, aft, none⟩ :: rest) E M := fun h => VJ (p := p) hx hy hd hb h
theorem Q8 {k : IntKind} {p : Nat} (s : Nat) (hx : rd E x = some (u p) := by rfl) (hy : rd E y = some (.int k (s : Int)) := by rfl) (hd : Nat.blt d n = true := by rfl) (hs : s ≤ 64 := by omega) : (z2 Tryz.prog G R ops n K rest ((d, u (p / 2 ^ s)) :: E) M) → z2 Tryz.prog G R ops n K (⟨some d, .binOp .shr T x y T', ty, pos, aft, none⟩ :: rest) E M := fun h => YY (s := s) hx hy hd hs h
theorem Q9 {p : Nat} (q : Nat) (hx : rd E x = some (u p) := by rfl) (hy : rd E y = some (u q) := by rfl) (hd : Nat.blt d n = true := by rfl) : (z2 Tryz.prog G R ops n K rest ((d, u ((p &&& q) % 18446744073709551616)) :: E) M) → z2 Tryz.prog G R ops n K (⟨some d, .binOp .and T x y T', ty, pos, aft, none⟩ :: rest) E M := fun h => VO (q := q) hx hy hd h
theorem QU {l : List Nat} (hT : Tryz.prog.underlying T = some .string := by exact Tu rfl) (hx : rd E x = some (sv l) := by rfl) (hd : Nat.blt d n = true := by rfl) (hR : yW R = true := by rfl) : (z2 Tryz.prog G R ops n K rest ((d, ii l.length) :: E) M) → z2 Tryz.prog G R ops n K (⟨some d, .call ⟨.builtin .len, #[x], #[T]⟩, ty, pos, aft, none⟩ :: rest) E M := fun h => zdU hT hx hd hR h
theorem QX {j : Nat} {l : Nat} {k : IntKind} {k' : IntKind} {k2 : IntKind} {e : TypeId} {f : Nat → Nat} (hT : Tryz.prog.underlying T = some (.array l e) := by exact Tu rfl) (he : Tryz.prog.underlying e = some (.int k') := by exact Tu rfl) (hs : (Tryz.prog.info? e).map (·.size) = some 1 := by exact Tz rfl) (hx : rd E x = some (.agg (arr k l f)) := by rfl) (hy : rd E y = some (.int k2 (j : Int)) := by rfl) (hj : j < l := by omega) (hd : Nat.blt d n = true := by rfl) : (z2 Tryz.prog G R ops n K rest ((d, .int k (f j : Int)) :: E) M) → z2 Tryz.prog G R ops n K (⟨some d, .index T x y, ty, pos, aft, none⟩ :: rest) E M := fun h => zku hT he hs hx hy hj hd h
theorem QY {fn : Go.Fn} {fs : Array Operand} {cs : Array Operand} {vf : List Value} {vc : List Value} (h1 : rdl E fs.toList = some vf := by rfl) (h2 : rdl E cs.toList = some vc := by rfl) (hd : Nat.blt d n = true := by rfl) : (z2 Tryz.prog G R ops n K rest ((d, .func fn vf.toArray vc.toArray) :: E) M) → z2 Tryz.prog G R ops n K (⟨some d, .makeFunc fn fs cs, ty, pos, aft, none⟩ :: rest) E M := fun h => zk6 h1 h2 hd h
theorem QC {e : TypeId} {v : Value} {B : Mem} {z : Nat} {k : Nat} {xs : List Value} (hv : Shows B z v k xs) (hT : Tryz.prog.underlying T = some (.slice e) := by exact Tu rfl) (hx : rd E x = some v := by rfl) (hd : Nat.blt d n = true := by rfl) (hR : yW R = true := by rfl) : (z2 Tryz.prog G R ops n K rest ((d, ii k) :: E) M) → z2 Tryz.prog G R ops n K (⟨some d, .call ⟨.builtin .len, #[x], #[T]⟩, ty, pos, aft, none⟩ :: rest) E M := fun h => zjl hv hT hx hd hR h
theorem QS {l : List Oper} {s : Nat} {v : Value} {v' : Value} (hv : v = v' := by exact (congrArg (wb _) (Nat.mul_one _))) : (z2 Tryz.prog G R ops n K l ((s, v') :: E) M) → z2 Tryz.prog G R ops n K l ((s, v) :: E) M := fun h => z6 hv h
theorem Qat {l : List Oper} {s : Nat} {v : Value} {v' : Value} (hv : v = v' := by exact (congrArg Value.bool (decide_eq_true (by omega)))) : (z2 Tryz.prog G R ops n K l ((s, v') :: E) M) → z2 Tryz.prog G R ops n K l ((s, v) :: E) M := fun h => z6 hv h
theorem Qaf {l : List Oper} {s : Nat} {v : Value} {v' : Value} (hv : v = v' := by exact (congrArg Value.bool (decide_eq_false (by omega)))) : (z2 Tryz.prog G R ops n K l ((s, v') :: E) M) → z2 Tryz.prog G R ops n K l ((s, v) :: E) M := fun h => z6 hv h
theorem Qar {l : List Oper} {s : Nat} {v : Value} {v' : Value} (hv : v = v' := by exact (congrArg Value.bool (decide_eq_true rfl))) : (z2 Tryz.prog G R ops n K l ((s, v') :: E) M) → z2 Tryz.prog G R ops n K l ((s, v) :: E) M := fun h => z6 hv h
theorem QJ {f : Nat} {o : Nat} {l : Nat} {N : Nat} {kd : IntKind} {g : Nat → Nat} {ps : List zW} {fs : Array Field} {fd : Field} {td : TypeDesc} (k : Nat) (hT : Tryz.prog.underlying T = some (.struct fs) := by exact Tu rfl) (hf : fs[f]? = some fd := by rfl) (he : Tryz.prog.underlying fd.type = some td := by exact Tu rfl) (hn : zy td = true := by rfl) (hs : (Tryz.prog.info? fd.type).map (·.size) = some l := by exact Tz rfl) (hx : rd E x = some (.agg (cells N ps)) := by rfl) (hk : xe ps k = some (o, pI kd l g) := by rfl) (ho : fd.offset = o := by rfl) (hN : o + l ≤ N := by exact (Nat.le_of_ble_eq_true rfl)) (hd : Nat.blt d n = true := by rfl) : (z2 Tryz.prog G R ops n K rest ((d, .agg (arr kd l g)) :: E) M) → z2 Tryz.prog G R ops n K (⟨some d, .field T x f, ty, pos, aft, none⟩ :: rest) E M := fun h => zdB k hT hf he hn hs hx hk ho hN hd h
theorem Qz {c : Code} (I : Nat → Env → Mm → Prop) {E0 : Env} {M0 : Mm} {k : Nat} (h0 : I k E0 M0) (hs : sub E0 E) (hl : xT M0 M) (round : ∀ k E M, I k E M → yc Tryz.prog G c n (VY (fun E' M' => ∃ k' E'' M'', k' < k ∧ sub E'' E' ∧ xT M'' M' ∧ I k' E'' M'') Q) E M) : yc Tryz.prog G (.loop c) n Q E M := z6D I E0 M0 k hs hl h0 round
theorem QzK {c : Code} (Ek : Env) (Mk : Mm) (I : Nat → Env → Mm → Prop) {E0 : Env} {M0 : Mm} {k : Nat} (h0 : I k E0 M0) (hs : sub (zo E0 Ek) E) (hl : xT (zu M0 Mk) M) (round : ∀ k E M, I k E M → yc Tryz.prog G c n (VY (fun E' M' => ∃ k' E'' M'', k' < k ∧ sub (zo E'' Ek) E' ∧ xT (zu M'' Mk) M' ∧ I k' E'' M'') Q) (zo E Ek) (zu M Mk)) : yc Tryz.prog G (.loop c) n Q E M := zhK Ek Mk I E0 M0 k hs hl h0 round
theorem Qzr {I : Nat → Env → Mm → Prop} {k k' : Nat} {E' : Env} {M' : Mm} {E'' : Env} {M'' : Mm} (h : I k' E'' M'') (hs : sub E'' E') (hl : xT M'' M') (hk : k' < k) : ∃ k' E'' M'', k' < k ∧ sub E'' E' ∧ xT M'' M' ∧ I k' E'' M'' := ⟨_, _, _, hk, hs, hl, h⟩
theorem QzL {I : Nat → Env → Mm → Prop} {k k' : Nat} {Ek : Env} {Mk : Mm} {E' : Env} {M' : Mm} {E'' : Env} {M'' : Mm} (h : I k' E'' M'') (hs : sub (zo E'' Ek) E') (hl : xT (zu M'' Mk) M') (hk : k' < k) : ∃ k' E'' M'', k' < k ∧ sub (zo E'' Ek) E' ∧ xT (zu M'' Mk) M' ∧ I k' E'' M'' := ⟨_, _, _, hk, hs, hl, h⟩
theorem Qf1 {f : FuncId} {fn : Func} {c : Code} {vs : List Value} {v : Value} (hf : Tryz.prog.funcs[f]? = some fn) (h : yc Tryz.prog G c n (zl6 Tryz.prog fn v) (wr vs 0) []) (hb : fn.body = some c := by rfl) (hn : fn.ntmps = n := by rfl) (ha : vs.toArray.size ≤ n := by simp) : Fn Tryz.prog G f vs.toArray v := fn1 hf hb hn ha (wr vs 0) (yS vs) h
theorem Qf2 {f : FuncId} {fn : Func} {c : Code} {vs : List Value} {v v' : Value} (hf : Tryz.prog.funcs[f]? = some fn) (h : yc Tryz.prog G c n (zkX Tryz.prog fn v v') (wr vs 0) []) (hb : fn.body = some c := by rfl) (hn : fn.ntmps = n := by rfl) (ha : vs.toArray.size ≤ n := by simp) : Fn Tryz.prog G f vs.toArray (.tuple #[v, v']) := fn2 hf hb hn ha (wr vs 0) (yS vs) h
theorem Qf3 {f : FuncId} {fn : Func} {c : Code} {vs : List Value} {v v' v'' : Value} (hf : Tryz.prog.funcs[f]? = some fn) (h : yc Tryz.prog G c n (zlb Tryz.prog fn v v' v'') (wr vs 0) []) (hb : fn.body = some c := by rfl) (hn : fn.ntmps = n := by rfl) (ha : vs.toArray.size ≤ n := by simp) : Fn Tryz.prog G f vs.toArray (.tuple #[v, v', v'']) := fn3 hf hb hn ha (wr vs 0) (yS vs) h
theorem QfN {f : FuncId} {fn : Func} {c : Code} {vs : List Value} {e : TypeId} {z k : Nat} {xs : List Value} (hf : Tryz.prog.funcs[f]? = some fn) (h : yc Tryz.prog G c n (zkG Tryz.prog e z k xs fn) (wr vs 0) []) (hb : fn.body = some c := by rfl) (hn : fn.ntmps = n := by rfl) (ha : vs.toArray.size ≤ n := by simp) : Fx Tryz.prog G [] f vs.toArray (fun v l1 nw => l1 = [] ∧ ∃ v', v = v' ∧ OwnS e z v' k xs nw) := fxN hf hb hn ha (wr vs 0) (yS vs) h
theorem QfM {f : FuncId} {fn : Func} {c : Code} {vs : List Value} {e : TypeId} {z k : Nat} {xs : List Value} {u : Value} (hf : Tryz.prog.funcs[f]? = some fn) (h : yc Tryz.prog G c n (ziz Tryz.prog e z k xs u fn) (wr vs 0) []) (hb : fn.body = some c := by rfl) (hn : fn.ntmps = n := by rfl) (ha : vs.toArray.size ≤ n := by simp) : Fx Tryz.prog G [] f vs.toArray (fun v l1 nw => l1 = [] ∧ ∃ v', v = .tuple #[v', u] ∧ OwnS e z v' k xs nw) := zlt hf hb hn ha (wr vs 0) (yS vs) h
theorem QfO {f : FuncId} {fn : Func} {c : Code} {vs : List Value} {e : TypeId} {z k : Nat} {xs : List Value} {q u : Value} (hf : Tryz.prog.funcs[f]? = some fn) (h : yc Tryz.prog G c n (ziB Tryz.prog e z k xs q u fn) (wr vs 0) []) (hb : fn.body = some c := by rfl) (hn : fn.ntmps = n := by rfl) (ha : vs.toArray.size ≤ n := by simp) : Fx Tryz.prog G [] f vs.toArray (fun v l1 nw => l1 = [] ∧ ∃ v', v = .tuple #[q, v', u] ∧ OwnS e z v' k xs nw) := zlp hf hb hn ha (wr vs 0) (yS vs) h
theorem QfW {f : FuncId} {fn : Func} {c : Code} {vs : List Value} {b : Nat} {c0 c' : Array Value} {t : TypeId} (hf : Tryz.prog.funcs[f]? = some fn) (h : yc Tryz.prog G c n (zkY b c' t fn) (wr vs 0) [(0, some ⟨b, c0, t⟩)]) (hb : fn.body = some c := by rfl) (hn : fn.ntmps = n := by rfl) (ha : vs.toArray.size ≤ n := by simp) : Fx Tryz.prog G [⟨b, c0, t⟩] f vs.toArray (fun v' l1 nw => v' = .tuple #[] ∧ l1 = [⟨b, c', t⟩] ∧ nw = []) := fxW hf hb hn ha (wr vs 0) (yS vs) h
abbrev Sh (G : Mem) (v : Value) (l : List Nat) : Prop := Shows G 1 v l.length (l.map by8)
abbrev By (l : List Nat) : Prop := ∀ b ∈ l, b < 256
abbrev L8 (n : Nat) (f : Nat → Nat) : Prop := ∀ j, j < n → f j < 256
theorem Ca {f : FuncId} {args : Array Operand} {tys : Array TypeId} {vs : List Value} {v : Value} (hF : Fn Tryz.prog G f vs.toArray v) (hargs : rdl E args.toList = some vs := by rfl) (he : xF Tryz.prog f = true := by exact Un _) (hd : Nat.blt d n = true := by rfl) (hR : yW R = true := by rfl) : (z2 Tryz.prog G R ops n K rest ((d, v) :: E) M) → z2 Tryz.prog G R ops n K (⟨some d, .call ⟨.value (.func f), args, tys⟩, ty, pos, aft, none⟩ :: rest) E M := fun h => z9 hargs he hF hd hR h
theorem Av {l : List Oper} {s : Nat} {v : Value} (v' : Value) (hv : v = v' := by exact rfl) : (z2 Tryz.prog G R ops n K l ((s, v') :: E) M) → z2 Tryz.prog G R ops n K l ((s, v) :: E) M := fun h => z6 hv h
theorem Aa {l : List Oper} {s N : Nat} {k : IntKind} {f g : Nat → Nat} (hv : ∀ j, j < N → f j = g j) : (z2 Tryz.prog G R ops n K l ((s, .agg (arr k N g)) :: E) M) → z2 Tryz.prog G R ops n K l ((s, .agg (arr k N f)) :: E) M := fun h => z6 (congrArg Value.agg (zg hv)) h
theorem Ab {l : List Oper} {s : Nat} {v v' : Bool} (hv : v = v') : (z2 Tryz.prog G R ops n K l ((s, .bool v') :: E) M) → z2 Tryz.prog G R ops n K l ((s, .bool v) :: E) M := fun h => z6 (congrArg Value.bool hv) h
theorem Af {l : List Oper} {s : Nat} {f g : Nat → Nat} (hv : f = g) : (z2 Tryz.prog G R ops n K l ((s, .agg (arr .u8 32 g)) :: E) M) → z2 Tryz.prog G R ops n K l ((s, .agg (arr .u8 32 f)) :: E) M := fun h => z6 (congrArg (fun f => Value.agg (arr .u8 32 f)) hv) h
theorem Ai {l : List Oper} {s : Nat} {p q : Nat} (hv : p = q) : (z2 Tryz.prog G R ops n K l ((s, ii q) :: E) M) → z2 Tryz.prog G R ops n K l ((s, ii p) :: E) M := fun h => z6 (congrArg ii hv) h
theorem Au {l : List Oper} {s : Nat} {p q : Nat} (hv : p = q) : (z2 Tryz.prog G R ops n K l ((s, u q) :: E) M) → z2 Tryz.prog G R ops n K l ((s, u p) :: E) M := fun h => z6 (congrArg u hv) h
theorem Qcm {a b c : Prop} (h : b → a) (e : b = c) : c → a := e ▸ h
theorem Qcd {c : Operand} {p q : Code} {t : Prop} {ht : Decidable t} (hc : rd E c = some (.bool (@decide t ht)) := by rfl) : (t → yc Tryz.prog G p n Q E M) → (¬ t → yc Tryz.prog G q n Q E M) → yc Tryz.prog G (.cond c p q) n Q E M := fun a b => zh hc (fun e => a (of_decide_eq_true e)) (fun e => b (of_decide_eq_false e))
theorem Qct {c : Operand} {p q : Code} (hc : rd E c = some (.bool true) := by rfl) : (yc Tryz.prog G p n Q E M) → yc Tryz.prog G (.cond c p q) n Q E M := fun h => zh hc (fun _ => h) (fun e => by cases e)
theorem Qcf {c : Operand} {p q : Code} (hc : rd E c = some (.bool false) := by rfl) : (yc Tryz.prog G q n Q E M) → yc Tryz.prog G (.cond c p q) n Q E M := fun h => zh hc (fun e => by cases e) (fun _ => h)
theorem ya {t : Nat} {b l : Nat} {c : Array Value} {t' : TypeId} {td : TypeDesc} (i : Nat) (h : lk E t = some (ptr b) := by rfl) (hm : lkM M i = some ⟨b, c, t'⟩ := by rfl) (hT : Tryz.prog.underlying T = some td := by exact Tu rfl) (hn : zy td = true := by rfl) (hs : (Tryz.prog.info? T).map (·.size) = some l := by exact Tz rfl) (hl : c.size = l := by exact (zd _ _ _)) : Res Tryz.prog E M (.cell t T) (.agg c) := .cell h hm hT hn hs hl
theorem yb {t : Nat} {b l : Nat} {c : Array Value} {t' : TypeId} {td : TypeDesc} (i : Nat) (h : lk E t = some (ptr b) := by rfl) (hm : lkM M i = some ⟨b, c, t'⟩ := by rfl) (hT : Tryz.prog.underlying T = some td := by exact Tu rfl) (hn : zy td = true := by rfl) (hs : (Tryz.prog.info? T).map (·.size) = some l := by exact Tz rfl) (hl : c.size = l := by exact (z3 _ _)) : Res Tryz.prog E M (.cell t T) (.agg c) := .cell h hm hT hn hs hl
theorem yt {t : Nat} {v : Value} (h : lk E t = some v := by rfl) : Res Tryz.prog E M (.tmp t) v := h
theorem QW {b : Nat} {l : Nat} {c : Array Value} {c' : Array Value} {t : TypeId} (i : Nat) (hs : (Tryz.prog.info? T).map (·.size) = some l := by exact Tz rfl) (hx : rd E x = some (.pointer (some ⟨b, 0, none⟩)) := by rfl) (hy : rd E y = some (.agg c') := by rfl) (hl : c'.size = l := by exact (z3 _ _)) (hv : ∀ v ∈ c', v.oneCell' = true := by exact YO (by repeat (first | exact trivial | refine ⟨fun _ => rfl, ?_⟩))) (hm : lkM M i = some ⟨b, c, t⟩ := by rfl) (ho : c'.size = c.size := by exact z7) (hX : R.X = [] ∨ b ∈ R.X := by exact (.inl rfl)) (hY : R.Y = none := by rfl) : (z2 Tryz.prog G R ops n K rest E ((i, some ⟨b, c', t⟩) :: M)) → z2 Tryz.prog G R ops n K (⟨none, .store T x y, ty, pos, aft, none⟩ :: rest) E M := fun h_ => z4 (i := i) hs hx hy hl hv hm ho hX h_
theorem Qsa {b : Nat} {o : Nat} {N : Nat} {z : Nat} {e : TypeId} {lo : Option Operand} {hi : Option Operand} {vl : Option Value} {vh : Option Value} (l : Nat) (h : Nat) (hT : Tryz.prog.underlying T = some (.array N e) := by exact Tu rfl) (hs : (Tryz.prog.info? e).map (·.size) = some z := by exact Tz rfl) (hx : rd E x = some (.pointer (some ⟨b, o, none⟩)) := by rfl) (hlo : rdo E lo = some vl := by rfl) (hhi : rdo E hi = some vh := by rfl) (hl : isB vl l 0 := by rfl) (hh : isB vh h N := by rfl) (h1 : l ≤ h := by omega) (h2 : h ≤ N := by omega) (h3 : l < N := by omega) (hd : Nat.blt d n = true := by rfl) : (z2 Tryz.prog G R ops n K rest ((d, .slice (some ⟨b, o + l * z, none⟩) (h - l) (N - l)) :: E) M) → z2 Tryz.prog G R ops n K (⟨some d, .slice T x lo hi none, ty, pos, aft, none⟩ :: rest) E M := fun h_ => xo l h hT hs hx hlo hhi hl hh h1 h2 h3 hd h_
theorem Qls {b : Nat} {o : Nat} {l : Nat} {N : Nat} {k : IntKind} {f : Nat → Nat} {t : TypeId} {td : TypeDesc} (i : Nat) (hT : Tryz.prog.underlying T = some td := by exact Tu rfl) (hn : zy td = true := by rfl) (hs : (Tryz.prog.info? T).map (·.size) = some l := by exact Tz rfl) (hx : rd E x = some (.pointer (some ⟨b, o, none⟩)) := by rfl) (hm : lkM M i = some ⟨b, arr k N f, t⟩ := by rfl) (ho : o + l ≤ N := by omega) (hd : Nat.blt d n = true := by rfl) (hX : ∃ js, v7 M i js R := by exact ⟨[], trivial⟩) : (z2 Tryz.prog G R ops n K rest ((d, .agg (arr k l (fun t => f (o + t)))) :: E) M) → z2 Tryz.prog G R ops n K (⟨some d, .load T x, ty, pos, aft, none⟩ :: rest) E M := fun h_ => zhj (i := i) hT hn hs hx hm ho hd hX h_
theorem Qxw {p : Nat} {q : Nat} (hx : rd E x = some (uw p) := by rfl) (hy : rd E y = some (uw q) := by rfl) (hd : Nat.blt d n = true := by rfl) : (z2 Tryz.prog G R ops n K rest ((d, uw ((p ^^^ q) % 4294967296)) :: E) M) → z2 Tryz.prog G R ops n K (⟨some d, .binOp .xor T x y T', ty, pos, aft, none⟩ :: rest) E M := fun h_ => z46 hx hy hd h_
theorem Qaw {p : Nat} {q : Nat} (hx : rd E x = some (uw p) := by rfl) (hy : rd E y = some (uw q) := by rfl) (hd : Nat.blt d n = true := by rfl) : (z2 Tryz.prog G R ops n K rest ((d, uw ((p + q) % 4294967296)) :: E) M) → z2 Tryz.prog G R ops n K (⟨some d, .binOp .add T x y T', ty, pos, aft, none⟩ :: rest) E M := fun h_ => zhD hx hy hd h_
theorem Qau {p : Nat} {q : Nat} (hx : rd E x = some (u p) := by rfl) (hy : rd E y = some (u q) := by rfl) (hd : Nat.blt d n = true := by rfl) : (z2 Tryz.prog G R ops n K rest ((d, u ((p + q) % 18446744073709551616)) :: E) M) → z2 Tryz.prog G R ops n K (⟨some d, .binOp .add T x y T', ty, pos, aft, none⟩ :: rest) E M := fun h_ => wR hx hy hd h_
theorem Qcw {k : IntKind} {dk : TypeDesc} {p : Nat} (hs : Tryz.prog.underlying T = some dk := by exact Tu rfl) (ht : Tryz.prog.underlying T' = some (.int .u32) := by exact Tu rfl) (hx : rd E x = some (.int k (p : Int)) := by rfl) (hd : Nat.blt d n = true := by rfl) (hv : xv R T T' = 1 := by rfl) : (z2 Tryz.prog G R ops n K rest ((d, uw (p % 4294967296)) :: E) M) → z2 Tryz.prog G R ops n K (⟨some d, .convert T T' x, ty, pos, aft, none⟩ :: rest) E M := fun h_ => z5X hs ht hx hd hv h_
theorem Qci {k : IntKind} {dk : TypeDesc} {p : Nat} (hs : Tryz.prog.underlying T = some dk := by exact Tu rfl) (ht : Tryz.prog.underlying T' = some (.int .i64) := by exact Tu rfl) (hx : rd E x = some (.int k (p : Int)) := by rfl) (hd : Nat.blt d n = true := by rfl) (hv : xv R T T' = 1 := by rfl) (hp : p < 9223372036854775808 := by omega) : (z2 Tryz.prog G R ops n K rest ((d, ii p) :: E) M) → z2 Tryz.prog G R ops n K (⟨some d, .convert T T' x, ty, pos, aft, none⟩ :: rest) E M := fun h_ => zf7 hs ht hx hd hv hp h_
theorem QcS {b : Nat} {o : Nat} {N : Nat} {len : Nat} {cap : Nat} {e : TypeId} {f : Nat → Nat} {t : TypeId} (i : Nat) (hs : Tryz.prog.underlying T = some (.slice e) := by exact Tu rfl) (he : Tryz.prog.underlying e = some (.int .u8) := by exact Tu rfl) (ht : Tryz.prog.underlying T' = some .string := by exact Tu rfl) (hx : rd E x = some (.slice (some ⟨b, o, none⟩) len cap) := by rfl) (hm : lkM M i = some ⟨b, arr .u8 N f, t⟩ := by rfl) (ho : o + len ≤ N := by omega) (hd : Nat.blt d n = true := by rfl) (hq : xv R T T' = 1 := by rfl) (hX : ∃ js, v7 M i js R := by exact ⟨[], trivial⟩) : (z2 Tryz.prog G R ops n K rest ((d, .string (strOfNums ((List.range len).map fun j => (f (o + j) : Int)))) :: E) M) → z2 Tryz.prog G R ops n K (⟨some d, .convert T T' x, ty, pos, aft, none⟩ :: rest) E M := fun h_ => z7X (i := i) hs he ht hx hm ho hd hq hX h_
theorem QlK {b : Nat} {o : Nat} {l : Nat} {N : Nat} {ps : List zW} {t : TypeId} {td : TypeDesc} (i : Nat) (k : Nat) (c : Nat) (hT : Tryz.prog.underlying T = some td := by exact Tu rfl) (hn : zy td = true := by rfl) (hs : (Tryz.prog.info? T).map (·.size) = some l := by exact Tz rfl) (hx : rd E x = some (.pointer (some ⟨b, o, none⟩)) := by rfl) (hm : lkM M i = some ⟨b, cells N ps, t⟩ := by rfl) (ho : o = xb (ps.take k) := by rfl) (hl : l = xb (yZ ps k c) := by rfl) (hN : o + l ≤ N := by exact Nat.le_of_ble_eq_true rfl) (hd : Nat.blt d n = true := by rfl) (hX : ∃ js, v7 M i js R := by exact ⟨[], trivial⟩) : (z2 Tryz.prog G R ops n K rest ((d, .agg (cells l (yZ ps k c))) :: E) M) → z2 Tryz.prog G R ops n K (⟨some d, .load T x, ty, pos, aft, none⟩ :: rest) E M := fun h_ => zkU (i := i) k c hT hn hs hx hm ho hl hN hd hX h_
theorem QtK {b : Nat} {o : Nat} {l : Nat} {N : Nat} {ps : List zW} {qs : List zW} {t : TypeId} (i : Nat) (k : Nat) (c : Nat) (hs : (Tryz.prog.info? T).map (·.size) = some l := by exact Tz rfl) (hx : rd E x = some (.pointer (some ⟨b, o, none⟩)) := by rfl) (hy : rd E y = some (.agg (cells l qs)) := by rfl) (hq : z6e qs := by repeat (first | exact trivial | refine ⟨fun _ => rfl, ?_⟩)) (hm : lkM M i = some ⟨b, cells N ps, t⟩ := by rfl) (ho : o = xb (ps.take k) := by rfl) (hl : l = xb (yZ ps k c) := by rfl) (hl2 : l = xb qs := by rfl) (hN : o + l ≤ N := by exact Nat.le_of_ble_eq_true rfl) (hX : R.X = [] ∨ b ∈ R.X := by exact (.inl rfl)) (hY : R.Y = none := by rfl) : (z2 Tryz.prog G R ops n K rest E ((i, some ⟨b, cells N (ps.take k ++ (qs ++ ps.drop (k + c))), t⟩) :: M)) → z2 Tryz.prog G R ops n K (⟨none, .store T x y, ty, pos, aft, none⟩ :: rest) E M := fun h_ => zkW (i := i) k c hs hx hy hq hm ho hl hl2 hN hX h_
theorem QtC {b : Nat} {o : Nat} {l : Nat} {N : Nat} {kd : IntKind} {f : Nat → Nat} {F : Nat → Value} {ps : List zW} {t : TypeId} (i : Nat) (k : Nat) (hs : (Tryz.prog.info? T).map (·.size) = some l := by exact Tz rfl) (hx : rd E x = some (.pointer (some ⟨b, o, none⟩)) := by rfl) (hy : rd E y = some (.agg (arr kd l f)) := by rfl) (hm : lkM M i = some ⟨b, cells N ps, t⟩ := by rfl) (hk : xe ps k = some (o, l, F) := by rfl) (ho : o + l ≤ N := by decide) (hX : R.X = [] ∨ b ∈ R.X := by exact (.inl rfl)) (hY : R.Y = none := by rfl) : (z2 Tryz.prog G R ops n K rest E ((i, some ⟨b, cells N (wc ps k (fun i => .int kd (f i : Int))), t⟩) :: M)) → z2 Tryz.prog G R ops n K (⟨none, .store T x y, ty, pos, aft, none⟩ :: rest) E M := fun h_ => zle (i := i) k hs hx hy hm hk ho hX h_
theorem QtV {b : Nat} {o : Nat} {N : Nat} {v : Value} {F : Nat → Value} {ps : List zW} {t : TypeId} (i : Nat) (k : Nat) (hs : (Tryz.prog.info? T).map (·.size) = some 1 := by exact Tz rfl) (hx : rd E x = some (.pointer (some ⟨b, o, none⟩)) := by rfl) (hy : rd E y = some v := by rfl) (hv : v.oneCell' = true := by rfl) (hm : lkM M i = some ⟨b, cells N ps, t⟩ := by rfl) (hk : xe ps k = some (o, 1, F) := by rfl) (hN : o < N := by decide) (hX : R.X = [] ∨ b ∈ R.X := by exact (.inl rfl)) (hY : R.Y = none := by rfl) : (z2 Tryz.prog G R ops n K rest E ((i, some ⟨b, cells N (wc ps k (fun _ => v)), t⟩) :: M)) → z2 Tryz.prog G R ops n K (⟨none, .store T x y, ty, pos, aft, none⟩ :: rest) E M := fun h_ => z2K (i := i) k hs hx hy hv hm hk hN hX h_
abbrev NN := Nat → Nat
abbrev LN := List Nat
abbrev m64 := 18446744073709551615
abbrev Fp := Fn Tryz.prog
abbrev Fq := Fx Tryz.prog
abbrev R1 (e : TypeId) (l : List Nat) : Value → Mem → Mem → Prop := fun v l1 nw => l1 = [] ∧ ∃ v', v = v' ∧ OwnS e 1 v' l.length (l.map by8) nw
abbrev R2 (e : TypeId) (l : List Nat) : Value → Mem → Mem → Prop := fun v l1 nw => l1 = [] ∧ ∃ v', v = .tuple #[v', ii 0] ∧ OwnS e 1 v' l.length (l.map by8) nw
theorem g3 {a b c : Prop} (h : b → a := by exact Qcm (Qa) rfl) (g : c → b := by exact Qcm Qn rfl) : c → a := fun x => h (g x)
theorem g4 {a b c : Prop} (h : b → a := by exact Qcm Qs rfl) (g : c → b := by exact Qcm Qp rfl) : c → a := fun x => h (g x)
theorem g5 {a b c : Prop} (h : b → a := by exact Qcm (Qo) rfl) (g : c → b := by exact Qcm (Qo) rfl) : c → a := fun x => h (g x)
theorem g6 {a b c : Prop} (h : b → a := by exact Qcm (g4) rfl) (g : c → b := by exact Qcm (Qm) rfl) : c → a := fun x => h (g x)
theorem g7 {a b c : Prop} (h : b → a := by exact Qcm (Qm) rfl) (g : c → b := by exact Qcm (Qy) rfl) : c → a := fun x => h (g x)
theorem g8 {a b c : Prop} (h : b → a := by exact Qcm (Qa) rfl) (g : c → b := by exact Qcm (g3) rfl) : c → a := fun x => h (g x)
theorem g9 {a b c : Prop} (h : b → a := by exact Qcm (Q2 1) rfl) (g : c → b := by exact Qcm (Qm) rfl) : c → a := fun x => h (g x)
theorem ga {a b c : Prop} (h : b → a := by exact Qcm (Qx) rfl) (g : c → b := by exact Qcm (Qx) rfl) : c → a := fun x => h (g x)
theorem gb {a b c : Prop} (h : b → a := by exact Qcm (Qm) rfl) (g : c → b := by exact Qcm (Qm) rfl) : c → a := fun x => h (g x)
theorem gc {a b c : Prop} (h : b → a := by exact Qcm (g4) rfl) (g : c → b := by exact Qcm (QD 0) rfl) : c → a := fun x => h (g x)
theorem gd {a b c : Prop} (h : b → a := by exact Qcm (g4) rfl) (g : c → b := by exact Qcm (g3) rfl) : c → a := fun x => h (g x)
theorem ge {a b c : Prop} (h : b → a := by exact Qcm Qs rfl) (g : c → b := by exact Qcm (g6) rfl) : c → a := fun x => h (g x)
theorem gf {a b c : Prop} (h : b → a := by exact Qcm (g4) rfl) (g : c → b := by exact Qcm (Ql) rfl) : c → a := fun x => h (g x)
theorem gg {a b c : Prop} (h : b → a := by exact Qcm (g5) rfl) (g : c → b := by exact Qcm (g5) rfl) : c → a := fun x => h (g x)
theorem gh {a b c : Prop} (h : b → a := by exact Qcm Qn rfl) (g : c → b := by exact Qcm (Qcf) rfl) : c → a := fun x => h (g x)
theorem gi {a b c : Prop} (h : b → a := by exact Qcm (Qm) rfl) (g : c → b := by exact Qcm (ga) rfl) : c → a := fun x => h (g x)
theorem gj {a b c : Prop} (h : b → a := by exact Qcm Qp rfl) (g : c → b := by exact Qcm (g9) rfl) : c → a := fun x => h (g x)
theorem gk {a b c : Prop} (h : b → a := by exact Qcm (gj) rfl) (g : c → b := by exact Qcm Qn rfl) : c → a := fun x => h (g x)
theorem gl {a b c : Prop} (h : b → a := by exact Qcm Qn rfl) (g : c → b := by exact Qcm (g4) rfl) : c → a := fun x => h (g x)
theorem gm {a b c : Prop} (h : b → a := by exact Qcm (g7) rfl) (g : c → b := by exact Qcm (g7) rfl) : c → a := fun x => h (g x)
theorem gn {a b c : Prop} (h : b → a := by exact Qcm (gh) rfl) (g : c → b := by exact Qcm Qk rfl) : c → a := fun x => h (g x)
theorem go {a b c : Prop} (h : b → a := by exact Qcm (g3) rfl) (g : c → b := by exact Qcm (g6) rfl) : c → a := fun x => h (g x)
theorem gp {a b c : Prop} (h : b → a := by exact Qcm (gf) rfl) (g : c → b := by exact Qcm Qn rfl) : c → a := fun x => h (g x)
theorem gq {a b c : Prop} (h : b → a := by exact Qcm (gp) rfl) (g : c → b := by exact Qcm Qs rfl) : c → a := fun x => h (g x)
theorem gr {a b c : Prop} (h : b → a := by exact Qcm Qs rfl) (g : c → b := by exact Qcm (Qg) rfl) : c → a := fun x => h (g x)
theorem gs {a b c : Prop} (h : b → a := by exact Qcm Qs rfl) (g : c → b := by exact Qcm (g4) rfl) : c → a := fun x => h (g x)
theorem gt {a b c : Prop} (h : b → a := by exact Qcm (g3) rfl) (g : c → b := by exact Qcm Qr rfl) : c → a := fun x => h (g x)
theorem gu {a b c : Prop} (h : b → a := by exact Qcm Qn rfl) (g : c → b := by exact Qcm (Qct) rfl) : c → a := fun x => h (g x)
theorem gv {a b c : Prop} (h : b → a := by exact Qcm (Qi) rfl) (g : c → b := by exact Qcm (Q1 0) rfl) : c → a := fun x => h (g x)
theorem gw {a b c : Prop} (h : b → a := by exact Qcm (Qaf) rfl) (g : c → b := by exact Qcm (gn) rfl) : c → a := fun x => h (g x)
theorem gx {a b c : Prop} (h : b → a := by exact Qcm (g5) rfl) (g : c → b := by exact Qcm (Qo) rfl) : c → a := fun x => h (g x)
theorem gy {a b c : Prop} (h : b → a := by exact Qcm (g8) rfl) (g : c → b := by exact Qcm Qr rfl) : c → a := fun x => h (g x)
theorem gz {a b c : Prop} (h : b → a := by exact Qcm (Qf 9) rfl) (g : c → b := by exact Qcm (QlK 0 9 5) rfl) : c → a := fun x => h (g x)
theorem j0 {a b c : Prop} (h : b → a := by exact Qcm Qp rfl) (g : c → b := by exact Qcm (Qm) rfl) : c → a := fun x => h (g x)
theorem j1 {a b c : Prop} (h : b → a := by exact Qcm (Qf 9) rfl) (g : c → b := by exact Qcm (QtK 0 9 5) rfl) : c → a := fun x => h (g x)
theorem j3 {a b c : Prop} (h : b → a := by exact Qcm (g8) rfl) (g : c → b := by exact Qcm (ge) rfl) : c → a := fun x => h (g x)
theorem j4 {a b c : Prop} (h : b → a := by exact Qcm (gd) rfl) (g : c → b := by exact Qcm Qr rfl) : c → a := fun x => h (g x)
theorem j5 {a b c : Prop} (h : b → a := by exact Qcm (Qf 72) rfl) (g : c → b := by exact Qcm (QV 2 0) rfl) : c → a := fun x => h (g x)
theorem j6 {a b c : Prop} (h : b → a := by exact Qcm (Qm) rfl) (g : c → b := by exact Qcm (gg) rfl) : c → a := fun x => h (g x)
theorem j7 {a b c : Prop} (h : b → a := by exact Qcm (Qy) rfl) (g : c → b := by exact Qcm (QV 4 0) rfl) : c → a := fun x => h (g x)
theorem j8 {a b c : Prop} (h : b → a := by exact Qcm (Qf 0) rfl) (g : c → b := by exact Qcm (Qv 0 0) rfl) : c → a := fun x => h (g x)
theorem j9 {a b c : Prop} (h : b → a := by exact Qcm (g3) rfl) (g : c → b := by exact Qcm (g4) rfl) : c → a := fun x => h (g x)
theorem ja {a b c : Prop} (h : b → a := by exact Qcm (Qt 1) rfl) (g : c → b := by exact Qcm Qn rfl) : c → a := fun x => h (g x)
theorem jb {a b c : Prop} (h : b → a := by exact Qcm (g3) rfl) (g : c → b := by exact Qcm (gk) rfl) : c → a := fun x => h (g x)
theorem jc {a b c : Prop} (h : b → a := by exact Qcm Qn rfl) (g : c → b := by exact Qcm (gk) rfl) : c → a := fun x => h (g x)
theorem jd {a b c : Prop} (h : b → a := by exact Qcm (Qf 5) rfl) (g : c → b := by exact Qcm (QV 5 0) rfl) : c → a := fun x => h (g x)
theorem je {a b c : Prop} (h : b → a := by exact Qcm (ge) rfl) (g : c → b := by exact Qcm Qn rfl) : c → a := fun x => h (g x)
theorem jf {a b c : Prop} (h : b → a := by exact Qcm Qn rfl) (g : c → b := by exact Qcm (gr) rfl) : c → a := fun x => h (g x)
theorem jg {a b c : Prop} (h : b → a := by exact Qcm (je) rfl) (g : c → b := by exact Qcm Qb rfl) : c → a := fun x => h (g x)
theorem jh {a b c : Prop} (h : b → a := by exact Qcm (Qf 23) rfl) (g : c → b := by exact Qcm (j7) rfl) : c → a := fun x => h (g x)
theorem ji {a b c : Prop} (h : b → a := by exact Qcm (Qi) rfl) (g : c → b := by exact Qcm (Qu 0) rfl) : c → a := fun x => h (g x)
theorem jj {a b c : Prop} (h : b → a := by exact Qcm (Qf 0) rfl) (g : c → b := by exact Qcm (QV 0 0) rfl) : c → a := fun x => h (g x)
theorem jk {a b c : Prop} (h : b → a := by exact Qcm (gi) rfl) (g : c → b := by exact Qcm (Qx) rfl) : c → a := fun x => h (g x)
theorem jl {a b c : Prop} (h : b → a := by exact Qcm (Q1 3) rfl) (g : c → b := by exact Qcm (Qm) rfl) : c → a := fun x => h (g x)
theorem jm {a b c : Prop} (h : b → a := by exact Qcm Qb rfl) (g : c → b := by exact Qcm (g6) rfl) : c → a := fun x => h (g x)
theorem jn {a b c : Prop} (h : b → a := by exact Qcm Qe rfl) (g : c → b := by exact Qcm (g4) rfl) : c → a := fun x => h (g x)
theorem jo {a b c : Prop} (h : b → a := by exact Qcm (Qd 0) rfl) (g : c → b := by exact Qcm (Qd 1) rfl) : c → a := fun x => h (g x)
theorem jp {a b c : Prop} (h : b → a := by exact Qcm Qs rfl) (g : c → b := by exact Qcm (jm) rfl) : c → a := fun x => h (g x)
theorem jq {a b c : Prop} (h : b → a := by exact Qcm Qk rfl) (g : c → b := by exact Qcm (jp) rfl) : c → a := fun x => h (g x)
theorem jr {a b c : Prop} (h : b → a := by exact Qcm (go) rfl) (g : c → b := by exact Qcm (QN) rfl) : c → a := fun x => h (g x)
end Go.Proofs.YtlidhfijmcelpaaGreatDoor
attribute [local simp] Go.Proofs.YtlidhfijmcelpaaGreatDoor.By Go.Proofs.YtlidhfijmcelpaaGreatDoor.L8
namespace Go.Proofs.YtlidhfijmcelpaaGreatDoor
open Go Go.RowKit
theorem zkz : Tryz.prog.eqGuardType Tryz.prog.depth 23 = false := by kernel_rfl
theorem z0Y : Tryz.prog.eqGuardType Tryz.prog.depth 30 = false := by kernel_rfl
theorem zfw : Tryz.prog.eqGuardType Tryz.prog.depth 33 = false := by kernel_rfl
theorem vU : Tryz.prog.eqGuardType Tryz.prog.depth 244 = false := by kernel_rfl
theorem zfp : Tryz.prog.eqGuardType Tryz.prog.depth 245 = false := by kernel_rfl
theorem vL (w : World) : (((#[.mk "Has" 4 0 false "" "" 0, .mk "Key" 30 1 false "" "" 1, .mk "N" 31 33 false "" "" 40] : Array Field).mapM fun f => do pure (f.offset, ← sizeOf f.type) : Sem (Array (Nat × Nat)))).run Tryz.prog w = .ok #[(0, 1), (1, 32), (33, 1)] w := wL (l := [(0, 1), (1, 32), (33, 1)]) (by kernel_rfl) w
theorem z0s (w : World) : (((#[.mk "Cipher" 33 0 false "" "" 0, .mk "Chain" 30 34 false "" "" 48, .mk "Hash" 30 66 false "" "" 80] : Array Field).mapM fun f => do pure (f.offset, ← sizeOf f.type) : Sem (Array (Nat × Nat)))).run Tryz.prog w = .ok #[(0, 34), (34, 32), (66, 32)] w := wL (l := [(0, 34), (34, 32), (66, 32)]) (by kernel_rfl) w
theorem z3B (w : World) : (((#[.mk "H" 110 0 false "" "" 0, .mk "Held" 111 8 false "" "" 32, .mk "N" 3 72 false "" "" 96, .mk "Len" 3 73 false "" "" 104] : Array Field).mapM fun f => do pure (f.offset, ← sizeOf f.type) : Sem (Array (Nat × Nat)))).run Tryz.prog w = .ok #[(0, 8), (8, 64), (72, 1), (73, 1)] w := wL (l := [(0, 8), (8, 64), (72, 1), (73, 1)]) (by kernel_rfl) w
theorem z2Y (w : World) : (((#[.mk "x" 120 0 false "" "signet/signetref" 0, .mk "z" 120 16 false "" "signet/signetref" 128] : Array Field).mapM fun f => do pure (f.offset, ← sizeOf f.type) : Sem (Array (Nat × Nat)))).run Tryz.prog w = .ok #[(0, 16), (16, 16)] w := wL (l := [(0, 16), (16, 16)]) (by kernel_rfl) w
theorem zeb (w : World) : (((#[.mk "who" 3 0 false "" "signet/signetref" 0, .mk "token" 3 1 false "" "signet/signetref" 8] : Array Field).mapM fun f => do pure (f.offset, ← sizeOf f.type) : Sem (Array (Nat × Nat)))).run Tryz.prog w = .ok #[(0, 1), (1, 1)] w := wL (l := [(0, 1), (1, 1)]) (by kernel_rfl) w
theorem zfC (w : World) : (((#[.mk "R" 244 0 false "" "" 0, .mk "Pad" 244 2 false "" "" 16, .mk "Acc" 245 4 false "" "" 32, .mk "Held" 213 7 false "" "" 56, .mk "N" 3 23 false "" "" 72] : Array Field).mapM fun f => do pure (f.offset, ← sizeOf f.type) : Sem (Array (Nat × Nat)))).run Tryz.prog w = .ok #[(0, 2), (2, 2), (4, 3), (7, 16), (23, 1)] w := wL (l := [(0, 2), (2, 2), (4, 3), (7, 16), (23, 1)]) (by kernel_rfl) w
theorem z5u : ((Tryz.prog.info? 5).map (·.size)).isSome = true := by kernel_rfl
theorem zkA : ((Tryz.prog.info? 31).map (·.size)).isSome = true := by kernel_rfl
theorem z3A : Tryz.prog.underlying 33 = some (.struct #[.mk "Has" 4 0 false "" "" 0, .mk "Key" 30 1 false "" "" 1, .mk "N" 31 33 false "" "" 40]) := by kernel_rfl
theorem z0S : Tryz.prog.underlying 4 = some (.bool) := by kernel_rfl
theorem vA : Tryz.prog.underlying 30 = some (.array 32 5) := by kernel_rfl
theorem W4 : (Tryz.prog.info? 30).map (·.size) = some 32 := by kernel_rfl
theorem z3w : Tryz.prog.underlying 5 = some (.int .u8) := by kernel_rfl
theorem z3f : (Tryz.prog.info? 5).map (·.size) = some 1 := by kernel_rfl
theorem Wh : Tryz.prog.underlying 31 = some (.int .u64) := by kernel_rfl
theorem zeR {f0 g0 : Bool} {f1 g1 : NN} {f2 g2 : Int} : Eqv Tryz.prog 10000 33 (.agg (cells 34 [pV (.bool f0), pI .u8 32 f1, pV (.int .u64 f2)])) (.agg (cells 34 [pV (.bool g0), pI .u8 32 g1, pV (.int .u64 g2)])) ([(f0 == g0), zO 32 f1 g1, (f2 == g2)].all id) := z73 z3A (by kernel_rfl) ⟨⟨by decide, _, _, vD (k := 0) z0S rfl rfl rfl (Nat.le_of_ble_eq_true rfl), vD (k := 0) z0S rfl rfl rfl (Nat.le_of_ble_eq_true rfl), zdi z0S⟩, ⟨by decide, _, _, Zq (k := 1) vA rfl W4 rfl rfl (Nat.le_of_ble_eq_true rfl), Zq (k := 1) vA rfl W4 rfl rfl (Nat.le_of_ble_eq_true rfl), zgR vA z3w z3f⟩, ⟨by decide, _, _, vD (k := 2) Wh rfl rfl rfl (Nat.le_of_ble_eq_true rfl), vD (k := 2) Wh rfl rfl rfl (Nat.le_of_ble_eq_true rfl), zgM Wh⟩, trivial⟩
theorem zkh : Tryz.prog.eqGuardType Tryz.prog.depth 35 = false := by kernel_rfl
theorem zgw : Tryz.prog.underlying 35 = some (.struct #[.mk "Cipher" 33 0 false "" "" 0, .mk "Chain" 30 34 false "" "" 48, .mk "Hash" 30 66 false "" "" 80]) := by kernel_rfl
theorem zgq : (Tryz.prog.info? 33).map (·.size) = some 34 := by kernel_rfl
theorem zkT {f0 : Bool} {f1 : NN} {f2 : Int} {f3 : NN} {f4 : NN} : z5B Tryz.prog 10000 35 (.agg (cells 98 [pV (.bool f0), pI .u8 32 f1, pV (.int .u64 f2), pI .u8 32 f3, pI .u8 32 f4])) := (Vm zgw (by kernel_rfl) (List.forall_mem_cons.2 ⟨⟨_, z9T (k := 0) (c := 3) z3A rfl zgq rfl rfl rfl (Nat.le_of_ble_eq_true rfl), (Vm z3A (by kernel_rfl) (List.forall_mem_cons.2 ⟨⟨_, vD (k := 0) z0S rfl rfl rfl (Nat.le_of_ble_eq_true rfl), z9M z0S⟩, (List.forall_mem_cons.2 ⟨⟨_, Zq (k := 1) vA rfl W4 rfl rfl (Nat.le_of_ble_eq_true rfl), z0w vA z3w z3f⟩, (List.forall_mem_cons.2 ⟨⟨_, vD (k := 2) Wh rfl rfl rfl (Nat.le_of_ble_eq_true rfl), zei Wh⟩, (fun _ h => by cases h)⟩)⟩)⟩))⟩, (List.forall_mem_cons.2 ⟨⟨_, Zq (k := 3) vA rfl W4 rfl rfl (Nat.le_of_ble_eq_true rfl), z0w vA z3w z3f⟩, (List.forall_mem_cons.2 ⟨⟨_, Zq (k := 4) vA rfl W4 rfl rfl (Nat.le_of_ble_eq_true rfl), z0w vA z3w z3f⟩, (fun _ h => by cases h)⟩)⟩)⟩))
variable {G : Mem}
theorem zbZ (b : LN) (l : Bool) (vp v0 v1 vt : Value) (fi : Bool) (tn : Int) (dd : Bool) (y : SY) (r : RS) (ow : NN) (vk : Value) (us : Int) (t : Nat) : Fp G 57 #[.agg (shC b l vp v0 v1 vt fi tn dd y ow r vk us), ii t] (.tuple #[.agg (arr .u8 32 (YB fi ow r t)), .agg (arr .u8 32 (Ze fi r t)), .bool (XC fi r t && Yb fi r t)]) := by
 refine Qf3 Tryz.func57 ?_
 refine (g4)<|(Qh 0) fun r1=>(QH 1) fun r2=>(QH 2) fun r3=>(j9) ?_
 refine yd [(0, _), (1, _), (2, _), (4, _), (5, _), (6, _)] [(7, .bool (Zx fi t))] [(0, some _), (1, some _), (2, some _)] ⟨rfl, rfl, rfl, rfl, rfl, rfl, trivial⟩ ⟨rfl, rfl, rfl, trivial⟩ ?_ ?_
 ·skip
  refine (Qm)<|(Qc)<|(Qm) ?_
  refine zn (b := decide ((t : Int) = 6)) (fun hb0 => ?_) (fun hb0 => ?_)
  ·skip
   refine (gx)<|(Qw)<|(Qw)<|(Qo)<|(QT)<|(Qm)<|(gx)<|(Qw)<|(Qw)<|(Qw)<|(Qo)<|(QT)<|(g3) ?_
   exact ⟨⟨rfl, rfl, rfl, rfl, rfl, rfl, trivial⟩, ⟨z5 (by rw [Zx, hb0] <;> rfl), trivial⟩, ⟨rfl, rfl, rfl, trivial⟩⟩
  ·skip
   refine (Qy)<|(g7)<|(Qc)<|(Qy)<|(Qm) ?_
   refine zn (b := decide ((t : Int) = 5)) (fun hb1 => ?_) (fun hb1 => ?_)
   ·skip
    refine (Qy)<|(Qf 6)<|(Qy)<|(QV 6 0)<|(Qy)<|(QT)<|(QF)<|(Qm) ?_
    refine zn (fun hb2 => ?_) (fun hb2 => ?_)
    ·skip
     refine (gx)<|(Qw)<|(Qw)<|(Qw)<|(Qo)<|(QT)<|(g3) ?_
     exact ⟨⟨rfl, rfl, rfl, rfl, rfl, rfl, trivial⟩, ⟨z5 (by rw [Zx, hb0, hb1, hb2] <;> rfl), trivial⟩, ⟨rfl, rfl, rfl, trivial⟩⟩
    ·skip
     refine (Qy)<|(g7)<|(Qc)<|(Qy)<|(Qm) ?_
     refine zn (b := decide ((t : Int) = 4)) (fun hb3 => ?_) (fun hb3 => ?_)
     ·skip
      refine (Qy)<|(Qf 6)<|(Qy)<|(QV 6 0)<|(Qy)<|(Q0)<|(Qy)<|(QT)<|(QF)<|(g3) ?_
      exact ⟨⟨rfl, rfl, rfl, rfl, rfl, rfl, trivial⟩, ⟨z5 (by rw [Zx, hb0, hb1, hb2, hb3] <;> rfl), trivial⟩, ⟨rfl, rfl, rfl, trivial⟩⟩
     ·skip
      refine (gx)<|(Qy)<|(QF)<|(QF)<|(g3) ?_
      exact ⟨⟨rfl, rfl, rfl, rfl, rfl, rfl, trivial⟩, ⟨z5 (by rw [Zx, hb0, hb1, hb2, hb3] <;> rfl), trivial⟩, ⟨rfl, rfl, rfl, trivial⟩⟩
   ·skip
    refine (g5)<|(Qy)<|(QF)<|(QF)<|(gm)<|(Qc)<|(Qy)<|(Qm) ?_
    refine zn (b := decide ((t : Int) = 4)) (fun hb4 => ?_) (fun hb4 => ?_)
    ·skip
     refine (Qy)<|(Qf 6)<|(Qy)<|(QV 6 0)<|(Qy)<|(Q0)<|(Qy)<|(QT)<|(QF)<|(g3) ?_
     exact ⟨⟨rfl, rfl, rfl, rfl, rfl, rfl, trivial⟩, ⟨z5 (by rw [Zx, hb0, hb1, hb4] <;> rfl), trivial⟩, ⟨rfl, rfl, rfl, trivial⟩⟩
    ·skip
     refine (gx)<|(Qy)<|(QF)<|(QF)<|(g3) ?_
     exact ⟨⟨rfl, rfl, rfl, rfl, rfl, rfl, trivial⟩, ⟨z5 (by rw [Zx, hb0, hb1, hb4] <;> rfl), trivial⟩, ⟨rfl, rfl, rfl, trivial⟩⟩
 ·simp only [zo]
  refine (g4) ?_
  refine yd [(0, _), (1, _), (2, _), (4, _), (5, _), (6, _), (7, _)] [(8, .bool (Vy fi t))] [(0, some _), (1, some _), (2, some _)] ⟨rfl, rfl, rfl, rfl, rfl, rfl, rfl, trivial⟩ ⟨rfl, rfl, rfl, trivial⟩ ?_ ?_
  ·skip
   refine (Qm)<|(Qc)<|(Qm) ?_
   refine zn (b := decide ((t : Int) = 6)) (fun hb5 => ?_) (fun hb5 => ?_)
   ·skip
    refine (gx)<|(Qw)<|(Qw)<|(Qo)<|(QT)<|(Qm)<|(gx)<|(Qw)<|(Qw)<|(Qw)<|(Qo)<|(QT)<|(g3) ?_
    exact ⟨⟨rfl, rfl, rfl, rfl, rfl, rfl, rfl, trivial⟩, ⟨z5 (by rw [Vy, hb5] <;> rfl), trivial⟩, ⟨rfl, rfl, rfl, trivial⟩⟩
   ·skip
    refine (Qy)<|(g7)<|(Qc)<|(Qy)<|(Qm) ?_
    refine zn (b := decide ((t : Int) = 4)) (fun hb6 => ?_) (fun hb6 => ?_)
    ·skip
     refine (Qy)<|(Qf 6)<|(Qy)<|(QV 6 0)<|(Qy)<|(QT)<|(QF)<|(Qm) ?_
     refine zn (fun hb7 => ?_) (fun hb7 => ?_)
     ·skip
      refine (gx)<|(Qw)<|(Qw)<|(Qw)<|(Qo)<|(QT)<|(g3) ?_
      exact ⟨⟨rfl, rfl, rfl, rfl, rfl, rfl, rfl, trivial⟩, ⟨z5 (by rw [Vy, hb5, hb6, hb7] <;> rfl), trivial⟩, ⟨rfl, rfl, rfl, trivial⟩⟩
     ·skip
      refine (Qy)<|(g7)<|(Qc)<|(Qy)<|(Qm) ?_
      refine zn (b := decide ((t : Int) = 5)) (fun hb8 => ?_) (fun hb8 => ?_)
      ·skip
       refine (Qy)<|(Qf 6)<|(Qy)<|(QV 6 0)<|(Qy)<|(Q0)<|(Qy)<|(QT)<|(QF)<|(g3) ?_
       exact ⟨⟨rfl, rfl, rfl, rfl, rfl, rfl, rfl, trivial⟩, ⟨z5 (by rw [Vy, hb5, hb6, hb7, hb8] <;> rfl), trivial⟩, ⟨rfl, rfl, rfl, trivial⟩⟩
      ·skip
       refine (gx)<|(Qy)<|(QF)<|(QF)<|(g3) ?_
       exact ⟨⟨rfl, rfl, rfl, rfl, rfl, rfl, rfl, trivial⟩, ⟨z5 (by rw [Vy, hb5, hb6, hb7, hb8] <;> rfl), trivial⟩, ⟨rfl, rfl, rfl, trivial⟩⟩
    ·skip
     refine (g5)<|(Qy)<|(QF)<|(QF)<|(gm)<|(Qc)<|(Qy)<|(Qm) ?_
     refine zn (b := decide ((t : Int) = 5)) (fun hb9 => ?_) (fun hb9 => ?_)
     ·skip
      refine (Qy)<|(Qf 6)<|(Qy)<|(QV 6 0)<|(Qy)<|(Q0)<|(Qy)<|(QT)<|(QF)<|(g3) ?_
      exact ⟨⟨rfl, rfl, rfl, rfl, rfl, rfl, rfl, trivial⟩, ⟨z5 (by rw [Vy, hb5, hb6, hb9] <;> rfl), trivial⟩, ⟨rfl, rfl, rfl, trivial⟩⟩
     ·skip
      refine (gx)<|(Qy)<|(QF)<|(QF)<|(g3) ?_
      exact ⟨⟨rfl, rfl, rfl, rfl, rfl, rfl, rfl, trivial⟩, ⟨z5 (by rw [Vy, hb5, hb6, hb9] <;> rfl), trivial⟩, ⟨rfl, rfl, rfl, trivial⟩⟩
  ·simp only [zo]
   refine Qs ?_
   cases hl1 : Zx fi t
   ·skip
    refine (Qq ⟨[], 1, [], (some [r1]), (some (4, r2))⟩)<|(Qf 139) ?_
    refine X1 (i := 0) 15 (Uu 30) rfl (Uz 30) rfl rfl rfl (by decide) rfl ⟨[], trivial, _, rfl, by simp⟩ ?_
    refine (Qf 171) ?_
    refine Za (i := 0) 16 (Uu 4) rfl rfl rfl rfl (by decide) rfl ⟨[], trivial, _, rfl, by simp⟩ ?_
    refine (QH 3) fun r4=>?_
    refine YJ (i := 3) (Uz 30) rfl rfl (zd _ _ _) zU rfl (yg _ _ _ _ _) rfl ⟨[0], rfl, rfl, trivial⟩ (z93 1 rfl (by decide) rfl (by decide)) ?_
    refine (g3)<|(ge)<|(gh) ?_
    rw [show YB fi ow r t = r.1 by rw [YB, hl1]; rfl, show XC fi r t = r.2.1 by rw [XC, hl1]; rfl]
    refine Qk<|Qs<|(Qq ⟨[], 1, [], (some [r1]), (some (4, r2))⟩)<|(Qf 205) ?_
    refine X1 (i := 0) 19 (Uu 30) rfl (Uz 30) rfl rfl rfl (by decide) rfl ⟨[], trivial, _, rfl, by simp⟩ ?_
    refine (Qf 237) ?_
    refine Za (i := 0) 20 (Uu 4) rfl rfl rfl rfl (by decide) rfl ⟨[], trivial, _, rfl, by simp⟩ ?_
    refine (QH 4) fun r5=>?_
    refine YJ (i := 4) (Uz 30) rfl rfl (zd _ _ _) zU rfl (yg _ _ _ _ _) rfl ⟨[0], rfl, rfl, trivial⟩ (z93 1 rfl (by decide) rfl (by decide)) ?_
    refine (g3)<|(je) ?_
    refine zh rfl ?_ ?_
    ·intro hc1
     have ht1 := hc1
     rw [show Ze fi r t = r.2.2.1 by rw [Ze, ht1]; rfl, show Yb fi r t = r.2.2.2.1 by rw [Yb, ht1]; rfl]
     refine (Qq ⟨[r5], 1, [], none, none⟩)<|(Qf 172) ?_
     refine X1 (i := 0) 17 (Uu 30) rfl (Uz 30) rfl rfl rfl (by decide) rfl ⟨[4], rfl, rfl, trivial⟩ ?_
     refine (Qf 204) ?_
     refine Za (i := 0) 18 (Uu 4) rfl rfl rfl rfl (by decide) rfl ⟨[4], rfl, rfl, trivial⟩ ?_
     refine z4 (i := 4) (Uz 30) rfl rfl (zd _ _ _) zU rfl (yg _ _ _ _ _) (.inr (by simp)) ?_
     refine (g3)<|Qs ?_
     cases hh9 : r.2.1
     ·skip
      refine (Qq ⟨[r2, r3], 1, [], none, none⟩) ?_
      refine zV (i := 3) (Uu 30) rfl (Uz 30) rfl rfl (zd _ _ _) rfl ⟨[1, 2], rfl, rfl, rfl, rfl, trivial⟩ ?_
      refine zV (i := 4) (Uu 30) rfl (Uz 30) rfl rfl (zd _ _ _) rfl ⟨[1, 2], rfl, rfl, rfl, rfl, trivial⟩ ?_
      refine (gb)<|(Qo)<|(QF) ?_
      refine z4 (i := 1) (Uz 30) rfl rfl (zd _ _ _) zU rfl (yg _ _ _ _ _) (.inr (by simp)) ?_
      refine z4 (i := 2) (Uz 30) rfl rfl (zd _ _ _) zU rfl (yg _ _ _ _ _) (.inr (by simp)) ?_
      refine (gt) ?_
      exact ⟨_, _, _, rfl, ya 1, ya 2, yt⟩
     ·skip
      refine (Qq ⟨[r2, r3], 1, [], none, none⟩) ?_
      refine zV (i := 3) (Uu 30) rfl (Uz 30) rfl rfl (zd _ _ _) rfl ⟨[1, 2], rfl, rfl, rfl, rfl, trivial⟩ ?_
      refine zV (i := 4) (Uu 30) rfl (Uz 30) rfl rfl (zd _ _ _) rfl ⟨[1, 2], rfl, rfl, rfl, rfl, trivial⟩ ?_
      refine (Qm)<|(g7)<|(Qm)<|(QT) ?_
      refine z4 (i := 1) (Uz 30) rfl rfl (zd _ _ _) zU rfl (yg _ _ _ _ _) (.inr (by simp)) ?_
      refine z4 (i := 2) (Uz 30) rfl rfl (zd _ _ _) zU rfl (yg _ _ _ _ _) (.inr (by simp)) ?_
      refine (gt) ?_
      exact ⟨_, _, _, rfl, ya 1, ya 2, yt⟩
    ·intro hc1
     have ht1 := hc1
     rw [show Ze fi r t = r.2.2.2.2.1 by rw [Ze, ht1]; rfl, show Yb fi r t = r.2.2.2.2.2 by rw [Yb, ht1]; rfl]
     refine Qk<|Qs ?_
     cases hh9 : r.2.1
     ·skip
      refine (Qq ⟨[r2, r3], 1, [], none, none⟩) ?_
      refine zV (i := 3) (Uu 30) rfl (Uz 30) rfl rfl (zd _ _ _) rfl ⟨[1, 2], rfl, rfl, rfl, rfl, trivial⟩ ?_
      refine zV (i := 4) (Uu 30) rfl (Uz 30) rfl rfl (zd _ _ _) rfl ⟨[1, 2], rfl, rfl, rfl, rfl, trivial⟩ ?_
      refine (gb)<|(Qo)<|(QF) ?_
      refine z4 (i := 1) (Uz 30) rfl rfl (zd _ _ _) zU rfl (yg _ _ _ _ _) (.inr (by simp)) ?_
      refine z4 (i := 2) (Uz 30) rfl rfl (zd _ _ _) zU rfl (yg _ _ _ _ _) (.inr (by simp)) ?_
      refine (gt) ?_
      exact ⟨_, _, _, rfl, ya 1, ya 2, yt⟩
     ·skip
      refine (Qq ⟨[r2, r3], 1, [], none, none⟩) ?_
      refine zV (i := 3) (Uu 30) rfl (Uz 30) rfl rfl (zd _ _ _) rfl ⟨[1, 2], rfl, rfl, rfl, rfl, trivial⟩ ?_
      refine zV (i := 4) (Uu 30) rfl (Uz 30) rfl rfl (zd _ _ _) rfl ⟨[1, 2], rfl, rfl, rfl, rfl, trivial⟩ ?_
      refine (Qm)<|(g7)<|(Qm)<|(QT) ?_
      refine z4 (i := 1) (Uz 30) rfl rfl (zd _ _ _) zU rfl (yg _ _ _ _ _) (.inr (by simp)) ?_
      refine z4 (i := 2) (Uz 30) rfl rfl (zd _ _ _) zU rfl (yg _ _ _ _ _) (.inr (by simp)) ?_
      refine (gt) ?_
      exact ⟨_, _, _, rfl, ya 1, ya 2, yt⟩
   ·skip
    refine (Qq ⟨[], 1, [], (some [r1]), (some (4, r2))⟩)<|(Qf 139) ?_
    refine X1 (i := 0) 15 (Uu 30) rfl (Uz 30) rfl rfl rfl (by decide) rfl ⟨[], trivial, _, rfl, by simp⟩ ?_
    refine (Qf 171) ?_
    refine Za (i := 0) 16 (Uu 4) rfl rfl rfl rfl (by decide) rfl ⟨[], trivial, _, rfl, by simp⟩ ?_
    refine (QH 3) fun r4=>?_
    refine YJ (i := 3) (Uz 30) rfl rfl (zd _ _ _) zU rfl (yg _ _ _ _ _) rfl ⟨[0], rfl, rfl, trivial⟩ (z93 1 rfl (by decide) rfl (by decide)) ?_
    refine (g3)<|(ge)<|(gu) ?_
    rw [show YB fi ow r t = ow by rw [YB, hl1]; rfl, show XC fi r t = true by rw [XC, hl1]; rfl]
    refine Qp<|(Qf 107)<|(Qv 14 0)<|(Qt 3)<|(g3)<|Qs<|(Qq ⟨[], 1, [], (some [r1]), (some (4, r2))⟩)<|(Qf 205) ?_
    refine X1 (i := 0) 19 (Uu 30) rfl (Uz 30) rfl rfl rfl (by decide) rfl ⟨[], trivial, _, rfl, by simp⟩ ?_
    refine (Qf 237) ?_
    refine Za (i := 0) 20 (Uu 4) rfl rfl rfl rfl (by decide) rfl ⟨[], trivial, _, rfl, by simp⟩ ?_
    refine (QH 4) fun r5=>?_
    refine YJ (i := 4) (Uz 30) rfl rfl (zd _ _ _) zU rfl (yg _ _ _ _ _) rfl ⟨[0], rfl, rfl, trivial⟩ (z93 1 rfl (by decide) rfl (by decide)) ?_
    refine (g3)<|(je) ?_
    refine zh rfl ?_ ?_
    ·intro hc1
     have ht1 := hc1
     rw [show Ze fi r t = r.2.2.1 by rw [Ze, ht1]; rfl, show Yb fi r t = r.2.2.2.1 by rw [Yb, ht1]; rfl]
     refine (Qq ⟨[r5], 1, [], none, none⟩)<|(Qf 172) ?_
     refine X1 (i := 0) 17 (Uu 30) rfl (Uz 30) rfl rfl rfl (by decide) rfl ⟨[4], rfl, rfl, trivial⟩ ?_
     refine (Qf 204) ?_
     refine Za (i := 0) 18 (Uu 4) rfl rfl rfl rfl (by decide) rfl ⟨[4], rfl, rfl, trivial⟩ ?_
     refine z4 (i := 4) (Uz 30) rfl rfl (zd _ _ _) zU rfl (yg _ _ _ _ _) (.inr (by simp)) ?_
     refine (g3)<|Qs<|(Qq ⟨[r2, r3], 1, [], none, none⟩) ?_
     refine zV (i := 3) (Uu 30) rfl (Uz 30) rfl rfl (zd _ _ _) rfl ⟨[1, 2], rfl, rfl, rfl, rfl, trivial⟩ ?_
     refine zV (i := 4) (Uu 30) rfl (Uz 30) rfl rfl (zd _ _ _) rfl ⟨[1, 2], rfl, rfl, rfl, rfl, trivial⟩ ?_
     refine (Qm)<|(g7)<|(Qm)<|(QT) ?_
     refine z4 (i := 1) (Uz 30) rfl rfl (zd _ _ _) zU rfl (yg _ _ _ _ _) (.inr (by simp)) ?_
     refine z4 (i := 2) (Uz 30) rfl rfl (zd _ _ _) zU rfl (yg _ _ _ _ _) (.inr (by simp)) ?_
     refine (gt) ?_
     exact ⟨_, _, _, rfl, ya 1, ya 2, yt⟩
    ·intro hc1
     have ht1 := hc1
     rw [show Ze fi r t = r.2.2.2.2.1 by rw [Ze, ht1]; rfl, show Yb fi r t = r.2.2.2.2.2 by rw [Yb, ht1]; rfl]
     refine Qk<|Qs<|(Qq ⟨[r2, r3], 1, [], none, none⟩) ?_
     refine zV (i := 3) (Uu 30) rfl (Uz 30) rfl rfl (zd _ _ _) rfl ⟨[1, 2], rfl, rfl, rfl, rfl, trivial⟩ ?_
     refine zV (i := 4) (Uu 30) rfl (Uz 30) rfl rfl (zd _ _ _) rfl ⟨[1, 2], rfl, rfl, rfl, rfl, trivial⟩ ?_
     refine (Qm)<|(g7)<|(Qm)<|(QT) ?_
     refine z4 (i := 1) (Uz 30) rfl rfl (zd _ _ _) zU rfl (yg _ _ _ _ _) (.inr (by simp)) ?_
     refine z4 (i := 2) (Uz 30) rfl rfl (zd _ _ _) zU rfl (yg _ _ _ _ _) (.inr (by simp)) ?_
     refine (gt) ?_
     exact ⟨_, _, _, rfl, ya 1, ya 2, yt⟩
theorem vO (f : NN) (h0 : f 0 < 18446744073709551616) (h1 : f 1 < 18446744073709551616) (h2 : f 2 < 4) : Fp G 244 #[.agg (arr .u64 3 f)] (p5 (w3 f)) := by
 refine Qf1 Tryz.func244 ?_
 refine (g4)<|(Qh 0) fun r1=>(QH 1) fun r2=>(gl)<|(Qj 0)<|(Q1 0)<|(Q9 67108863) ?_
 refine (Au (po0 (f := f)))<|(Qj 0)<|(Q1 0)<|(Q8 26)<|(Q9 67108863) ?_
 refine (Au (po1 (f := f)))<|(Qj 0)<|(Q1 0)<|(Q8 52)<|(Qj 1)<|(Q1 0) ?_
 refine w7 (s := 12) rfl rfl rfl (by omega) ?_
 refine v4 rfl rfl rfl  ?_
 refine (Q9 67108863) ?_
 refine (Au (po2 h0))<|(Qj 1)<|(Q1 0)<|(Q8 14)<|(Q9 67108863) ?_
 refine (Au (po3 h0))<|(Qj 1)<|(Q1 0)<|(Q8 40)<|(Qj 2)<|(Q1 0) ?_
 refine w7 (s := 24) rfl rfl rfl (by omega) ?_
 refine v4 rfl rfl rfl  ?_
 refine (Au (po4 h0 h1 h2)) ?_
 refine zX (arr .u64 5 (d26 (w3 f))) (Ub 295 rfl) (Uu 295 rfl) (Uz 31 rfl) rfl rfl rfl ?_
 refine (ja)<|Qr ?_
 exact ⟨_, rfl, ya 1⟩
theorem z1p (x : Nat) (hx : x < 2 ^ 130) : Fp G 246 #[p5 x] (.agg (arr .u64 3 (wd x))) := by
 refine Qf1 Tryz.func246 ?_
 refine (g4)<|(Qh 0) fun r1=>(QH 1) fun r2=>(gl)<|(Qj 0)<|(Q1 0)<|(Qj 1)<|(Q1 0) ?_
 refine w7 (s := 26) rfl rfl rfl (by omega) ?_
 refine v4 rfl rfl rfl  ?_
 refine (Qj 2)<|(Q1 0) ?_
 refine w7 (s := 52) rfl rfl rfl (by omega) ?_
 refine v4 rfl rfl rfl  ?_
 refine (Au (wh0 hx))<|(Qj 2)<|(Q1 0)<|(Q8 12)<|(Qj 3)<|(Q1 0) ?_
 refine w7 (s := 14) rfl rfl rfl (by omega) ?_
 refine v4 rfl rfl rfl  ?_
 refine (Qj 4)<|(Q1 0) ?_
 refine w7 (s := 40) rfl rfl rfl (by omega) ?_
 refine v4 rfl rfl rfl  ?_
 refine (Au (wh1 hx))<|(Qj 4)<|(Q1 0)<|(Q8 24) ?_
 refine (Au (wh2 hx)) ?_
 refine zX (arr .u64 3 (wd x)) (Ub 245 rfl) (Uu 245 rfl) (Uz 31 rfl) rfl rfl rfl ?_
 refine (ja)<|Qr ?_
 exact ⟨_, rfl, ya 1⟩
theorem ZQ (f : NN) (hf : ∀ j, j < 5 → f j < 1152921504606846976) : Fp G 245 #[.agg (arr .u64 5 f)] (p5 (v26 f 5 % QQ)) := by
 refine Qf1 Tryz.func245 ?_
 refine (g4)<|(Qh 0) fun r1=>(QH 1) fun r2=>Qn<|(jg) ?_
 refine Qz (fun kk E m => ∃ (k : Nat) (s : Nat → Nat), kk = 3 - k ∧ E = [(1, ptr r1), (2, ptr r2), (7, ii k)] ∧ m = [(0, some ⟨r1, arr .u64 5 s, 295⟩), (1, some ⟨r2, arr .u64 5 (fun _ => 0), 295⟩)] ∧ (k ≤ 3) ∧ (∀ j, j < 5 → s j < 1152921504606846976) ∧ (v26 s 5 < z7I k) ∧ (v26 s 5 % QQ = v26 f 5 % QQ) ∧ (k = 3 → ∀ j, j < 5 → s j < 67108864)) ⟨0, f, rfl, rfl, rfl, by omega, hf, zax f hf, rfl, fun h => absurd h (by decide)⟩ ⟨rfl, rfl, rfl, trivial⟩ ⟨rfl, rfl, trivial⟩ ?_
 rintro kk E m ⟨k, s, rfl, rfl, rfl, hf0_0, hf0_1, hf0_2, hf0_3, hf0_4⟩
 refine (gq) ?_
 refine (Qcd) (fun hc0=>?_) fun hc0=>?_
 ·refine Qk<|Qs<|Qb<|Qs<|Qp<|(Qa)<|Qn<|Qs<|Qs<|Qp<|(Qm)<|Qn<|Qb ?_
  refine Qz (fun kk E m => ∃ (i : Nat) (s2 : Nat → Nat) (c : Nat), kk = 5 - i ∧ E = [(1, ptr r1), (2, ptr r2), (7, ii k), (3, u c), (9, ii i)] ∧ m = [(0, some ⟨r1, arr .u64 5 s2, 295⟩), (1, some ⟨r2, arr .u64 5 (fun _ => 0), 295⟩)] ∧ (i ≤ 5) ∧ (v26 s2 i + c * 2 ^ (26 * i) = v26 s i) ∧ (∀ j, i ≤ j → s2 j = s j) ∧ (∀ j, j < i → s2 j < 67108864) ∧ (c < 34359738368)) ⟨0, s, 0, rfl, rfl, rfl, by omega, by rw [Nat.zero_mul]; rfl, fun j _ => rfl, fun j hj => absurd hj (Nat.not_lt_zero j), by decide⟩ ⟨rfl, rfl, rfl, rfl, rfl, trivial⟩ ⟨rfl, rfl, trivial⟩ ?_
  rintro kk E m ⟨i, s2, c, rfl, rfl, rfl, hf1_0, hf1_1, hf1_2, hf1_3, hf1_4⟩
  have hsi : i < 5 → s2 i < 1152921504606846976 := fun h => by rw [hf1_2 i (Nat.le_refl i)]; exact hf0_1 i h
  refine (gq) ?_
  refine (Qcd) (fun hc1=>?_) fun hc1=>?_
  ·have hsi2 := hsi (by omega)
   refine (jq)<|(go)<|(Qm)<|(gv)<|(Qau) ?_
   refine (Au (Nat.mod_eq_of_lt (show c + s2 i < 18446744073709551616 by omega)))<|(g3)<|Qp<|(gb)<|(Q9 67108863) ?_
   refine (Au (m26 _))<|(Qm)<|(Q8 26) ?_
   refine (Av (u ((c + s2 i) / 67108864)))<|(ji)<|(jb) ?_
   refine Qzr ⟨i + 1, upd s2 i _, (c + s2 i) / 67108864, rfl, rfl, rfl, by omega, zhU hf1_1 (hf1_2 i (Nat.le_refl i)), Xk hf1_2, z2p hf1_3, by omega⟩ ⟨rfl, rfl, rfl, rfl, rfl, trivial⟩ ⟨rfl, rfl, trivial⟩ ?_
   omega
  ·have hi5 : i = 5 := by omega
   subst hi5
   have hs20 := hf1_3 0 (by decide)
   refine Qe<|Qp<|(Qj 0)<|(Q1 0)<|(Qm) ?_
   refine xh (p := 5) rfl rfl rfl  ?_
   refine (Au (Nat.mod_eq_of_lt (show 5 * c < 18446744073709551616 by omega)))<|(Qau) ?_
   refine (Au (Nat.mod_eq_of_lt (show s2 0 + 5 * c < 18446744073709551616 by omega)))<|(Qj 0)<|(Qu 0)<|(jc) ?_
   refine Qzr ⟨k + 1, upd s2 0 _, rfl, rfl, rfl, by omega, z9H hf1_3 hf1_4, by rw [z2E hf1_1 hf1_3]; exact zbj _ _ hf0_2, by rw [z2E hf1_1 hf1_3, zeQ]; exact hf0_3, zeP hf1_1 hf1_3 hf0_2⟩ ⟨rfl, rfl, rfl, trivial⟩ ⟨rfl, rfl, trivial⟩ ?_
   omega
 ·have hk3 : k = 3 := by omega
  subst hk3
  have hs5 := hf0_4 rfl
  have hs0 := hs5 0 (by decide)
  have hT : v26 s 5 < 2 ^ 130 := hf0_2
  refine (jn)<|(Qd 0)<|(QH 2) fun r3=>(Qt 2)<|(gl)<|(Qj 0)<|(Q1 2) ?_
  refine wR (q := 5) rfl rfl rfl  ?_
  refine (Au (Nat.mod_eq_of_lt (show s 0 + 5 < 18446744073709551616 by omega)))<|(Qj 0)<|(Qu 2)<|Qn<|(jg) ?_
  refine Qz (fun kk E m => ∃ (n : Nat) (q : Nat → Nat), kk = 4 - n ∧ E = [(1, ptr r1), (2, ptr r2), (5, ptr r3), (36, ii n)] ∧ m = [(0, some ⟨r1, arr .u64 5 s, 295⟩), (1, some ⟨r2, arr .u64 5 (fun _ => 0), 295⟩), (2, some ⟨r3, arr .u64 5 q, 295⟩)] ∧ (n ≤ 4) ∧ (v26 q 5 = v26 s 5 + 5) ∧ (∀ j, j < n → q j < 67108864) ∧ (∀ j, n < j → j < 5 → q j < 67108864) ∧ (q n < 67108869)) ⟨0, upd s 0 _, rfl, rfl, rfl, by omega, zhe, fun j hj => absurd hj (Nat.not_lt_zero j), fun j h h5 => by rw [Wd (by omega)]; exact hs5 j h5, by rw [z3z]; have := hs5 0 (by decide); omega⟩ ⟨rfl, rfl, rfl, rfl, trivial⟩ ⟨rfl, rfl, rfl, trivial⟩ ?_
  rintro kk E m ⟨n, q, rfl, rfl, rfl, hf2_0, hf2_1, hf2_2, hf2_3, hf2_4⟩
  refine (gq) ?_
  refine (Qcd) (fun hc2=>?_) fun hc2=>?_
  ·have hq1 := hf2_3 (n + 1) (by omega) (by omega)
   refine (jq)<|(g3)<|(gr)<|(Qm)<|(Q2 1)<|(Qi)<|(Q1 2)<|(Qm)<|(Qi)<|(Q1 2)<|(Q8 26) ?_
   refine (Av (u (q n / 67108864)))<|(Qau) ?_
   refine (Au (Nat.mod_eq_of_lt (show q (n + 1) + q n / 67108864 < 18446744073709551616 by omega)))<|(Qi)<|(Qu 2)<|Qn<|(j0)<|(Qi)<|(Q1 2) ?_
   refine (Au (Wd (by omega)))<|(Q9 67108863) ?_
   refine (Au (m26 _))<|(Qi)<|(Qu 2)<|(jc) ?_
   refine Qzr ⟨n + 1, upd (upd q (n + 1) _) n _, rfl, rfl, rfl, by omega, (zjA (by omega)).trans hf2_1, zkB hf2_2, zjd hf2_3, zjG (by omega) hf2_3 hf2_4⟩ ⟨rfl, rfl, rfl, rfl, trivial⟩ ⟨rfl, rfl, rfl, trivial⟩ ?_
   omega
  ·have hn4 : n = 4 := by omega
   subst hn4
   refine Qe<|(gs)<|(Qj 4)<|(Q1 2)<|(Q8 26)<|(QG)<|Qn ?_
   refine (Qcd) (fun hc3=>?_) fun hc3=>?_
   ·have hge : QQ ≤ v26 s 5 := (zk8 hf2_1 hf2_2 hT).1.1 (by omega)
    refine (g4)<|(Qj 4)<|(Q1 2)<|(Q9 67108863) ?_
    refine (Au (m26 _))<|(Qj 4)<|(Qu 2)<|(gl)<|(Qd 2) ?_
    refine z6 (zix (z2p hf2_2) (((zk8 hf2_1 hf2_2 hT).2 hge).trans hf0_3)) ?_
    refine (ja)<|Qr ?_
    exact ⟨_, rfl, ya 1⟩
   ·have hlt : v26 s 5 < QQ := Nat.lt_of_not_le fun h => hc3 (by have := (zk8 hf2_1 hf2_2 hT).1.2 h; omega)
    refine Qk<|(g4)<|(Qd 0) ?_
    refine z6 (zix hs5 ((Nat.mod_eq_of_lt hlt).symm.trans hf0_3)) ?_
    refine (ja)<|Qr ?_
    exact ⟨_, rfl, ya 1⟩
theorem zaJ (x y : Nat) (hx : x < 2 ^ 130) (hy : y < 2 ^ 130) : Fp G 247 #[p5 x, p5 y] (p5 (x * y % QQ)) := by
 have hvy : v26 (d26 y) 5 = y := (Wf y 5).trans (Nat.mod_eq_of_lt hy)
 refine Qf1 Tryz.func247 ?_
 refine (g4)<|(Qh 0) fun r1=>(Qh 1) fun r2=>(QH 2) fun r3=>(gl)<|(QH 3) fun r4=>Qn<|(gs)<|(Qd 0)<|(Qm)<|Qn<|Qb ?_
 refine Qz (fun kk E m => ∃ (i : Nat) (s : Nat → Nat), kk = 5 - i ∧ E = [(2, ptr r1), (3, ptr r2), (4, ptr r3), (5, ptr r4), (11, p5 x), (12, ii i)] ∧ m = [(0, some ⟨r1, arr .u64 5 (d26 x), 295⟩), (1, some ⟨r2, arr .u64 5 (d26 y), 295⟩), (2, some ⟨r3, arr .u64 5 (fun _ => 0), 295⟩), (3, some ⟨r4, arr .u64 5 s, 295⟩)] ∧ (i ≤ 5) ∧ (∀ t, t < 5 → s t ≤ 5 * i * 22517997465763845) ∧ (v26 s 5 % QQ = (v26 (d26 x) i * y + d26 x i * v26 (d26 y) 0 * 2 ^ (26 * i)) % QQ)) ⟨0, fun _ => 0, rfl, rfl, rfl, by omega, fun t _ => Nat.zero_le _, by simp [v26]⟩ ⟨rfl, rfl, rfl, rfl, rfl, rfl, trivial⟩ ⟨rfl, rfl, rfl, rfl, trivial⟩ ?_
 rintro kk E m ⟨i, s, rfl, rfl, rfl, hf0_0, hf0_1, hf0_2⟩
 refine (gq) ?_
 refine (Qcd) (fun hc0=>?_) fun hc0=>?_
 ·refine Qk<|Qs<|Qb<|Qs<|Qp<|(Qm)<|(QX)<|(Qa)<|(Qa)<|Qn<|Qs<|Qp<|(Qd 1)<|(Qm)<|Qn<|Qb ?_
  refine Qz (fun kk E m => ∃ (j : Nat) (s2 : Nat → Nat), kk = 5 - j ∧ E = [(2, ptr r1), (3, ptr r2), (4, ptr r3), (5, ptr r4), (11, p5 x), (12, ii i), (6, ii i), (7, u (d26 x i)), (16, p5 y), (17, ii j)] ∧ m = [(0, some ⟨r1, arr .u64 5 (d26 x), 295⟩), (1, some ⟨r2, arr .u64 5 (d26 y), 295⟩), (2, some ⟨r3, arr .u64 5 (fun _ => 0), 295⟩), (3, some ⟨r4, arr .u64 5 s2, 295⟩)] ∧ (j ≤ 5) ∧ (∀ t, t < 5 → s2 t ≤ (5 * i + j) * 22517997465763845) ∧ (v26 s2 5 % QQ = (v26 (d26 x) i * y + d26 x i * v26 (d26 y) j * 2 ^ (26 * i)) % QQ)) ⟨0, s, rfl, rfl, rfl, by omega, hf0_1, hf0_2⟩ ⟨rfl, rfl, rfl, rfl, rfl, rfl, rfl, rfl, rfl, rfl, trivial⟩ ⟨rfl, rfl, rfl, rfl, trivial⟩ ?_
  rintro kk E m ⟨j, s2, rfl, rfl, rfl, hf1_0, hf1_1, hf1_2⟩
  have hde := zlj (x := x) (y := y) (i := i) (j := j)
  have hsr := hf1_1 ((i + j) % 5) (Nat.mod_lt _ (by decide))
  refine (gq) ?_
  refine (Qcd) (fun hc1=>?_) fun hc1=>?_
  ·refine Qk<|Qs<|Qb<|Qs<|Qp<|(Qm)<|(QX)<|(Qa)<|(Qa)<|Qn<|Qs<|Qp<|(Qm)<|(Qm) ?_
   refine xh rfl rfl rfl  ?_
   refine (Au (Nat.mod_eq_of_lt (show d26 x i * d26 y j < 18446744073709551616 by omega)))<|(g3)<|(ge)<|(Qm)<|(Q3)<|(QE)<|Qn ?_
   refine (Qcd) (fun hc2=>?_) fun hc2=>?_
   ·refine Qp<|(Qm) ?_
    refine xh (q := 5) rfl rfl rfl  ?_
    refine (Au (Nat.mod_eq_of_lt (show d26 x i * d26 y j * 5 < 18446744073709551616 by omega)))<|(g3)<|Qp<|(gb)<|(Q3)<|(Q4 5)<|(Qi)<|(jl)<|(Qau) ?_
    refine z6 (congrArg u (Nat.mod_eq_of_lt (show s2 ((i + j) % 5) + _ < 18446744073709551616 by omega))) ?_
    refine (Qi)<|(Qu 3)<|(jc) ?_
    refine Qzr ⟨j + 1, upd s2 ((i + j) % 5) _, rfl, rfl, rfl, by omega, zcx (Nat.mod_lt _ (by decide)) hf1_1 (by omega), z8F (by omega) (by omega) hf1_2 (by first | rw [if_pos (by omega)] | rw [if_neg (by omega)])⟩ ⟨rfl, rfl, rfl, rfl, rfl, rfl, rfl, rfl, rfl, rfl, trivial⟩ ⟨rfl, rfl, rfl, rfl, trivial⟩ ?_
    omega
   ·refine Qk<|Qp<|(Qm)<|(Qm)<|(Q3)<|(Q4 5)<|(Qi)<|(Q1 3)<|(Qm) ?_
    refine (Qau) ?_
    refine z6 (congrArg u (Nat.mod_eq_of_lt (show s2 ((i + j) % 5) + _ < 18446744073709551616 by omega))) ?_
    refine (Qi)<|(Qu 3)<|(jc) ?_
    refine Qzr ⟨j + 1, upd s2 ((i + j) % 5) _, rfl, rfl, rfl, by omega, zcx (Nat.mod_lt _ (by decide)) hf1_1 (by omega), z8F (by omega) (by omega) hf1_2 (by first | rw [if_pos (by omega)] | rw [if_neg (by omega)])⟩ ⟨rfl, rfl, rfl, rfl, rfl, rfl, rfl, rfl, rfl, rfl, trivial⟩ ⟨rfl, rfl, rfl, rfl, trivial⟩ ?_
    omega
  ·have hj5 : j = 5 := by omega
   subst hj5
   refine Qe<|(gk) ?_
   refine Qzr ⟨i + 1, s2, rfl, rfl, rfl, by omega, hf1_1, hf1_2.trans (congrArg (fun z => z % QQ) (zjT hvy))⟩ ⟨rfl, rfl, rfl, rfl, rfl, rfl, trivial⟩ ⟨rfl, rfl, rfl, rfl, trivial⟩ ?_
   omega
 ·have hi5 : i = 5 := by omega
  subst hi5
  refine (jn)<|(Qd 3) ?_
  refine (Ca (ZQ s (fun t ht => by have := hf0_1 t ht; omega))) ?_
  refine z6 (congrArg p5 (hf0_2.trans (congrArg (fun z => z % QQ) (zjU hx)))) ?_
  refine (Qt 2)<|Qn<|Qr ?_
  exact ⟨_, rfl, ya 2⟩
theorem xZ (n b : Nat) (hb : b ≤ 32) : Fp G 159 #[uw n, ii b] (uw (wl n b)) := by
 refine Qf1 Tryz.func159 ?_
 refine (gd)<|(gr)<|(gb) ?_
 refine vw rfl rfl rfl (by omega) ?_
 refine (gb) ?_
 refine xH (p := 32) rfl rfl rfl (by omega) (by omega) ?_
 refine z6 (congrArg (Value.int .i64) (show (32 : Int) - (b : Int) = ((32 - b : Nat) : Int) by omega)) ?_
 refine vX rfl rfl rfl (by omega) ?_
 refine Y0 rfl rfl rfl  ?_
 refine (gt) ?_
 exact ⟨_, rfl, yt⟩
theorem z68 (f : NN) : Fp G 200 #[.agg (arr .u32 16 f)] (.agg (arr .u32 16 (rnd f))) := by
 refine Qf1 Tryz.func200 ?_
 refine (g4)<|(Qh 0) fun r1=>(QH 1) fun r2=>Qn<|(jg) ?_
 refine Qz (fun kk E m => ∃ (k : Nat) (s : Nat → Nat), kk = 4 - k ∧ E = [(1, ptr r1), (2, ptr r2), (8, ii k)] ∧ m = [(0, some ⟨r1, arr .u32 16 s, 199⟩), (1, some ⟨r2, arr .u32 16 (fun _ => 0), 199⟩)] ∧ (k ≤ 4) ∧ (∀ t, t < 16 → s t = if t % 4 < k then rnd f t else f t)) ⟨0, f, rfl, rfl, rfl, by omega, fun t _ => by rw [if_neg (by omega)]⟩ ⟨rfl, rfl, rfl, trivial⟩ ⟨rfl, rfl, trivial⟩ ?_
 rintro kk E m ⟨k, s, rfl, rfl, rfl, hf0_0, hf0_1⟩
 refine (gq) ?_
 refine (Qcd) (fun hc0=>?_) fun hc0=>?_
 ·refine Qk<|Qs<|Qb<|Qs<|Qp<|(Qm)<|(Qa)<|Qn<|Qs<|(Qg)<|(Qm)<|(QA 0 0)<|(Qi)<|(Q1 0)<|(Qm)<|(QA 4 1)<|(QB (4 + k))<|(Q1 0)<|(Qm)<|(QA 8 2)<|(QB (8 + k))<|(Q1 0)<|(Qm)<|(QA 12 3)<|(QB (12 + k))<|(Q1 0)<|(Qa)<|(Qa)<|(Qa)<|(Qa)<|Qn<|Qs<|Qp<|(Qm)<|(Qm) ?_
  refine (Qaw)<|(go)<|(Qm)<|(Qxw) ?_
  refine z9 rfl (Un 159) (xZ _ _ (by decide)) rfl rfl ?_
  refine (go)<|(Qm)<|(Qaw)<|(go)<|(Qm)<|(Qxw) ?_
  refine z9 rfl (Un 159) (xZ _ _ (by decide)) rfl rfl ?_
  refine (go)<|(Qm)<|(Qaw)<|(go)<|(Qm)<|(Qxw) ?_
  refine z9 rfl (Un 159) (xZ _ _ (by decide)) rfl rfl ?_
  refine (go)<|(Qm)<|(Qaw)<|(go)<|(Qm)<|(Qxw) ?_
  refine z9 rfl (Un 159) (xZ _ _ (by decide)) rfl rfl ?_
  refine (g3)<|Qp<|(gb)<|(gb)<|(gb)<|(gb)<|(QA 0 0)<|(ji)<|(QA 4 1)<|(QB (4 + k))<|(Qu 0)<|(QA 8 2)<|(QB (8 + k))<|(Qu 0)<|(QA 12 3)<|(QB (12 + k))<|(Qu 0)<|(jc) ?_
  refine Qzr ⟨k + 1, upd (upd (upd (upd s k _) (4 + k) _) (8 + k) _) (12 + k) _, rfl, rfl, rfl, by omega, zfk (by omega) hf0_1 _ rfl⟩ ⟨rfl, rfl, rfl, trivial⟩ ⟨rfl, rfl, trivial⟩ ?_
  omega
 ·have hk : k = 4 := by omega
  subst hk
  refine (jn)<|(Qd 0)<|(ja)<|Qr ?_
  rw [← zhn hf0_1]
  exact ⟨_, rfl, ya 1⟩
theorem zjS (f : NN) : Fp G 158 #[.agg (arr .u32 16 f), ii 1] (.agg (arr .u32 16 (sh1 f))) := by
 refine Qf1 Tryz.func158 ?_
 refine (g4)<|(Qh 0) fun r1=>(QH 1) fun r2=>(gl)<|(QH 2) fun r3=>Qn<|(jg) ?_
 refine Qz (fun kk E m => ∃ (k : Nat) (s : Nat → Nat), kk = 4 - k ∧ E = [(1, ii 1), (2, ptr r1), (4, ptr r2), (5, ptr r3), (8, ii k)] ∧ m = [(0, some ⟨r1, arr .u32 16 f, 199⟩), (1, some ⟨r2, arr .u32 16 (fun _ => 0), 199⟩), (2, some ⟨r3, arr .u32 16 s, 199⟩)] ∧ (k ≤ 4) ∧ (∀ t, t < 4 * k → s t = sh1 f t)) ⟨0, fun _ => 0, rfl, rfl, rfl, by omega, fun t ht => absurd ht (Nat.not_lt_zero t)⟩ ⟨rfl, rfl, rfl, rfl, rfl, trivial⟩ ⟨rfl, rfl, rfl, trivial⟩ ?_
 rintro kk E m ⟨k, s, rfl, rfl, rfl, hf0_0, hf0_1⟩
 refine (gq) ?_
 refine (Qcd) (fun hc0=>?_) fun hc0=>?_
 ·refine Qk<|Qs<|Qb<|Qs<|Qp<|(Qm)<|(Qa)<|Qn<|Qs<|Qp<|(Qm)<|Qn<|Qb ?_
  refine Qz (fun kk E m => ∃ (j : Nat) (s2 : Nat → Nat), kk = 4 - j ∧ E = [(1, ii 1), (2, ptr r1), (4, ptr r2), (5, ptr r3), (8, ii k), (6, ii k), (11, ii j)] ∧ m = [(0, some ⟨r1, arr .u32 16 f, 199⟩), (1, some ⟨r2, arr .u32 16 (fun _ => 0), 199⟩), (2, some ⟨r3, arr .u32 16 s2, 199⟩)] ∧ (j ≤ 4) ∧ (∀ t, t < 4 * k + j → s2 t = sh1 f t)) ⟨0, s, rfl, rfl, rfl, by omega, hf0_1⟩ ⟨rfl, rfl, rfl, rfl, rfl, rfl, rfl, trivial⟩ ⟨rfl, rfl, rfl, trivial⟩ ?_
  rintro kk E m ⟨j, s2, rfl, rfl, rfl, hf1_0, hf1_1⟩
  refine (gq) ?_
  refine (Qcd) (fun hc1=>?_) fun hc1=>?_
  ·refine Qk<|Qs<|Qb<|Qs<|Qp<|(Qm)<|(Qa)<|Qn<|(Qg)<|(Qm)<|(Qm)<|(Qm)<|(Qm)<|(Q2 4)<|(Qm)<|(Qm) ?_
   refine VJ rfl rfl rfl (by omega) ?_
   refine (Q3)<|(Q4 4)<|(QB (4 * k))<|(QB (4 * k + (j + 4 + 1 * k) % 4))<|(Q1 0)<|(QB (4 * k))<|(QB (4 * k + j))<|(Qu 2)<|(jc) ?_
   refine Qzr ⟨j + 1, upd s2 (4 * k + j) _, rfl, rfl, rfl, by omega, z8j sh1 f s2 (zkO f (by omega)) hf1_1⟩ ⟨rfl, rfl, rfl, rfl, rfl, rfl, rfl, trivial⟩ ⟨rfl, rfl, rfl, trivial⟩ ?_
   omega
  ·have hj4 : j = 4 := by omega
   subst hj4
   refine Qe<|(gk) ?_
   refine Qzr ⟨k + 1, s2, rfl, rfl, rfl, by omega, by rw [show 4 * (k + 1) = 4 * k + 4 by omega]; exact hf1_1⟩ ⟨rfl, rfl, rfl, rfl, rfl, trivial⟩ ⟨rfl, rfl, rfl, trivial⟩ ?_
   omega
 ·have hk : k = 4 := by omega
  subst hk
  refine (jn)<|(Qd 2)<|(ja)<|Qr ?_
  rw [← zg hf0_1]
  exact ⟨_, rfl, ya 1⟩
theorem ziF (f : NN) : Fp G 158 #[.agg (arr .u32 16 f), .int .i64 (-1)] (.agg (arr .u32 16 (shm f))) := by
 refine Qf1 Tryz.func158 ?_
 refine (g4)<|(Qh 0) fun r1=>(QH 1) fun r2=>(gl)<|(QH 2) fun r3=>Qn<|(jg) ?_
 refine Qz (fun kk E m => ∃ (k : Nat) (s : Nat → Nat), kk = 4 - k ∧ E = [(1, .int .i64 (-1)), (2, ptr r1), (4, ptr r2), (5, ptr r3), (8, ii k)] ∧ m = [(0, some ⟨r1, arr .u32 16 f, 199⟩), (1, some ⟨r2, arr .u32 16 (fun _ => 0), 199⟩), (2, some ⟨r3, arr .u32 16 s, 199⟩)] ∧ (k ≤ 4) ∧ (∀ t, t < 4 * k → s t = shm f t)) ⟨0, fun _ => 0, rfl, rfl, rfl, by omega, fun t ht => absurd ht (Nat.not_lt_zero t)⟩ ⟨rfl, rfl, rfl, rfl, rfl, trivial⟩ ⟨rfl, rfl, rfl, trivial⟩ ?_
 rintro kk E m ⟨k, s, rfl, rfl, rfl, hf0_0, hf0_1⟩
 refine (gq) ?_
 refine (Qcd) (fun hc0=>?_) fun hc0=>?_
 ·refine Qk<|Qs<|Qb<|Qs<|Qp<|(Qm)<|(Qa)<|Qn<|Qs<|Qp<|(Qm)<|Qn<|Qb ?_
  refine Qz (fun kk E m => ∃ (j : Nat) (s2 : Nat → Nat), kk = 4 - j ∧ E = [(1, .int .i64 (-1)), (2, ptr r1), (4, ptr r2), (5, ptr r3), (8, ii k), (6, ii k), (11, ii j)] ∧ m = [(0, some ⟨r1, arr .u32 16 f, 199⟩), (1, some ⟨r2, arr .u32 16 (fun _ => 0), 199⟩), (2, some ⟨r3, arr .u32 16 s2, 199⟩)] ∧ (j ≤ 4) ∧ (∀ t, t < 4 * k + j → s2 t = shm f t)) ⟨0, s, rfl, rfl, rfl, by omega, hf0_1⟩ ⟨rfl, rfl, rfl, rfl, rfl, rfl, rfl, trivial⟩ ⟨rfl, rfl, rfl, trivial⟩ ?_
  rintro kk E m ⟨j, s2, rfl, rfl, rfl, hf1_0, hf1_1⟩
  refine (gq) ?_
  refine (Qcd) (fun hc1=>?_) fun hc1=>?_
  ·refine Qk<|Qs<|Qb<|Qs<|Qp<|(Qm)<|(Qa)<|Qn<|(Qg)<|(Qm)<|(Qm)<|(Qm)<|(Qm)<|(Q2 4)<|(Qm)<|(Qm) ?_
   refine z9l rfl rfl rfl (by omega) (by omega) ?_
   refine z8U rfl rfl rfl (by omega) (by omega) ?_
   refine z6 (congrArg (Value.int .i64) (show ((j + 4 : Nat) : Int) + -1 * ((k : Nat) : Int) = ((j + 4 - k : Nat) : Int) by omega)) ?_
   refine (Q4 4)<|(QB (4 * k))<|(QB (4 * k + (j + 4 - k) % 4))<|(Q1 0)<|(QB (4 * k))<|(QB (4 * k + j))<|(Qu 2)<|(jc) ?_
   refine Qzr ⟨j + 1, upd s2 (4 * k + j) _, rfl, rfl, rfl, by omega, z8j shm f s2 (zkL f (by omega)) hf1_1⟩ ⟨rfl, rfl, rfl, rfl, rfl, rfl, rfl, trivial⟩ ⟨rfl, rfl, rfl, trivial⟩ ?_
   omega
  ·have hj4 : j = 4 := by omega
   subst hj4
   refine Qe<|(gk) ?_
   refine Qzr ⟨k + 1, s2, rfl, rfl, rfl, by omega, by rw [show 4 * (k + 1) = 4 * k + 4 by omega]; exact hf1_1⟩ ⟨rfl, rfl, rfl, rfl, rfl, trivial⟩ ⟨rfl, rfl, rfl, trivial⟩ ?_
   omega
 ·have hk : k = 4 := by omega
  subst hk
  refine (jn)<|(Qd 2)<|(ja)<|Qr ?_
  rw [← zg hf0_1]
  exact ⟨_, rfl, ya 1⟩
theorem xO (n k : Nat) (hn : n < 18446744073709551616) (hk : k ≤ 64) : Fp G 121 #[u n, ii k] (sv (xR n k)) := by
 refine Qf1 Tryz.func121 ?_
 refine (g4) ?_
 refine wB (v := sv []) rfl rfl ?_
 refine (gl) ?_
 refine wB (v := sv []) rfl rfl ?_
 refine Qn<|(ge)<|(Qm)<|Qn<|Qb ?_
 refine Qz (fun kk E m => ∃ (i : Nat), kk = k - i ∧ E = [(0, u (n / 256 ^ i)), (1, ii k), (5, sv (xR n i)), (6, ii k), (7, ii i)] ∧ m = [] ∧ (i ≤ k)) ⟨0, rfl, rfl, rfl, by omega⟩ ⟨by rw [Nat.pow_zero, Nat.div_one]; rfl, rfl, rfl, rfl, rfl, trivial⟩ trivial ?_
 rintro kk E m ⟨i, rfl, rfl, rfl, hf0_0⟩
 have hq : n / 256 ^ i < 18446744073709551616 := Nat.lt_of_le_of_lt (Nat.div_le_self _ _) hn
 have hll := zL n i
 refine (gq) ?_
 refine (Qcd) (fun hc0=>?_) fun hc0=>?_
 ·refine Qk<|Qs<|Qb<|Qs<|Qp<|(Qm)<|(Qm) ?_
  refine x8 (Uu 31) (Uu 5) rfl rfl rfl ?_
  refine yl 0 #[by8 (n / 256 ^ i % 256)] (Uu 22 rfl) (Uz 5 rfl) (Ub 5 rfl) (by decide) (by decide) rfl (by kernel_rfl) rfl fun r1 => ?_
  refine zx (l := [n / 256 ^ i % 256]) (xp _ _ (by rfl)) (ym 0 rfl ⟨[], trivial⟩) (Uu 22) (Uu 5) (Uu 9) rfl rfl rfl ?_
  refine yn rfl rfl rfl (by simp; omega) ?_
  refine (g3)<|(j0) ?_
  refine YL (q := 256) rfl rfl rfl (by omega) (by omega) ?_
  refine (jb) ?_
  refine Qzr ⟨i + 1, rfl, rfl, rfl, by omega⟩ ⟨by rw [Nat.pow_succ, ← Nat.div_div_eq_div_mul]; rfl, rfl, by rw [← zaH]; rfl, rfl, rfl, trivial⟩ trivial ?_
  omega
 ·have hik : i = k := by omega
  subst hik
  refine Qe<|(g6)<|(gt) ?_
  exact ⟨_, rfl, yt⟩
theorem xJ (l : LN) (hl : l.length ≤ 8) (hb : By l) : Fp G 157 #[sv l] (u (leN l)) := by
 refine Qf1 Tryz.func157 ?_
 refine (gd)<|(gd)<|(ge)<|(QU) ?_
 refine xH (q := 1) rfl rfl rfl (by omega) (by omega) ?_
 refine (g3)<|Qb ?_
 refine Qz (fun kk E m => ∃ (n : Nat), kk = 2 * n ∧ E = [(0, sv l), (3, u (leN (l.drop n))), (4, .int .i64 (((n : Nat) : Int) - 1))] ∧ m = [] ∧ (n ≤ l.length)) ⟨l.length, rfl, rfl, rfl, Nat.le_refl _⟩ ⟨rfl, by rw [List.drop_length]; rfl, rfl, trivial⟩ trivial ?_
 rintro kk E m ⟨n, rfl, rfl, rfl, hf0_0⟩
 refine (ge)<|(QE)<|Qn ?_
 refine (Qcd) (fun hc0=>?_) fun hc0=>?_
 ·obtain ⟨i, rfl⟩ : ∃ i, n = i + 1 := ⟨n - 1, by omega⟩
  have hsm := zag hl hb i
  have hbi : l[i] < 256 := hb _ (List.getElem_mem _)
  refine Qk<|Qs<|Qb<|(j0) ?_
  refine xh (q := 256) rfl rfl rfl  ?_
  refine (Au (Nat.mod_eq_of_lt (show leN (l.drop (i + 1)) * 256 < 18446744073709551616 by omega)))<|(gb) ?_
  refine z6 (congrArg (Value.int .i64) (show ((i + 1 : Nat) : Int) - 1 = ((i : Nat) : Int) by omega)) ?_
  refine Zm (Uu 9) rfl rfl (List.getElem?_eq_getElem (show i < l.length by omega)) (hb _ (List.getElem_mem _)) rfl ?_
  refine xz (Uu 5) (Uu 31) rfl rfl rfl ?_
  refine (Au (Nat.mod_eq_of_lt (show l[i] < 18446744073709551616 by omega)))<|(Qau) ?_
  refine (Au (Nat.mod_eq_of_lt (show leN (l.drop (i + 1)) * 256 + l[i] < 18446744073709551616 by omega)))<|(g3)<|(j0) ?_
  refine xH (q := 1) rfl rfl rfl (by omega) (by omega) ?_
  refine (g3) ?_
  refine Qzr ⟨i, rfl, rfl, rfl, by omega⟩ ⟨rfl, by rw [zfr (show i < l.length by omega)]; rfl, congrArg (fun z => some (Value.int .i64 z)) (show ((i + 1 : Nat) : Int) - 1 - 1 = ((i : Nat) : Int) - 1 by omega), trivial⟩ trivial ?_
  omega
 ·have hn0 : n = 0 := by omega
  subst hn0
  refine Qe<|(g6)<|(gt) ?_
  exact ⟨_, rfl, yt⟩
theorem z2c (r p a h : NN) (n : Int) (l : LN) (hl : l.length ≤ 16) (hb : By l) (ha0 : a 0 < 18446744073709551616) (ha1 : a 1 < 18446744073709551616) (ha2 : a 2 < 4) (hr0 : r 0 < 18446744073709551616) (hr1 : r 1 < 18446744073709551616) : Fp G 228 #[PV r p a h n, sv l] (PV r p (wd (pst (k3 r) (w3 a) l)) (fun _ => 0) 0) := by
 have hB : leN (l ++ [1]) < 2 ^ 130 := Nat.lt_trans (z0i hb hl) (by decide)
 have hA := ze5 ha0 ha1 ha2
 obtain ⟨B, hBe⟩ : ∃ B, B = leN (l ++ [1]) := ⟨_, rfl⟩
 rw [← hBe] at hB
 have hps : pst (k3 r) (w3 a) l = (w3 a + B) % QQ * k3 r % QQ := by rw [hBe]; rfl
 refine Qf1 Tryz.func228 ?_
 refine (g4)<|(Qh 0) fun r1=>(QH 1) fun r2=>Qn<|(g6) ?_
 refine yn (k := [1]) rfl rfl rfl (by simp; omega) ?_
 refine (g3)<|Qs<|Qb ?_
 refine Qz (fun kk E m => ∃ (z : Nat), kk = 24 - z ∧ E = [(1, sv l), (2, ptr r1), (4, ptr r2), (5, sv (bl l z))] ∧ m = [(0, some ⟨r1, cells 24 [pI .u64 2 r, pI .u64 2 p, pI .u64 3 a, pI .u8 16 h, pV (.int .i64 n)], 247⟩), (1, some ⟨r2, cells 24 [pI .u64 2 (fun _ => 0), pI .u64 2 (fun _ => 0), pI .u64 3 (fun _ => 0), pI .u8 16 (fun _ => 0), pV (.int .i64 0)], 247⟩)] ∧ (l.length + 1 + z ≤ 24)) ⟨0, rfl, rfl, rfl, by omega⟩ ⟨rfl, rfl, rfl, by rw [← List.append_nil (l ++ [1])]; rfl, trivial⟩ ⟨rfl, rfl, trivial⟩ ?_
 rintro kk E m ⟨z, rfl, rfl, rfl, hf0_0⟩
 have hbm := zeT l z
 refine (ge)<|(QU)<|(Ql)<|Qn ?_
 refine (Qcd) (fun hc0=>?_) fun hc0=>?_
 ·refine Qk<|Qb<|Qp<|(Qm) ?_
  refine yn (k := [0]) rfl rfl rfl (by rw [zeT]; simp; omega) ?_
  refine (g3) ?_
  refine Qzr ⟨z + 1, rfl, rfl, rfl, by omega⟩ ⟨rfl, rfl, rfl, by rw [← zgP]; rfl, trivial⟩ ⟨rfl, rfl, trivial⟩ ?_
  omega
 ·have hbm : (bl l z).length = 24 := by omega
  have hbb := zlf hb z
  refine Qe<|(gr)<|(Qm) ?_
  refine zz 0 8 (Uu 9) rfl rfl rfl rfl ⟨_, rfl⟩ (by omega) (by omega) rfl ?_
  refine z9 rfl (Un 157) (xJ _ (by rw [List.length_take]; omega) (xW hbb _ _)) rfl rfl ?_
  refine (Av (u (w8 (bl l z) 0)))<|(Qm) ?_
  refine zz 8 16 (Uu 9) rfl rfl rfl ⟨_, rfl⟩ ⟨_, rfl⟩ (by omega) (by omega) rfl ?_
  refine z9 rfl (Un 157) (xJ _ (by rw [List.length_take]; omega) (xW hbb _ _)) rfl rfl ?_
  refine (Av (u (w8 (bl l z) 1)))<|(Qm) ?_
  refine zz 16 24 (Uu 9) rfl rfl rfl ⟨_, rfl⟩ ⟨_, rfl⟩ (by omega) (by omega) rfl ?_
  refine z9 rfl (Un 157) (xJ _ (by rw [List.length_take]; omega) (xW hbb _ _)) rfl rfl ?_
  refine (Av (u (w8 (bl l z) 2))) ?_
  refine zX (arr .u64 3 (w8 (bl l z))) (Ub 245 rfl) (Uu 245 rfl) (Uz 31 rfl) rfl rfl rfl ?_
  refine (Ca (vO _ (xd hbb 0) (xd hbb 1) (ziL hb hl hbm))) ?_
  refine z6 (congrArg p5 (((zdf hbm).trans (zdn l z)).trans hBe.symm)) ?_
  refine (QH 2) fun r3=>(Qt 2)<|(gl)<|(Qf 4)<|(Qv 2 0) ?_
  refine (Ca (vO a ha0 ha1 ha2))<|(QH 3) fun r4=>(Qt 3)<|Qn<|(jg) ?_
  refine Qz (fun kk E m => ∃ (i : Nat) (s : Nat → Nat), kk = 5 - i ∧ E = [(2, ptr r1), (4, ptr r2), (6, ptr r3), (7, ptr r4), (30, ii i)] ∧ m = [(0, some ⟨r1, cells 24 [pI .u64 2 r, pI .u64 2 p, pI .u64 3 a, pI .u8 16 h, pV (.int .i64 n)], 247⟩), (1, some ⟨r2, cells 24 [pI .u64 2 (fun _ => 0), pI .u64 2 (fun _ => 0), pI .u64 3 (fun _ => 0), pI .u8 16 (fun _ => 0), pV (.int .i64 0)], 247⟩), (2, some ⟨r3, arr .u64 5 (d26 B), 295⟩), (3, some ⟨r4, arr .u64 5 s, 295⟩)] ∧ (i ≤ 5) ∧ (∀ j, j < i → s j = d26 (w3 a) j + d26 B j) ∧ (∀ j, i ≤ j → s j = d26 (w3 a) j)) ⟨0, d26 (w3 a), rfl, rfl, rfl, by omega, fun j hj => absurd hj (Nat.not_lt_zero j), fun j _ => rfl⟩ ⟨rfl, rfl, rfl, rfl, rfl, trivial⟩ ⟨rfl, rfl, rfl, rfl, trivial⟩ ?_
  rintro kk E m ⟨i, s, rfl, rfl, rfl, hf1_0, hf1_1, hf1_2⟩
  have hd1 := yU (w3 a) i
  have hd2 := yU B i
  have hsi := hf1_2 i (Nat.le_refl i)
  refine (gq) ?_
  refine (Qcd) (fun hc1=>?_) fun hc1=>?_
  ·refine Qk<|Qs<|Qb<|Qs<|Qp<|(Qm)<|(Qa)<|Qn<|(Qg)<|(Qm)<|(Qi)<|(Q1 3)<|(Qm)<|(Qi)<|(Q1 2) ?_
   refine (Qau) ?_
   refine (Au (Nat.mod_eq_of_lt (show s i + d26 B i < 18446744073709551616 by omega)))<|(Qi)<|(Qu 3)<|(jc) ?_
   refine Qzr ⟨i + 1, upd s i _, rfl, rfl, rfl, by omega, yM hf1_1 (by rw [hf1_2 i (Nat.le_refl i)]), Xk hf1_2⟩ ⟨rfl, rfl, rfl, rfl, rfl, trivial⟩ ⟨rfl, rfl, rfl, rfl, trivial⟩ ?_
   omega
  ·have hi5 : i = 5 := by omega
   subst hi5
   refine Qe<|(gr)<|(Qd 3) ?_
   refine (Aa hf1_1) ?_
   refine z9 rfl (Un 245) (ZQ _ (fun j _ => by have := yU (w3 a) j; have := yU B j; omega)) rfl rfl ?_
   refine z6 (congrArg (fun z => p5 (z % QQ)) (zfz _ _ hA hB)) ?_
   refine (Qf 0)<|(Qj 0)<|(QI 0 0 0)<|(Qf 0)<|(Qj 1)<|(QI 0 1 0) ?_
   refine zX (arr .u64 3 (upd r 2 0)) (Ub 245 rfl) (Uu 245 rfl) (Uz 31 rfl) rfl rfl rfl ?_
   refine (Ca (vO (upd r 2 0) hr0 hr1 (by rw [z3z]; decide))) ?_
   refine z6 (congrArg p5 (zkH r)) ?_
   refine (Ca (zaJ _ _ (Yd _) (zkl hr0 hr1))) ?_
   refine z6 (congrArg p5 hps.symm) ?_
   refine (Ca (z1p _ (Yd _)))<|(Qf 4)<|(QtC 0 2)<|(gl) ?_
   refine wo (Ub 213 rfl) (Uu 213 rfl) z5u rfl ?_
   refine (Qf 7)<|(QtC 0 3)<|(Qf 23)<|(QtV 0 4)<|Qn<|(gc) ?_
   refine (Av (PV r p (wd (pst (k3 r) (w3 a) l)) (fun _ => 0) 0))<|(QW 1)<|Qn<|Qr ?_
   exact ⟨_, rfl, yb 1⟩
theorem vH (f : NN) (hf : L8 32 f) : Fp G 202 #[.agg (arr .u8 32 f)] (PV (w8 (bL f)) (fun j => w8 (bL f) (j + 2)) (fun _ => 0) (fun _ => 0) 0) := by
 have hLl := z6r f
 have hLb := z28 hf
 refine Qf1 Tryz.func202 ?_
 refine (g4)<|(Qh 0) fun r1=>(QH 1) fun r2=>Qn<|(jg) ?_
 refine Qz (fun kk E m => ∃ (i : Nat) (s : Nat → Nat), kk = 4 - i ∧ E = [(1, ptr r1), (2, ptr r2), (6, ii i)] ∧ m = [(0, some ⟨r1, arr .u8 32 s, 30⟩), (1, some ⟨r2, cells 24 [pI .u64 2 (fun _ => 0), pI .u64 2 (fun _ => 0), pI .u64 3 (fun _ => 0), pI .u8 16 (fun _ => 0), pV (.int .i64 0)], 247⟩)] ∧ (i ≤ 4) ∧ (∀ j, s j = mk1 f i j)) ⟨0, f, rfl, rfl, rfl, by omega, fun j => by unfold mk1; rw [if_neg (by omega)]⟩ ⟨rfl, rfl, rfl, trivial⟩ ⟨rfl, rfl, trivial⟩ ?_
 rintro kk E m ⟨i, s, rfl, rfl, rfl, hf0_0, hf0_1⟩
 refine (gq) ?_
 refine (Qcd) (fun hc0=>?_) fun hc0=>?_
 ·refine Qk<|Qs<|Qb<|Qs<|Qp<|(Qm)<|(Qa)<|Qn<|Qp<|(Qm)<|(Q7 4)<|(Q2 3)<|(Qi)<|(Q1 0) ?_
  refine VW (q := 15) rfl rfl rfl  ?_
  refine (ji)<|(jc) ?_
  refine Qzr ⟨i + 1, upd s (4 * i + 3) _, rfl, rfl, rfl, by omega, zcj hf0_1⟩ ⟨rfl, rfl, rfl, trivial⟩ ⟨rfl, rfl, trivial⟩ ?_
  omega
 ·have hi4 : i = 4 := by omega
  subst hi4
  refine Qe<|Qs<|(gd)<|Qb ?_
  refine Qz (fun kk E m => ∃ (e : Nat) (q : Nat → Nat), kk = 3 - e ∧ E = [(1, ptr r1), (2, ptr r2), (4, ii (4 * (e + 1)))] ∧ m = [(0, some ⟨r1, arr .u8 32 q, 30⟩), (1, some ⟨r2, cells 24 [pI .u64 2 (fun _ => 0), pI .u64 2 (fun _ => 0), pI .u64 3 (fun _ => 0), pI .u8 16 (fun _ => 0), pV (.int .i64 0)], 247⟩)] ∧ (e ≤ 3) ∧ (∀ j, q j = mk2 f e j)) ⟨0, s, rfl, rfl, rfl, by omega, fun j => (hf0_1 j).trans (zh9 j)⟩ ⟨rfl, rfl, rfl, trivial⟩ ⟨rfl, rfl, trivial⟩ ?_
  rintro kk E m ⟨e, q, rfl, rfl, rfl, hf1_0, hf1_1⟩
  refine (ge)<|(Ql)<|Qn ?_
  refine (Qcd) (fun hc1=>?_) fun hc1=>?_
  ·refine Qk<|Qs<|Qb<|Qp<|(Qm)<|(Qi)<|(Q1 0) ?_
   refine VW (q := 252) rfl rfl rfl  ?_
   refine (ji)<|Qn<|(j0)<|(Q2 4)<|(g3) ?_
   refine Qzr ⟨e + 1, upd q (4 * (e + 1)) _, rfl, rfl, rfl, by omega, zg6 (by omega) hf1_1⟩ ⟨rfl, rfl, rfl, trivial⟩ ⟨rfl, rfl, trivial⟩ ?_
   omega
  ·have he3 : e = 3 := by omega
   subst he3
   refine (jn)<|(Qsa 0 32)<|(QcS 0) ?_
   refine z6 ((wm q 32).trans (congrArg sv (zkv hf1_1))) ?_
   refine (g3)<|(gr)<|(Qm) ?_
   refine zz 0 8 (Uu 9) rfl rfl rfl rfl ⟨_, rfl⟩ (by omega) (by omega) rfl ?_
   refine z9 rfl (Un 157) (xJ _ (by rw [List.length_take]; omega) (xW hLb _ _)) rfl rfl ?_
   refine (Av (u (w8 (bL f) 0)))<|(Qm) ?_
   refine zz 8 16 (Uu 9) rfl rfl rfl ⟨_, rfl⟩ ⟨_, rfl⟩ (by omega) (by omega) rfl ?_
   refine z9 rfl (Un 157) (xJ _ (by rw [List.length_take]; omega) (xW hLb _ _)) rfl rfl ?_
   refine (Av (u (w8 (bL f) 1))) ?_
   refine zX (arr .u64 2 (w8 (bL f))) (Ub 244 rfl) (Uu 244 rfl) (Uz 31 rfl) rfl rfl rfl ?_
   refine (Qm) ?_
   refine zz 16 24 (Uu 9) rfl rfl rfl ⟨_, rfl⟩ ⟨_, rfl⟩ (by omega) (by omega) rfl ?_
   refine z9 rfl (Un 157) (xJ _ (by rw [List.length_take]; omega) (xW hLb _ _)) rfl rfl ?_
   refine (Av (u (w8 (bL f) (0 + 2))))<|(Qm) ?_
   refine zz 24 32 (Uu 9) rfl rfl rfl ⟨_, rfl⟩ hLl.symm (by omega) (by omega) rfl ?_
   refine z9 rfl (Un 157) (xJ _ (by rw [List.length_take]; omega) (xW hLb _ _)) rfl rfl ?_
   refine (Av (u (w8 (bL f) (1 + 2)))) ?_
   refine zX (arr .u64 2 (fun j => w8 (bL f) (j + 2))) (Ub 244 rfl) (Uu 244 rfl) (Uz 31 rfl) rfl rfl rfl ?_
   refine zC (cells 24 [pI .u64 2 (w8 (bL f)), pI .u64 2 (fun j => w8 (bL f) (j + 2)), pI .u64 3 (fun _ => 0), pI .u8 16 (fun _ => 0), pV (.int .i64 0)]) (Ub 247 rfl) (Uu 247 rfl) zfC rfl rfl rfl ?_
   refine (QW 1)<|Qn<|Qr ?_
   exact ⟨_, rfl, yb 1⟩
end Go.Proofs.YtlidhfijmcelpaaGreatDoor
