import Derived.Test.YthljakcegoohlaaDoorKS3
import Derived.Test.YthljakcegoohlaaDoorRows
/-
  Rules with short names.
-/
namespace Go.Proofs.YthljakcegoohlaaDoor
open Go Go.RowKit
variable {G : Mem} {R : Reg} {ops : Array Oper} {n : Nat} {K : Env → Mm → Prop} {Q : Exit → Env → Mm → Prop} {rest : List Oper} {E : Env} {M : Mm} {d : Nat} {ty : TypeId} {pos : String} {aft : Array Edge} {T : TypeId} {T' : TypeId} {x : Operand} {y : Operand}
theorem Qs {c : Code} {c' : Code} : (SatE Tryd.prog G c n (thenE (SatE Tryd.prog G c' n Q) Q) E M) → SatE Tryd.prog G (.seq c c') n Q E M := fun h => e_seq h
theorem Qp {id : Nat} : (OpsE Tryd.prog G noReg ops n (Q .normal) ops.toList E M) → SatE Tryd.prog G (.region id ops false) n Q E M := fun h => e_plain h
theorem Qn : (K E M) → OpsE Tryd.prog G R ops n K [] E M := fun h => e_nil h
theorem Qk : (Q .normal E M) → SatE Tryd.prog G .skip n Q E M := fun h => e_skip h
theorem Qb {id : Nat} {c : Code} : (SatE Tryd.prog G c n (inBlockE id Q) E M) → SatE Tryd.prog G (.block id c) n Q E M := fun h => e_block h
theorem Qe {id : Nat} : (Q (.exit id) E M) → SatE Tryd.prog G (.exit id) n Q E M := fun h => e_exit h
theorem Qr : (Q .ret E M) → SatE Tryd.prog G .ret n Q E M := fun h => e_ret h
theorem Qm {v : Value} (hx : rd E x = some v := by rfl) (hd : Nat.blt d n = true := by rfl) : (OpsE Tryd.prog G R ops n K rest ((d, v) :: E) M) → OpsE Tryd.prog G R ops n K (⟨some d, .move x, ty, pos, aft, none⟩ :: rest) E M := fun h => e_move hx hd h
theorem Qa {v : Value} (hx : rd E x = some v := by rfl) (hd : Nat.blt d n = true := by rfl) : (OpsE Tryd.prog G R ops n K rest ((d, v) :: E) M) → OpsE Tryd.prog G R ops n K (⟨some d, .assign x, ty, pos, aft, none⟩ :: rest) E M := fun h => e_assign hx hd h
theorem Qx {i : Nat} {vs : Array Value} {v : Value} (hx : rd E x = some (.tuple vs) := by rfl) (hv : vs[i]? = some v := by rfl) (hd : Nat.blt d n = true := by rfl) : (OpsE Tryd.prog G R ops n K rest ((d, v) :: E) M) → OpsE Tryd.prog G R ops n K (⟨some d, .extract x i, ty, pos, aft, none⟩ :: rest) E M := fun h => e_extract hx hv hd h
theorem Qy {dd : Option Tmp} {op : Op} {g : Nat} {s : Nat} {want : Bool} {b : Bool} (hg : (ops[g]?).bind (·.dst) = some s := by rfl) (hb : lk E s = some (.bool b) := by rfl) (hw : b = want := by rfl) : (OpsE Tryd.prog G R ops n K (⟨dd, op, ty, pos, aft, none⟩ :: rest) E M) → OpsE Tryd.prog G R ops n K (⟨dd, op, ty, pos, aft, some (g, want)⟩ :: rest) E M := fun h => e_yes hg hb hw h
theorem Qo {op : Op} {g : Nat} {s : Nat} {want : Bool} {b : Bool} (hg : (ops[g]?).bind (·.dst) = some s := by rfl) (hb : lk E s = some (.bool b) := by rfl) (hw : b ≠ want := by decide) (hd : Nat.blt d n = true := by rfl) : (OpsE Tryd.prog G R ops n K rest ((d, undef) :: E) M) → OpsE Tryd.prog G R ops n K (⟨some d, op, ty, pos, aft, some (g, want)⟩ :: rest) E M := fun h => e_no hg hb hw hd h
theorem QT {p : Operand} {q : Operand} {r : Operand} {t : Bool} {v : Value} (hc : rd E p = some (.bool t) := by rfl) (ht : t = true := by rfl) (hv : rd E q = some v := by rfl) (hd : Nat.blt d n = true := by rfl) : (OpsE Tryd.prog G R ops n K rest ((d, v) :: E) M) → OpsE Tryd.prog G R ops n K (⟨some d, .pick p q r, ty, pos, aft, none⟩ :: rest) E M := fun h => e_pickT hc ht hv hd h
theorem QF {p : Operand} {q : Operand} {r : Operand} {t : Bool} {v : Value} (hc : rd E p = some (.bool t) := by rfl) (ht : t = false := by rfl) (hv : rd E r = some v := by rfl) (hd : Nat.blt d n = true := by rfl) : (OpsE Tryd.prog G R ops n K rest ((d, v) :: E) M) → OpsE Tryd.prog G R ops n K (⟨some d, .pick p q r, ty, pos, aft, none⟩ :: rest) E M := fun h => e_pickF hc ht hv hd h
theorem Qg {id : Nat} (hm : Tryd.prog.follows .mixedOrders = true := by exact mixed) (hok : orderOk noReg ops (List.range ops.size) = true := by kernel_rfl) : (OpsE Tryd.prog G noReg ops n (Q .normal) ops.toList E M) → SatE Tryd.prog G (.region id ops true) n Q E M := fun h => e_draw hm hok h
theorem QR {id : Nat} (R : Reg) : (OpsE Tryd.prog G R ops n (Q .normal) ops.toList E M) → SatE Tryd.prog G (.region id ops false) n Q E M := fun h => e_plainR R h
theorem Qq {id : Nat} (R : Reg) (hm : Tryd.prog.follows .mixedOrders = true := by exact mixed) (hok : orderOk R ops (List.range ops.size) = true := by kernel_rfl) : (OpsE Tryd.prog G R ops n (Q .normal) ops.toList E M) → SatE Tryd.prog G (.region id ops true) n Q E M := fun h => e_drawR R hm hok h
theorem Ql {k : IntKind} {p : Int} {q : Int} (hx : rd E x = some (.int k p) := by rfl) (hy : rd E y = some (.int k q) := by rfl) (hd : Nat.blt d n = true := by rfl) : (OpsE Tryd.prog G R ops n K rest ((d, .bool (decide (p < q))) :: E) M) → OpsE Tryd.prog G R ops n K (⟨some d, .binOp .lss T x y T', ty, pos, aft, none⟩ :: rest) E M := fun h => e_lt hx hy hd h
theorem QG {k : IntKind} {p : Int} {q : Int} (hx : rd E x = some (.int k p) := by rfl) (hy : rd E y = some (.int k q) := by rfl) (hd : Nat.blt d n = true := by rfl) : (OpsE Tryd.prog G R ops n K rest ((d, .bool (decide (q < p))) :: E) M) → OpsE Tryd.prog G R ops n K (⟨some d, .binOp .gtr T x y T', ty, pos, aft, none⟩ :: rest) E M := fun h => e_gt hx hy hd h
theorem QL {k : IntKind} {p : Int} {q : Int} (hx : rd E x = some (.int k p) := by rfl) (hy : rd E y = some (.int k q) := by rfl) (hd : Nat.blt d n = true := by rfl) : (OpsE Tryd.prog G R ops n K rest ((d, .bool (decide (p ≤ q))) :: E) M) → OpsE Tryd.prog G R ops n K (⟨some d, .binOp .leq T x y T', ty, pos, aft, none⟩ :: rest) E M := fun h => e_le hx hy hd h
theorem QE {k : IntKind} {p : Int} {q : Int} (hx : rd E x = some (.int k p) := by rfl) (hy : rd E y = some (.int k q) := by rfl) (hd : Nat.blt d n = true := by rfl) : (OpsE Tryd.prog G R ops n K rest ((d, .bool (decide (q ≤ p))) :: E) M) → OpsE Tryd.prog G R ops n K (⟨some d, .binOp .geq T x y T', ty, pos, aft, none⟩ :: rest) E M := fun h => e_ge hx hy hd h
theorem Qc {k : IntKind} {p : Int} {q : Int} (hx : rd E x = some (.int k p) := by rfl) (hy : rd E y = some (.int k q) := by rfl) (hd : Nat.blt d n = true := by rfl) : (OpsE Tryd.prog G R ops n K rest ((d, .bool (decide (p = q))) :: E) M) → OpsE Tryd.prog G R ops n K (⟨some d, .binOp .eql T x y T', ty, pos, aft, none⟩ :: rest) E M := fun h => e_eq hx hy hd h
theorem QN {k : IntKind} {p : Int} {q : Int} (hx : rd E x = some (.int k p) := by rfl) (hy : rd E y = some (.int k q) := by rfl) (hd : Nat.blt d n = true := by rfl) : (OpsE Tryd.prog G R ops n K rest ((d, .bool (decide (p ≠ q))) :: E) M) → OpsE Tryd.prog G R ops n K (⟨some d, .binOp .neq T x y T', ty, pos, aft, none⟩ :: rest) E M := fun h => e_ne hx hy hd h
theorem Q0 {b : Bool} (hx : rd E x = some (.bool b) := by rfl) (hd : Nat.blt d n = true := by rfl) : (OpsE Tryd.prog G R ops n K rest ((d, .bool (!b)) :: E) M) → OpsE Tryd.prog G R ops n K (⟨some d, .unOp .not T x, ty, pos, aft, none⟩ :: rest) E M := fun h => e_not hx hd h
theorem Qd {b : Nat} {l : Nat} {c : Array Value} {t : TypeId} {td : TypeDesc} (i : Nat) (hT : Tryd.prog.underlying T = some td := by exact Tu rfl) (hn : rowLike td = true := by rfl) (hs : (Tryd.prog.info? T).map (·.size) = some l := by exact Tz rfl) (hx : rd E x = some (.pointer (some ⟨b, 0, none⟩)) := by rfl) (hm : lkM M i = some ⟨b, c, t⟩ := by rfl) (hl : c.size = l := by exact (arr_size _ _ _)) (hd : Nat.blt d n = true := by rfl) (hX : ∃ js, okXL M i js R := by exact ⟨[], trivial⟩) : (OpsE Tryd.prog G R ops n K rest ((d, .agg c) :: E) M) → OpsE Tryd.prog G R ops n K (⟨some d, .load T x, ty, pos, aft, none⟩ :: rest) E M := fun h => e_loadA (i := i) hT hn hs hx hm hl hd hX h
theorem QD {b : Nat} {l : Nat} {c : Array Value} {t : TypeId} {td : TypeDesc} (i : Nat) (hT : Tryd.prog.underlying T = some td := by exact Tu rfl) (hn : rowLike td = true := by rfl) (hs : (Tryd.prog.info? T).map (·.size) = some l := by exact Tz rfl) (hx : rd E x = some (.pointer (some ⟨b, 0, none⟩)) := by rfl) (hm : lkM M i = some ⟨b, c, t⟩ := by rfl) (hl : c.size = l := by exact (arrv_size _ _)) (hd : Nat.blt d n = true := by rfl) (hX : ∃ js, okXL M i js R := by exact ⟨[], trivial⟩) : (OpsE Tryd.prog G R ops n K rest ((d, .agg c) :: E) M) → OpsE Tryd.prog G R ops n K (⟨some d, .load T x, ty, pos, aft, none⟩ :: rest) E M := fun h => e_loadA (i := i) hT hn hs hx hm hl hd hX h
theorem Q1 {b : Nat} {o : Nat} {c : Array Value} {t : TypeId} {v : Value} {td : TypeDesc} (i : Nat) (hT : Tryd.prog.underlying T = some td := by exact Tu rfl) (hn : rowLike td = false := by rfl) (hx : rd E x = some (.pointer (some ⟨b, o, none⟩)) := by rfl) (hm : lkM M i = some ⟨b, c, t⟩ := by rfl) (hc : c[o]? = some v := by exact (arr_get (by omega))) (hd : Nat.blt d n = true := by rfl) (hX : ∃ js, okXL M i js R := by exact ⟨[], trivial⟩) : (OpsE Tryd.prog G R ops n K rest ((d, v) :: E) M) → OpsE Tryd.prog G R ops n K (⟨some d, .load T x, ty, pos, aft, none⟩ :: rest) E M := fun h => e_load1 (i := i) hT hn hx hm hc hd hX h
theorem Qt {b : Nat} {l : Nat} {c : Array Value} {c' : Array Value} {t : TypeId} (i : Nat) (hs : (Tryd.prog.info? T).map (·.size) = some l := by exact Tz rfl) (hx : rd E x = some (.pointer (some ⟨b, 0, none⟩)) := by rfl) (hy : rd E y = some (.agg c') := by rfl) (hl : c'.size = l := by exact (arr_size _ _ _)) (hv : ∀ v ∈ c', v.oneCell' = true := by exact arr_one) (hm : lkM M i = some ⟨b, c, t⟩ := by rfl) (ho : c'.size = c.size := by exact (arr_sz _ _ _ _ _)) (hX : R.X = [] ∨ b ∈ R.X := by exact (.inl rfl)) : (OpsE Tryd.prog G R ops n K rest E ((i, some ⟨b, c', t⟩) :: M)) → OpsE Tryd.prog G R ops n K (⟨none, .store T x y, ty, pos, aft, none⟩ :: rest) E M := fun h => e_storeA (i := i) hs hx hy hl hv hm ho hX h
theorem Qu {b : Nat} {o : Nat} {l : Nat} {v : Nat} {k : IntKind} {f : Nat → Nat} {t : TypeId} (i : Nat) (hs : (Tryd.prog.info? T).map (·.size) = some 1 := by exact Tz rfl) (hx : rd E x = some (.pointer (some ⟨b, o, none⟩)) := by rfl) (hy : rd E y = some (.int k (v : Int)) := by rfl) (hm : lkM M i = some ⟨b, arr k l f, t⟩ := by rfl) (ho : o < l := by omega) (hX : R.X = [] ∨ b ∈ R.X := by exact (.inl rfl)) : (OpsE Tryd.prog G R ops n K rest E ((i, some ⟨b, arr k l (upd f o v), t⟩) :: M)) → OpsE Tryd.prog G R ops n K (⟨none, .store T x y, ty, pos, aft, none⟩ :: rest) E M := fun h => e_storeN (i := i) hs hx hy hm ho hX h
theorem Qf {b : Nat} {o : Nat} {f : Nat} {sz : Nat} {fs : Array Field} {fd : Field} (o' : Nat) (hT : Tryd.prog.underlying T = some (.struct fs) := by exact Tu rfl) (hf : fs[f]? = some fd := by rfl) (hs : (Tryd.prog.info? fd.type).map (·.size) = some (sz + 1) := by exact Tz rfl) (hx : rd E x = some (.pointer (some ⟨b, o, none⟩)) := by rfl) (ho : o + fd.offset = o' := by rfl) (hd : Nat.blt d n = true := by rfl) : (OpsE Tryd.prog G R ops n K rest ((d, .pointer (some ⟨b, o', none⟩)) :: E) M) → OpsE Tryd.prog G R ops n K (⟨some d, .fieldAddr T x f, ty, pos, aft, none⟩ :: rest) E M := fun h => e_fld o' hT hf hs hx ho hd h
theorem Qi {b : Nat} {j : Nat} {l : Nat} {k : IntKind} {e : TypeId} (hT : Tryd.prog.underlying T = some (.array l e) := by exact Tu rfl) (hs : (Tryd.prog.info? e).map (·.size) = some 1 := by exact Tz rfl) (hx : rd E x = some (.pointer (some ⟨b, 0, none⟩)) := by rfl) (hy : rd E y = some (.int k (j : Int)) := by rfl) (hj : j < l := by omega) (hd : Nat.blt d n = true := by rfl) : (OpsE Tryd.prog G R ops n K rest ((d, .pointer (some ⟨b, j, none⟩)) :: E) M) → OpsE Tryd.prog G R ops n K (⟨some d, .indexAddr T x y, ty, pos, aft, none⟩ :: rest) E M := fun h => e_index0 hT hs hx hy hj hd h
theorem Qj {b : Nat} {l : Nat} {k : IntKind} {e : TypeId} (j : Nat) (hT : Tryd.prog.underlying T = some (.array l e) := by exact Tu rfl) (hs : (Tryd.prog.info? e).map (·.size) = some 1 := by exact Tz rfl) (hx : rd E x = some (.pointer (some ⟨b, 0, none⟩)) := by rfl) (hy : rd E y = some (.int k (j : Int)) := by rfl) (hj : j < l := by omega) (hd : Nat.blt d n = true := by rfl) : (OpsE Tryd.prog G R ops n K rest ((d, .pointer (some ⟨b, j, none⟩)) :: E) M) → OpsE Tryd.prog G R ops n K (⟨some d, .indexAddr T x y, ty, pos, aft, none⟩ :: rest) E M := fun h => e_index0 (j := j) hT hs hx hy hj hd h
theorem QA {b : Nat} {o : Nat} {l : Nat} {z : Nat} {k : IntKind} {e : TypeId} (o' : Nat) (j : Nat) (hT : Tryd.prog.underlying T = some (.array l e) := by exact Tu rfl) (hs : (Tryd.prog.info? e).map (·.size) = some (z + 1) := by exact Tz rfl) (hx : rd E x = some (.pointer (some ⟨b, o, none⟩)) := by rfl) (hy : rd E y = some (.int k (j : Int)) := by rfl) (hj : j < l := by omega) (ho : o + j * (z + 1) = o' := by omega) (hd : Nat.blt d n = true := by rfl) : (OpsE Tryd.prog G R ops n K rest ((d, .pointer (some ⟨b, o', none⟩)) :: E) M) → OpsE Tryd.prog G R ops n K (⟨some d, .indexAddr T x y, ty, pos, aft, none⟩ :: rest) E M := fun h => e_at (j := j) o' hT hs hx hy hj ho hd h
theorem QB {b : Nat} {o : Nat} {j : Nat} {l : Nat} {z : Nat} {k : IntKind} {e : TypeId} (o' : Nat) (hT : Tryd.prog.underlying T = some (.array l e) := by exact Tu rfl) (hs : (Tryd.prog.info? e).map (·.size) = some (z + 1) := by exact Tz rfl) (hx : rd E x = some (.pointer (some ⟨b, o, none⟩)) := by rfl) (hy : rd E y = some (.int k (j : Int)) := by rfl) (hj : j < l := by omega) (ho : o + j * (z + 1) = o' := by omega) (hd : Nat.blt d n = true := by rfl) : (OpsE Tryd.prog G R ops n K rest ((d, .pointer (some ⟨b, o', none⟩)) :: E) M) → OpsE Tryd.prog G R ops n K (⟨some d, .indexAddr T x y, ty, pos, aft, none⟩ :: rest) E M := fun h => e_at o' hT hs hx hy hj ho hd h
theorem Qh {v : Value} (i : Nat) (hx : rd E x = some v := by rfl) (hd : Nat.blt d n = true := by rfl) : (∀ r, OpsE Tryd.prog G R ops n K rest ((d, ptr r) :: E) ((i, some ⟨r, v.cells, T⟩) :: M)) → OpsE Tryd.prog G R ops n K (⟨some d, .box T x, ty, pos, aft, none⟩ :: rest) E M := fun h => e_box i hx hd h
theorem QH {z : Value} (i : Nat) (hz : (Tryd.prog.info? T).bind (·.zero) = some z := by exact Tb rfl) (hd : Nat.blt d n = true := by rfl) : (∀ r, OpsE Tryd.prog G R ops n K rest ((d, ptr r) :: E) ((i, some ⟨r, z.cells, T⟩) :: M)) → OpsE Tryd.prog G R ops n K (⟨some d, .alloc T, ty, pos, aft, none⟩ :: rest) E M := fun h => e_alloc i hz hd h
theorem Qv {b : Nat} {o : Nat} {l : Nat} {N : Nat} {kd : IntKind} {f : Nat → Nat} {ps : List Part} {t : TypeId} {td : TypeDesc} (k : Nat) (i : Nat) (hT : Tryd.prog.underlying T = some td := by exact Tu rfl) (hn : rowLike td = true := by rfl) (hs : (Tryd.prog.info? T).map (·.size) = some l := by exact Tz rfl) (hx : rd E x = some (.pointer (some ⟨b, o, none⟩)) := by rfl) (hm : lkM M i = some ⟨b, cells N ps, t⟩ := by rfl) (hk : catAt ps k = some (o, pI kd l f) := by rfl) (ho : o + l ≤ N := by decide) (hd : Nat.blt d n = true := by rfl) (hX : ∃ js, okXL M i js R := by exact ⟨[], trivial⟩) : (OpsE Tryd.prog G R ops n K rest ((d, .agg (arr kd l f)) :: E) M) → OpsE Tryd.prog G R ops n K (⟨some d, .load T x, ty, pos, aft, none⟩ :: rest) E M := fun h => e_ldC (i := i) k hT hn hs hx hm hk ho hd hX h
theorem QV {b : Nat} {o : Nat} {N : Nat} {v : Value} {ps : List Part} {t : TypeId} {td : TypeDesc} (k : Nat) (i : Nat) (hT : Tryd.prog.underlying T = some td := by exact Tu rfl) (hn : rowLike td = false := by rfl) (hx : rd E x = some (.pointer (some ⟨b, o, none⟩)) := by rfl) (hm : lkM M i = some ⟨b, cells N ps, t⟩ := by rfl) (hk : catAt ps k = some (o, pV v) := by rfl) (hN : o < N := by decide) (hd : Nat.blt d n = true := by rfl) (hX : ∃ js, okXL M i js R := by exact ⟨[], trivial⟩) : (OpsE Tryd.prog G R ops n K rest ((d, v) :: E) M) → OpsE Tryd.prog G R ops n K (⟨some d, .load T x, ty, pos, aft, none⟩ :: rest) E M := fun h => e_ldV1 (i := i) k hT hn hx hm hk hN hd hX h
theorem QI {b : Nat} {o : Nat} {o' : Nat} {l : Nat} {N : Nat} {kd : IntKind} {f : Nat → Nat} {ps : List Part} {t : TypeId} {td : TypeDesc} (k : Nat) (j : Nat) (i : Nat) (hT : Tryd.prog.underlying T = some td := by exact Tu rfl) (hn : rowLike td = false := by rfl) (hx : rd E x = some (.pointer (some ⟨b, o', none⟩)) := by rfl) (hm : lkM M i = some ⟨b, cells N ps, t⟩ := by rfl) (hk : catAt ps k = some (o, pI kd l f) := by rfl) (ho : o' = o + j := by rfl) (hj : j < l := by decide) (hN : o' < N := by decide) (hd : Nat.blt d n = true := by rfl) (hX : ∃ js, okXL M i js R := by exact ⟨[], trivial⟩) : (OpsE Tryd.prog G R ops n K rest ((d, .int kd (f j : Int)) :: E) M) → OpsE Tryd.prog G R ops n K (⟨some d, .load T x, ty, pos, aft, none⟩ :: rest) E M := fun h => e_ldI (i := i) k j hT hn hx hm hk ho hj hN hd hX h
theorem Q2 {p : Nat} (q : Nat) (hx : rd E x = some (ii p) := by rfl) (hy : rd E y = some (ii q) := by rfl) (hd : Nat.blt d n = true := by rfl) (hb : p + q < 9223372036854775808 := by omega) : (OpsE Tryd.prog G R ops n K rest ((d, ii (p + q)) :: E) M) → OpsE Tryd.prog G R ops n K (⟨some d, .binOp .add T x y T', ty, pos, aft, none⟩ :: rest) E M := fun h => e_add_i (q := q) hx hy hd hb h
theorem Q3 {p : Nat} {q : Nat} (hx : rd E x = some (ii p) := by rfl) (hy : rd E y = some (ii q) := by rfl) (hd : Nat.blt d n = true := by rfl) (hb : p + q < 9223372036854775808 := by omega) : (OpsE Tryd.prog G R ops n K rest ((d, ii (p + q)) :: E) M) → OpsE Tryd.prog G R ops n K (⟨some d, .binOp .add T x y T', ty, pos, aft, none⟩ :: rest) E M := fun h => e_add_i hx hy hd hb h
theorem Q4 {p : Nat} (q : Nat) (hx : rd E x = some (ii p) := by rfl) (hy : rd E y = some (ii q) := by rfl) (hd : Nat.blt d n = true := by rfl) (hq : 0 < q := by omega) : (OpsE Tryd.prog G R ops n K rest ((d, ii (p % q)) :: E) M) → OpsE Tryd.prog G R ops n K (⟨some d, .binOp .rem T x y T', ty, pos, aft, none⟩ :: rest) E M := fun h => e_rem_i (q := q) hx hy hd hq h
theorem Q5 {p : Nat} (q : Nat) (hx : rd E x = some (ii p) := by rfl) (hy : rd E y = some (ii q) := by rfl) (hd : Nat.blt d n = true := by rfl) (hp : p < 9223372036854775808 := by omega) (hq : 0 < q := by omega) : (OpsE Tryd.prog G R ops n K rest ((d, ii (p / q)) :: E) M) → OpsE Tryd.prog G R ops n K (⟨some d, .binOp .quo T x y T', ty, pos, aft, none⟩ :: rest) E M := fun h => e_quo_i (q := q) hx hy hd hp hq h
theorem Q6 {p : Nat} (q : Nat) (hx : rd E x = some (ii p) := by rfl) (hy : rd E y = some (ii q) := by rfl) (hd : Nat.blt d n = true := by rfl) (hb : p * q < 9223372036854775808 := by omega) : (OpsE Tryd.prog G R ops n K rest ((d, ii (p * q)) :: E) M) → OpsE Tryd.prog G R ops n K (⟨some d, .binOp .mul T x y T', ty, pos, aft, none⟩ :: rest) E M := fun h => e_mul_i (q := q) hx hy hd hb h
theorem Q7 {q : Nat} (p : Nat) (hx : rd E x = some (ii p) := by rfl) (hy : rd E y = some (ii q) := by rfl) (hd : Nat.blt d n = true := by rfl) (hb : p * q < 9223372036854775808 := by omega) : (OpsE Tryd.prog G R ops n K rest ((d, ii (p * q)) :: E) M) → OpsE Tryd.prog G R ops n K (⟨some d, .binOp .mul T x y T', ty, pos, aft, none⟩ :: rest) E M := fun h => e_mul_i (p := p) hx hy hd hb h
theorem Q9 {p : Nat} (q : Nat) (hx : rd E x = some (u p) := by rfl) (hy : rd E y = some (u q) := by rfl) (hd : Nat.blt d n = true := by rfl) : (OpsE Tryd.prog G R ops n K rest ((d, u ((p &&& q) % 18446744073709551616)) :: E) M) → OpsE Tryd.prog G R ops n K (⟨some d, .binOp .and T x y T', ty, pos, aft, none⟩ :: rest) E M := fun h => e_and_u (q := q) hx hy hd h
theorem QU {l : List Nat} (hT : Tryd.prog.underlying T = some .string := by exact Tu rfl) (hx : rd E x = some (sv l) := by rfl) (hd : Nat.blt d n = true := by rfl) (hR : callOk R = true := by rfl) : (OpsE Tryd.prog G R ops n K rest ((d, ii l.length) :: E) M) → OpsE Tryd.prog G R ops n K (⟨some d, .call ⟨.builtin .len, #[x], #[T]⟩, ty, pos, aft, none⟩ :: rest) E M := fun h => e_lenStr hT hx hd hR h
theorem QX {j : Nat} {l : Nat} {k : IntKind} {k' : IntKind} {k2 : IntKind} {e : TypeId} {f : Nat → Nat} (hT : Tryd.prog.underlying T = some (.array l e) := by exact Tu rfl) (he : Tryd.prog.underlying e = some (.int k') := by exact Tu rfl) (hs : (Tryd.prog.info? e).map (·.size) = some 1 := by exact Tz rfl) (hx : rd E x = some (.agg (arr k l f)) := by rfl) (hy : rd E y = some (.int k2 (j : Int)) := by rfl) (hj : j < l := by omega) (hd : Nat.blt d n = true := by rfl) : (OpsE Tryd.prog G R ops n K rest ((d, .int k (f j : Int)) :: E) M) → OpsE Tryd.prog G R ops n K (⟨some d, .index T x y, ty, pos, aft, none⟩ :: rest) E M := fun h => e_idx hT he hs hx hy hj hd h
theorem QY {fn : Go.Fn} {fs : Array Operand} {cs : Array Operand} {vf : List Value} {vc : List Value} (h1 : rdl E fs.toList = some vf := by rfl) (h2 : rdl E cs.toList = some vc := by rfl) (hd : Nat.blt d n = true := by rfl) : (OpsE Tryd.prog G R ops n K rest ((d, .func fn vf.toArray vc.toArray) :: E) M) → OpsE Tryd.prog G R ops n K (⟨some d, .makeFunc fn fs cs, ty, pos, aft, none⟩ :: rest) E M := fun h => e_func h1 h2 hd h
theorem QC {e : TypeId} {v : Value} {B : Mem} {z : Nat} {k : Nat} {xs : List Value} (hv : Shows B z v k xs) (hT : Tryd.prog.underlying T = some (.slice e) := by exact Tu rfl) (hx : rd E x = some v := by rfl) (hd : Nat.blt d n = true := by rfl) (hR : callOk R = true := by rfl) : (OpsE Tryd.prog G R ops n K rest ((d, ii k) :: E) M) → OpsE Tryd.prog G R ops n K (⟨some d, .call ⟨.builtin .len, #[x], #[T]⟩, ty, pos, aft, none⟩ :: rest) E M := fun h => e_lenV hv hT hx hd hR h
theorem QS {l : List Oper} {s : Nat} {v : Value} {v' : Value} (hv : v = v' := by exact (congrArg (slAddr _) (Nat.mul_one _))) : (OpsE Tryd.prog G R ops n K l ((s, v') :: E) M) → OpsE Tryd.prog G R ops n K l ((s, v) :: E) M := fun h => e_as hv h
theorem Qat {l : List Oper} {s : Nat} {v : Value} {v' : Value} (hv : v = v' := by exact (congrArg Value.bool (decide_eq_true (by omega)))) : (OpsE Tryd.prog G R ops n K l ((s, v') :: E) M) → OpsE Tryd.prog G R ops n K l ((s, v) :: E) M := fun h => e_as hv h
theorem Qaf {l : List Oper} {s : Nat} {v : Value} {v' : Value} (hv : v = v' := by exact (congrArg Value.bool (decide_eq_false (by omega)))) : (OpsE Tryd.prog G R ops n K l ((s, v') :: E) M) → OpsE Tryd.prog G R ops n K l ((s, v) :: E) M := fun h => e_as hv h
theorem Qar {l : List Oper} {s : Nat} {v : Value} {v' : Value} (hv : v = v' := by exact (congrArg Value.bool (decide_eq_true rfl))) : (OpsE Tryd.prog G R ops n K l ((s, v') :: E) M) → OpsE Tryd.prog G R ops n K l ((s, v) :: E) M := fun h => e_as hv h
theorem Qct {c : Operand} {p : Code} {q : Code} (hc : rd E c = some (.bool true) := by rfl) : (SatE Tryd.prog G p n Q E M) → SatE Tryd.prog G (.cond c p q) n Q E M := fun h => e_condT hc h
theorem Qcf {c : Operand} {p : Code} {q : Code} (hc : rd E c = some (.bool false) := by rfl) : (SatE Tryd.prog G q n Q E M) → SatE Tryd.prog G (.cond c p q) n Q E M := fun h => e_condF hc h
theorem Qz {c : Code} (I : Nat → Env → Mm → Prop) {E0 : Env} {M0 : Mm} {k : Nat} (h0 : I k E0 M0) (hs : sub E0 E) (hl : subL M0 M) (round : ∀ k E M, I k E M → SatE Tryd.prog G c n (thenE (fun E' M' => ∃ k' E'' M'', k' < k ∧ sub E'' E' ∧ subL M'' M' ∧ I k' E'' M'') Q) E M) : SatE Tryd.prog G (.loop c) n Q E M := e_loop I E0 M0 k hs hl h0 round
theorem QzK {c : Code} (Ek : Env) (Mk : Mm) (I : Nat → Env → Mm → Prop) {E0 : Env} {M0 : Mm} {k : Nat} (h0 : I k E0 M0) (hs : sub (catE E0 Ek) E) (hl : subL (catL M0 Mk) M) (round : ∀ k E M, I k E M → SatE Tryd.prog G c n (thenE (fun E' M' => ∃ k' E'' M'', k' < k ∧ sub (catE E'' Ek) E' ∧ subL (catL M'' Mk) M' ∧ I k' E'' M'') Q) (catE E Ek) (catL M Mk)) : SatE Tryd.prog G (.loop c) n Q E M := e_loopK Ek Mk I E0 M0 k hs hl h0 round
theorem Qzr {I : Nat → Env → Mm → Prop} {k k' : Nat} {E' : Env} {M' : Mm} {E'' : Env} {M'' : Mm} (h : I k' E'' M'') (hs : sub E'' E') (hl : subL M'' M') (hk : k' < k) : ∃ k' E'' M'', k' < k ∧ sub E'' E' ∧ subL M'' M' ∧ I k' E'' M'' := ⟨_, _, _, hk, hs, hl, h⟩
theorem QzL {I : Nat → Env → Mm → Prop} {k k' : Nat} {Ek : Env} {Mk : Mm} {E' : Env} {M' : Mm} {E'' : Env} {M'' : Mm} (h : I k' E'' M'') (hs : sub (catE E'' Ek) E') (hl : subL (catL M'' Mk) M') (hk : k' < k) : ∃ k' E'' M'', k' < k ∧ sub (catE E'' Ek) E' ∧ subL (catL M'' Mk) M' ∧ I k' E'' M'' := ⟨_, _, _, hk, hs, hl, h⟩
theorem Qf1 {f : FuncId} {fn : Func} {c : Code} {vs : List Value} {v : Value} (hf : Tryd.prog.funcs[f]? = some fn) (h : SatE Tryd.prog G c n (End1 Tryd.prog fn v) (argE vs 0) []) (hb : fn.body = some c := by rfl) (hn : fn.ntmps = n := by rfl) (ha : vs.toArray.size ≤ n := by simp) : Fn Tryd.prog G f vs.toArray v := fn1 hf hb hn ha (argE vs 0) (argE_ok vs) h
theorem Qf2 {f : FuncId} {fn : Func} {c : Code} {vs : List Value} {v v' : Value} (hf : Tryd.prog.funcs[f]? = some fn) (h : SatE Tryd.prog G c n (End2 Tryd.prog fn v v') (argE vs 0) []) (hb : fn.body = some c := by rfl) (hn : fn.ntmps = n := by rfl) (ha : vs.toArray.size ≤ n := by simp) : Fn Tryd.prog G f vs.toArray (.tuple #[v, v']) := fn2 hf hb hn ha (argE vs 0) (argE_ok vs) h
theorem QfN {f : FuncId} {fn : Func} {c : Code} {vs : List Value} {e : TypeId} {z k : Nat} {xs : List Value} (hf : Tryd.prog.funcs[f]? = some fn) (h : SatE Tryd.prog G c n (EndN Tryd.prog e z k xs fn) (argE vs 0) []) (hb : fn.body = some c := by rfl) (hn : fn.ntmps = n := by rfl) (ha : vs.toArray.size ≤ n := by simp) : Fx Tryd.prog G [] f vs.toArray (fun v l1 nw => l1 = [] ∧ ∃ v', v = v' ∧ OwnS e z v' k xs nw) := fxN hf hb hn ha (argE vs 0) (argE_ok vs) h
theorem QfW {f : FuncId} {fn : Func} {c : Code} {vs : List Value} {b : Nat} {c0 c' : Array Value} {t : TypeId} (hf : Tryd.prog.funcs[f]? = some fn) (h : SatE Tryd.prog G c n (EndW b c' t fn) (argE vs 0) [(0, some ⟨b, c0, t⟩)]) (hb : fn.body = some c := by rfl) (hn : fn.ntmps = n := by rfl) (ha : vs.toArray.size ≤ n := by simp) : Fx Tryd.prog G [⟨b, c0, t⟩] f vs.toArray (fun v' l1 nw => v' = .tuple #[] ∧ l1 = [⟨b, c', t⟩] ∧ nw = []) := fxW hf hb hn ha (argE vs 0) (argE_ok vs) h
abbrev Sh (G : Mem) (v : Value) (l : List Nat) : Prop := Shows G 1 v l.length (l.map by8)
abbrev By (l : List Nat) : Prop := ∀ b ∈ l, b < 256
abbrev L8 (n : Nat) (f : Nat → Nat) : Prop := ∀ j, j < n → f j < 256
end Go.Proofs.YthljakcegoohlaaDoor
namespace Go.Proofs.YthljakcegoohlaaDoor
open Go Go.RowKit
theorem eqg38 : Tryd.prog.eqGuardType Tryd.prog.depth 38 = false := by kernel_rfl
theorem pls31 (w : World) : (((#[.mk "Has" 4 0 false "" "" 0, .mk "Key" 28 1 false "" "" 1, .mk "N" 29 33 false "" "" 40] : Array Field).mapM fun f => do pure (f.offset, ← sizeOf f.type) : Sem (Array (Nat × Nat)))).run Tryd.prog w = .ok #[(0, 1), (1, 32), (33, 1)] w := places_run (l := [(0, 1), (1, 32), (33, 1)]) (by kernel_rfl) w
theorem pls65 (w : World) : (((#[.mk "H" 63 0 false "" "" 0, .mk "Held" 56 8 false "" "" 32, .mk "N" 3 72 false "" "" 96, .mk "Len" 3 73 false "" "" 104] : Array Field).mapM fun f => do pure (f.offset, ← sizeOf f.type) : Sem (Array (Nat × Nat)))).run Tryd.prog w = .ok #[(0, 8), (8, 64), (72, 1), (73, 1)] w := places_run (l := [(0, 8), (8, 64), (72, 1), (73, 1)]) (by kernel_rfl) w
theorem sis5 : ((Tryd.prog.info? 5).map (·.size)).isSome = true := by kernel_rfl
theorem sis31 : ((Tryd.prog.info? 31).map (·.size)).isSome = true := by kernel_rfl
theorem s_und38 : Tryd.prog.underlying 38 = some (.array 2 31) := by kernel_rfl
theorem s_siz31 : (Tryd.prog.info? 31).map (·.size) = some 34 := by kernel_rfl
theorem s_und31 : Tryd.prog.underlying 31 = some (.struct #[.mk "Has" 4 0 false "" "" 0, .mk "Key" 28 1 false "" "" 1, .mk "N" 29 33 false "" "" 40]) := by kernel_rfl
theorem s_und4 : Tryd.prog.underlying 4 = some (.bool) := by kernel_rfl
theorem s_und28 : Tryd.prog.underlying 28 = some (.array 32 5) := by kernel_rfl
theorem s_siz28 : (Tryd.prog.info? 28).map (·.size) = some 32 := by kernel_rfl
theorem s_und5 : Tryd.prog.underlying 5 = some (.int .u8) := by kernel_rfl
theorem s_siz5 : (Tryd.prog.info? 5).map (·.size) = some 1 := by kernel_rfl
theorem s_und29 : Tryd.prog.underlying 29 = some (.int .u64) := by kernel_rfl
theorem sam38 {f0 : Bool} {f1 : Nat → Nat} {f2 : Int} {f3 : Bool} {f4 : Nat → Nat} {f5 : Int} : Same Tryd.prog 10000 38 (.agg (cells 68 [pV (.bool f0), pI .u8 32 f1, pV (.int .u64 f2), pV (.bool f3), pI .u8 32 f4, pV (.int .u64 f5)])) := by
  refine same_array s_und38 s_siz31 fun i hi w => ?_
  have hi2 : i = 0 ∨ i = 1 := by omega
  rcases hi2 with rfl | rfl
  · exact ⟨_, elem_sub (k := 0) (c := 3) s_und31 rfl s_siz31 rfl rfl (Nat.le_of_ble_eq_true rfl) w, (same_struct s_und31 (by kernel_rfl) (List.forall_mem_cons.2 ⟨⟨_, shown_one (k := 0) s_und4 rfl rfl rfl (Nat.le_of_ble_eq_true rfl), same_bool s_und4⟩, (List.forall_mem_cons.2 ⟨⟨_, shown_row (k := 1) s_und28 rfl s_siz28 rfl rfl (Nat.le_of_ble_eq_true rfl), same_arr s_und28 s_und5 s_siz5⟩, (List.forall_mem_cons.2 ⟨⟨_, shown_one (k := 2) s_und29 rfl rfl rfl (Nat.le_of_ble_eq_true rfl), same_int s_und29⟩, (fun _ h => by cases h)⟩)⟩)⟩))⟩
  · exact ⟨_, elem_sub (k := 3) (c := 3) s_und31 rfl s_siz31 rfl rfl (Nat.le_of_ble_eq_true rfl) w, (same_struct s_und31 (by kernel_rfl) (List.forall_mem_cons.2 ⟨⟨_, shown_one (k := 0) s_und4 rfl rfl rfl (Nat.le_of_ble_eq_true rfl), same_bool s_und4⟩, (List.forall_mem_cons.2 ⟨⟨_, shown_row (k := 1) s_und28 rfl s_siz28 rfl rfl (Nat.le_of_ble_eq_true rfl), same_arr s_und28 s_und5 s_siz5⟩, (List.forall_mem_cons.2 ⟨⟨_, shown_one (k := 2) s_und29 rfl rfl rfl (Nat.le_of_ble_eq_true rfl), same_int s_und29⟩, (fun _ h => by cases h)⟩)⟩)⟩))⟩
end Go.Proofs.YthljakcegoohlaaDoor
namespace Go.Proofs.YthljakcegoohlaaDoor
open Go Go.RowKit
variable {G : Mem}
set_option maxHeartbeats 400000 in
theorem left_fn (n b : Nat) (hb : b ≤ 32) : Fn Tryd.prog G 39 #[uw n, ii b] (uw (rotl n b)) := by
  refine Qf1 Tryd.func39 ?_
  refine Qs<|Qp<|(Qa)<|Qn<|Qs<|(Qg)<|(Qm)<|(Qm) ?_
  refine e_shl_w rfl rfl rfl (by omega) ?_
  refine (Qm)<|(Qm) ?_
  refine e_sub_z (p := 32) rfl rfl rfl (by omega) (by omega) ?_
  refine e_as (congrArg (Value.int .i64) (show (32 : Int) - (b : Int) = ((32 - b : Nat) : Int) by omega)) ?_
  refine e_shr_w rfl rfl rfl (by omega) ?_
  refine e_or_w rfl rfl rfl  ?_
  refine (Qa)<|Qn<|Qr ?_
  exact ⟨_, rfl, .tmp rfl⟩
set_option maxHeartbeats 400000 in
theorem low_fn (n k : Nat) (hn : n < 18446744073709551616) (hk : k ≤ 64) : Fn Tryd.prog G 31 #[u n, ii k] (sv (lowl n k)) := by
  refine Qf1 Tryd.func31 ?_
  refine Qs<|Qp ?_
  refine e_assign (v := sv []) rfl rfl ?_
  refine Qn<|Qs<|Qp ?_
  refine e_assign (v := sv []) rfl rfl ?_
  refine Qn<|Qs<|Qs<|Qp<|(Qm)<|(Qm)<|Qn<|Qb ?_
  refine Qz (fun kk E m => ∃ (i : Nat), kk = k - i ∧ E = [(0, u (n / 256 ^ i)), (1, ii k), (5, sv (lowl n i)), (6, ii k), (7, ii i)] ∧ m = [] ∧ (i ≤ k)) ⟨0, rfl, rfl, rfl, by omega⟩ ⟨by rw [Nat.pow_zero, Nat.div_one]; rfl, rfl, rfl, rfl, rfl, trivial⟩ trivial ?_
  rintro kk E m ⟨i, rfl, rfl, rfl, hf0_0⟩
  have hq : n / 256 ^ i < 18446744073709551616 := Nat.lt_of_le_of_lt (Nat.div_le_self _ _) hn
  have hll := lowl_len n i
  refine Qs<|Qp<|(Ql)<|Qn<|Qs ?_
  refine e_cond rfl ?_ ?_
  · intro hc0
    have hc0 := of_decide_eq_true hc0
    refine Qk<|Qs<|Qb<|Qs<|Qp<|(Qm)<|(Qm) ?_
    refine e_conv_u8 (Uu 29) (Uu 5) rfl rfl rfl ?_
    refine e_buildSl 0 #[by8 (n / 256 ^ i % 256)] (Uu 48 rfl) (Uz 5 rfl) (Ub 5 rfl) (by decide) (by decide) rfl (by kernel_rfl) rfl fun r1 => ?_
    refine e_conv_strV (l := [n / 256 ^ i % 256]) (shows_new _ _ (by rfl)) (seen1 0 rfl ⟨[], trivial⟩) (Uu 48) (Uu 5) (Uu 9) rfl rfl rfl ?_
    refine e_catS rfl rfl rfl (by simp; omega) ?_
    refine (Qa)<|Qn<|Qp<|(Qm) ?_
    refine e_quo_u (q := 256) rfl rfl rfl (by omega) (by omega) ?_
    refine (Qa)<|Qn<|Qp<|(Q2 1)<|(Qm)<|Qn ?_
    refine Qzr ⟨i + 1, rfl, rfl, rfl, by omega⟩ ⟨by rw [Nat.pow_succ, ← Nat.div_div_eq_div_mul]; rfl, rfl, by rw [← lowl_succ]; rfl, rfl, rfl, trivial⟩ trivial ?_
    omega
  · intro hc0
    have hc0 := of_decide_eq_false hc0
    have hik : i = k := by omega
    subst hik
    refine Qe<|Qs<|Qp<|(Qm)<|(Qa)<|Qn<|Qr ?_
    exact ⟨_, rfl, .tmp rfl⟩
set_option maxHeartbeats 400000 in
theorem number_fn (l : List Nat) (hl : l.length ≤ 8) (hb : ∀ b ∈ l, b < 256) : Fn Tryd.prog G 37 #[sv l] (u (leN l)) := by
  refine Qf1 Tryd.func37 ?_
  refine Qs<|Qp<|(Qa)<|Qn<|Qs<|Qp<|(Qa)<|Qn<|Qs<|Qs<|Qp<|(Qm)<|(QU) ?_
  refine e_sub_z (q := 1) rfl rfl rfl (by omega) (by omega) ?_
  refine (Qa)<|Qn<|Qb ?_
  refine Qz (fun kk E m => ∃ (n : Nat), kk = 2 * n ∧ E = [(0, sv l), (3, u (leN (l.drop n))), (4, .int .i64 (((n : Nat) : Int) - 1))] ∧ m = [] ∧ (n ≤ l.length)) ⟨l.length, rfl, rfl, rfl, Nat.le_refl _⟩ ⟨rfl, by rw [List.drop_length]; rfl, rfl, trivial⟩ trivial ?_
  rintro kk E m ⟨n, rfl, rfl, rfl, hf0_0⟩
  refine Qs<|Qs<|Qp<|(Qm)<|(QE)<|Qn ?_
  refine e_cond rfl ?_ ?_
  · intro hc0
    have hc0 := of_decide_eq_true hc0
    obtain ⟨i, rfl⟩ : ∃ i, n = i + 1 := ⟨n - 1, by omega⟩
    have hsm := leN_small hl hb i
    have hbi : l[i] < 256 := hb _ (List.getElem_mem _)
    refine Qk<|Qs<|Qb<|Qp<|(Qm) ?_
    refine e_mul_u (q := 256) rfl rfl rfl  ?_
    refine e_as (congrArg u (Nat.mod_eq_of_lt (show leN (l.drop (i + 1)) * 256 < 18446744073709551616 by omega))) ?_
    refine (Qm)<|(Qm) ?_
    refine e_as (congrArg (Value.int .i64) (show ((i + 1 : Nat) : Int) - 1 = ((i : Nat) : Int) by omega)) ?_
    refine e_idxStr (Uu 9) rfl rfl (List.getElem?_eq_getElem (show i < l.length by omega)) (hb _ (List.getElem_mem _)) rfl ?_
    refine e_conv_u (Uu 5) (Uu 29) rfl rfl rfl ?_
    refine e_as (congrArg u (Nat.mod_eq_of_lt (show l[i] < 18446744073709551616 by omega))) ?_
    refine e_add_u rfl rfl rfl  ?_
    refine e_as (congrArg u (Nat.mod_eq_of_lt (show leN (l.drop (i + 1)) * 256 + l[i] < 18446744073709551616 by omega))) ?_
    refine (Qa)<|Qn<|Qp<|(Qm) ?_
    refine e_sub_z (q := 1) rfl rfl rfl (by omega) (by omega) ?_
    refine (Qa)<|Qn ?_
    refine Qzr ⟨i, rfl, rfl, rfl, by omega⟩ ⟨rfl, by rw [leN_drop (show i < l.length by omega)]; rfl, congrArg (fun z => some (Value.int .i64 z)) (show ((i + 1 : Nat) : Int) - 1 - 1 = ((i : Nat) : Int) - 1 by omega), trivial⟩ trivial ?_
    omega
  · intro hc0
    have hc0 := of_decide_eq_false hc0
    have hn0 : n = 0 := by omega
    subst hn0
    refine Qe<|Qs<|Qp<|(Qm)<|(Qa)<|Qn<|Qr ?_
    exact ⟨_, rfl, .tmp rfl⟩
end Go.Proofs.YthljakcegoohlaaDoor
namespace Go.Proofs.YthljakcegoohlaaDoor
open Go Go.RowKit
variable {G : Mem}
end Go.Proofs.YthljakcegoohlaaDoor
namespace Go.Proofs.YthljakcegoohlaaDoor
open Go Go.RowKit
variable {G : Mem}
set_option maxHeartbeats 400000 in
theorem noughts_fn (n : Nat) (hn : n ≤ 1000000) : Fn Tryd.prog G 19 #[ii n] (sv (zrs n)) := by
  refine Qf1 Tryd.func19 ?_
  refine Qs<|Qp ?_
  refine e_assign (v := sv []) rfl rfl ?_
  refine Qn<|Qs<|Qp<|(Qm) ?_
  refine e_make 0 (Uu 48) (Uz 5) (Uy 5) (Ub 5) rfl rfl rfl (by omega) (by omega) rfl fun r1 => ?_
  refine e_conv_strV (made_shows _ _ _) (seen1 0 rfl ⟨[], trivial⟩) (Uu 48) (Uu 5) (Uu 9) rfl rfl rfl ?_
  refine (Qa)<|Qn<|Qr ?_
  exact ⟨_, rfl, .tmp rfl⟩
end Go.Proofs.YthljakcegoohlaaDoor
namespace Go.Proofs.YthljakcegoohlaaDoor
open Go Go.RowKit
variable {G : Mem}
set_option maxHeartbeats 400000 in
theorem orderOf_fn (r i : Nat) (hr : r < 10) (hi : i < 16) : Fn Tryd.prog G 36 #[ii r, ii i] (ii (sig r i)) := by
  obtain ⟨o1, o2, o3, o4⟩ := ord_all (16 * r + i) (by omega)
  obtain ⟨c, hc⟩ : ∃ c, c = ordL.getD (16 * r + i) 0 := ⟨_, rfl⟩
  rw [← hc] at o1 o2 o3 o4
  refine Qf1 Tryd.func36 ?_
  refine Qs<|Qp<|(Qa)<|Qn<|Qs<|Qp<|(Qm)<|(Q7 16)<|(Qm)<|(Q3) ?_
  refine e_idxStr (l := [48, 49, 50, 51, 52, 53, 54, 55, 56, 57, 97, 98, 99, 100, 101, 102, 101, 97, 52, 56, 57, 102, 100, 54, 49, 99, 48, 50, 98, 55, 53, 51, 98, 56, 99, 48, 53, 50, 102, 100, 97, 101, 51, 54, 55, 49, 57, 52, 55, 57, 51, 49, 100, 99, 98, 101, 50, 54, 53, 97, 52, 48, 102, 56, 57, 48, 53, 55, 50, 52, 97, 102, 101, 49, 98, 99, 54, 56, 51, 100, 50, 99, 54, 97, 48, 98, 56, 51, 52, 100, 55, 53, 102, 101, 49, 57, 99, 53, 49, 102, 101, 100, 52, 97, 48, 55, 54, 51, 57, 50, 56, 98, 100, 98, 55, 101, 99, 49, 51, 57, 53, 48, 102, 52, 56, 54, 50, 97, 54, 102, 101, 57, 98, 51, 48, 56, 99, 50, 100, 55, 49, 52, 97, 53, 97, 50, 56, 52, 55, 54, 49, 53, 102, 98, 57, 101, 51, 99, 100, 48]) (Uu 9) rfl rfl o1 o2 rfl ?_
  refine (Qa)<|Qn<|Qs<|Qs<|Qp<|(Qm)<|(QE)<|Qn ?_
  refine e_cond rfl ?_ ?_
  · intro hc0
    have hc0 := of_decide_eq_true hc0
    refine Qs<|Qp<|(Qm) ?_
    refine e_sub_b (q := 97) rfl rfl rfl (by omega) ?_
    refine e_as (congrArg by8 (show (c + 256 - 97) % 256 = c - 97 by omega)) ?_
    refine e_conv_i (Uu 5) (Uu 3) rfl rfl rfl (by omega) ?_
    refine (Q2 10) ?_
    refine e_as (congrArg ii (o3 (by omega))) ?_
    refine (Qa)<|Qn<|Qr ?_
    exact ⟨_, rfl, .tmp rfl⟩
  · intro hc0
    have hc0 := of_decide_eq_false hc0
    refine Qk<|Qs<|Qp<|(Qm) ?_
    refine e_sub_b (q := 48) rfl rfl rfl (by omega) ?_
    refine e_as (congrArg by8 (show (c + 256 - 48) % 256 = c - 48 by have := o4 (by omega); omega)) ?_
    refine e_conv_i (Uu 5) (Uu 3) rfl rfl rfl (by omega) ?_
    refine e_as (congrArg ii (o4 (by omega)).2) ?_
    refine (Qa)<|Qn<|Qr ?_
    exact ⟨_, rfl, .tmp rfl⟩
set_option maxHeartbeats 400000 in
theorem word_fn (rb r i : Nat) (b : List Nat) (hb : ∀ x ∈ b, x < 256) (hl : b.length = 64) (hr : r < 10) (hi : i < 16) : Fn Tryd.prog [⟨rb, #[sv b], 9⟩] 35 #[ii r, ii i, ptr rb] (uw (wrd b (sig r i))) := by
  have hsg := sig_lt r i
  refine Qf1 Tryd.func35 ?_
  refine Qs<|Qp<|(Qa)<|Qn<|Qs<|Qp<|(Qm)<|(Qm) ?_
  refine e_call rfl (Un 36) (orderOf_fn r i hr hi) rfl rfl ?_
  refine (Qa)<|Qn<|Qs<|Qp ?_
  refine e_load1g (i := 0) (Uu 9) rfl rfl rfl rfl rfl ?_
  refine (Qm)<|(Q7 4)<|(Qm)<|(Q7 4)<|(Q2 4) ?_
  refine e_sliceStr (4 * sig r i) (4 * sig r i + 4) (Uu 9) rfl rfl rfl ⟨_, rfl⟩ ⟨_, rfl⟩ (by omega) (by omega) rfl ?_
  refine e_as (congrArg (fun z => sv ((b.drop (4 * sig r i)).take z)) (show 4 * sig r i + 4 - 4 * sig r i = 4 by omega)) ?_
  refine e_call rfl (Un 37) (number_fn _ (cut4_len b (sig r i)) (cut4_lt hb (sig r i))) rfl rfl ?_
  refine e_conv_wn (Uu 29) (Uu 62) rfl rfl rfl (wrd_lt hb (sig r i)) ?_
  refine (Qa)<|Qn<|Qr ?_
  exact ⟨_, rfl, .tmp rfl⟩
set_option maxHeartbeats 400000 in
theorem shp_fn (p : Nat) (hp : p ≤ 1) (f : Nat → Nat) : Fn Tryd.prog G 38 #[.agg (arr .u32 16 f), ii p] (.agg (arr .u32 16 (shp p f))) := by
  refine Qf1 Tryd.func38 ?_
  refine Qs<|Qp<|(Qh 0) fun r1=>(QH 1) fun r2=>Qn<|Qs<|Qp<|(QH 2) fun r3=>Qn<|Qs<|Qs<|Qp<|(Qm)<|Qn<|Qb ?_
  refine QzK [(1, _), (2, _), (4, _), (5, _)] [(0, _), (1, _)] (fun kk E m => ∃ (k : Nat) (s : Nat → Nat), kk = 4 - k ∧ E = [(8, ii k)] ∧ m = [(2, some ⟨r3, arr .u32 16 s, 79⟩)] ∧ (k ≤ 4) ∧ (∀ t, t < 4 * k → s t = shp p f t)) ⟨0, fun _ => 0, rfl, rfl, rfl, by omega, fun t ht => absurd ht (Nat.not_lt_zero t)⟩ ⟨rfl, rfl, rfl, rfl, rfl, trivial⟩ ⟨rfl, rfl, rfl, trivial⟩ ?_
  rintro kk E m ⟨k, s, rfl, rfl, rfl, hf0_0, hf0_1⟩
  simp only [catE, catL]
  refine Qs<|Qp<|(Ql)<|Qn<|Qs ?_
  refine e_cond rfl ?_ ?_
  · intro hc0
    have hc0 : k < 4 := by have := of_decide_eq_true hc0; omega
    refine Qk<|Qs<|Qb<|Qs<|Qp<|(Qm)<|(Qa)<|Qn<|Qs<|Qp<|(Qm)<|Qn<|Qb ?_
    refine QzK [(1, _), (2, _), (4, _), (5, _), (6, _), (8, _)] [(0, _), (1, _)] (fun kk E m => ∃ (j : Nat) (s2 : Nat → Nat), kk = 4 - j ∧ E = [(11, ii j)] ∧ m = [(2, some ⟨r3, arr .u32 16 s2, 79⟩)] ∧ (j ≤ 4) ∧ (∀ t, t < 4 * k + j → s2 t = shp p f t)) ⟨0, s, rfl, rfl, rfl, by omega, hf0_1⟩ ⟨rfl, rfl, rfl, rfl, rfl, rfl, rfl, trivial⟩ ⟨rfl, rfl, rfl, trivial⟩ ?_
    rintro kk E m ⟨j, s2, rfl, rfl, rfl, hf1_0, hf1_1⟩
    simp only [catE, catL]
    refine Qs<|Qp<|(Ql)<|Qn<|Qs ?_
    refine e_cond rfl ?_ ?_
    · intro hc1
      have hc1 : j < 4 := by have := of_decide_eq_true hc1; omega
      refine Qk<|Qs<|Qb<|Qs<|Qp<|(Qm)<|(Qa)<|Qn<|(Qg)<|(Qm)<|(Qm)<|(Qm)<|(Qm)<|(Q2 4)<|(Qm)<|(Qm) ?_
      have hpk : p * k < 4 := by rcases (by omega : p = 0 ∨ p = 1) with rfl | rfl <;> omega
      refine e_mul_i rfl rfl rfl (by omega) ?_
      refine (Q3)<|(Q4 4)<|(QB (4 * k))<|(QB (4 * k + (j + 4 + p * k) % 4))<|(Q1 0)<|(QB (4 * k))<|(QB (4 * k + j))<|(Qu 2)<|Qn<|Qp<|(Q2 1)<|(Qm)<|Qn ?_
      refine QzL ⟨j + 1, upd s2 (4 * k + j) _, rfl, rfl, rfl, by omega, sh_at (shp p) f s2 (shp_v p f (by omega)) hf1_1⟩ ⟨rfl, rfl, rfl, rfl, rfl, rfl, rfl, trivial⟩ ⟨rfl, rfl, rfl, trivial⟩ ?_
      omega
    · intro hc1
      have hc1 := of_decide_eq_false hc1
      have hz1 : j = 4 := by omega
      subst hz1
      refine Qe<|Qp<|(Q2 1)<|(Qm)<|Qn ?_
      refine QzL ⟨k + 1, s2, rfl, rfl, rfl, by omega, by rw [show 4 * (k + 1) = 4 * k + 4 by omega]; exact hf1_1⟩ ⟨rfl, rfl, rfl, rfl, rfl, trivial⟩ ⟨rfl, rfl, rfl, trivial⟩ ?_
      omega
  · intro hc0
    have hc0 := of_decide_eq_false hc0
    have hz0 : k = 4 := by omega
    subst hz0
    refine Qe<|Qs<|Qp<|(Qd 2)<|(Qt 1)<|Qn<|Qr ?_
    rw [← arr_congr hf0_1]
    exact ⟨_, rfl, .cell (i := 1) rfl rfl (Uu 79) rfl (Uz 79) (arr_size _ _ _)⟩
set_option maxHeartbeats 400000 in
theorem shn_fn (p : Nat) (hp : p ≤ 1) (f : Nat → Nat) : Fn Tryd.prog G 38 #[.agg (arr .u32 16 f), .int .i64 (-(p : Int))] (.agg (arr .u32 16 (shn p f))) := by
  refine Qf1 Tryd.func38 ?_
  refine Qs<|Qp<|(Qh 0) fun r1=>(QH 1) fun r2=>Qn<|Qs<|Qp<|(QH 2) fun r3=>Qn<|Qs<|Qs<|Qp<|(Qm)<|Qn<|Qb ?_
  refine QzK [(1, _), (2, _), (4, _), (5, _)] [(0, _), (1, _)] (fun kk E m => ∃ (k : Nat) (s : Nat → Nat), kk = 4 - k ∧ E = [(8, ii k)] ∧ m = [(2, some ⟨r3, arr .u32 16 s, 79⟩)] ∧ (k ≤ 4) ∧ (∀ t, t < 4 * k → s t = shn p f t)) ⟨0, fun _ => 0, rfl, rfl, rfl, by omega, fun t ht => absurd ht (Nat.not_lt_zero t)⟩ ⟨rfl, rfl, rfl, rfl, rfl, trivial⟩ ⟨rfl, rfl, rfl, trivial⟩ ?_
  rintro kk E m ⟨k, s, rfl, rfl, rfl, hf0_0, hf0_1⟩
  simp only [catE, catL]
  refine Qs<|Qp<|(Ql)<|Qn<|Qs ?_
  refine e_cond rfl ?_ ?_
  · intro hc0
    have hc0 : k < 4 := by have := of_decide_eq_true hc0; omega
    refine Qk<|Qs<|Qb<|Qs<|Qp<|(Qm)<|(Qa)<|Qn<|Qs<|Qp<|(Qm)<|Qn<|Qb ?_
    refine QzK [(1, _), (2, _), (4, _), (5, _), (6, _), (8, _)] [(0, _), (1, _)] (fun kk E m => ∃ (j : Nat) (s2 : Nat → Nat), kk = 4 - j ∧ E = [(11, ii j)] ∧ m = [(2, some ⟨r3, arr .u32 16 s2, 79⟩)] ∧ (j ≤ 4) ∧ (∀ t, t < 4 * k + j → s2 t = shn p f t)) ⟨0, s, rfl, rfl, rfl, by omega, hf0_1⟩ ⟨rfl, rfl, rfl, rfl, rfl, rfl, rfl, trivial⟩ ⟨rfl, rfl, rfl, trivial⟩ ?_
    rintro kk E m ⟨j, s2, rfl, rfl, rfl, hf1_0, hf1_1⟩
    simp only [catE, catL]
    refine Qs<|Qp<|(Ql)<|Qn<|Qs ?_
    refine e_cond rfl ?_ ?_
    · intro hc1
      have hc1 : j < 4 := by have := of_decide_eq_true hc1; omega
      refine Qk<|Qs<|Qb<|Qs<|Qp<|(Qm)<|(Qa)<|Qn<|(Qg)<|(Qm)<|(Qm)<|(Qm)<|(Qm)<|(Q2 4)<|(Qm)<|(Qm) ?_
      have hpk : p * k < 4 := by rcases (by omega : p = 0 ∨ p = 1) with rfl | rfl <;> omega
      have hpk : p * k < 4 := by rcases (by omega : p = 0 ∨ p = 1) with rfl | rfl <;> omega
      have hpz : (-(p : Int)) * ((k : Nat) : Int) = -((p * k : Nat) : Int) := by rw [Int.neg_mul, Int.natCast_mul]
      refine e_mul_z rfl rfl rfl (by omega) (by omega) ?_
      refine e_as (congrArg (Value.int .i64) hpz) ?_
      refine e_add_z rfl rfl rfl (by omega) (by omega) ?_
      refine e_as (congrArg (Value.int .i64) (show ((j + 4 : Nat) : Int) + -((p * k : Nat) : Int) = ((j + 4 - p * k : Nat) : Int) by omega)) ?_
      refine (Q4 4)<|(QB (4 * k))<|(QB (4 * k + (j + 4 - p * k) % 4))<|(Q1 0)<|(QB (4 * k))<|(QB (4 * k + j))<|(Qu 2)<|Qn<|Qp<|(Q2 1)<|(Qm)<|Qn ?_
      refine QzL ⟨j + 1, upd s2 (4 * k + j) _, rfl, rfl, rfl, by omega, sh_at (shn p) f s2 (shn_v p f (by omega)) hf1_1⟩ ⟨rfl, rfl, rfl, rfl, rfl, rfl, rfl, trivial⟩ ⟨rfl, rfl, rfl, trivial⟩ ?_
      omega
    · intro hc1
      have hc1 := of_decide_eq_false hc1
      have hz1 : j = 4 := by omega
      subst hz1
      refine Qe<|Qp<|(Q2 1)<|(Qm)<|Qn ?_
      refine QzL ⟨k + 1, s2, rfl, rfl, rfl, by omega, by rw [show 4 * (k + 1) = 4 * k + 4 by omega]; exact hf1_1⟩ ⟨rfl, rfl, rfl, rfl, rfl, trivial⟩ ⟨rfl, rfl, rfl, trivial⟩ ?_
      omega
  · intro hc0
    have hc0 := of_decide_eq_false hc0
    have hz0 : k = 4 := by omega
    subst hz0
    refine Qe<|Qs<|Qp<|(Qd 2)<|(Qt 1)<|Qn<|Qr ?_
    rw [← arr_congr hf0_1]
    exact ⟨_, rfl, .cell (i := 1) rfl rfl (Uu 79) rfl (Uz 79) (arr_size _ _ _)⟩
end Go.Proofs.YthljakcegoohlaaDoor
namespace Go.Proofs.YthljakcegoohlaaDoor
open Go Go.RowKit
variable {G : Mem}
set_option maxHeartbeats 8000000 in
theorem squeezed_true (h : Nat → Nat) (b : List Nat) (many : Nat) (hb : ∀ x ∈ b, x < 256) (hl : b.length = 64) : Fn Tryd.prog ((⟨0, arr .u32 8 ivf, 63⟩ : Blk) :: G) 30 #[.agg (arr .u32 8 h), sv b, ii many, .bool true] (.agg (arr .u32 8 (sqz h b many true))) := by
  refine Qf1 Tryd.func30 ?_
  refine Qs<|Qp<|(Qh 0) fun r1=>(Qh 1) fun r2=>(QH 2) fun r3=>Qn<|Qs<|Qp<|(QH 3) fun r4=>Qn<|Qs<|Qs<|Qp<|(Qm)<|Qn<|Qb ?_
  refine QzK [(2, _), (3, _), (4, _), (5, _), (8, _), (9, _)] [(0, _), (1, _), (2, _)] (fun kk E m => ∃ (i : Nat) (s : Nat → Nat), kk = 8 - i ∧ E = [(18, ii i)] ∧ m = [(3, some ⟨r4, arr .u32 16 s, 79⟩)] ∧ (i ≤ 8) ∧ (∀ t, t < 16 → s t = if t % 8 < i then w00 h t else 0)) ⟨0, fun _ => 0, rfl, rfl, rfl, by omega, fun t _ => by rw [if_neg (by omega)]⟩ ⟨rfl, rfl, rfl, rfl, rfl, rfl, rfl, trivial⟩ ⟨rfl, rfl, rfl, rfl, trivial⟩ ?_
  rintro kk E m ⟨i, s, rfl, rfl, rfl, hf0_0, hf0_1⟩
  simp only [catE, catL]
  refine Qs<|Qp<|(Ql)<|Qn<|Qs ?_
  refine e_cond rfl ?_ ?_
  · intro hc0
    have hc0 : i < 8 := by have := of_decide_eq_true hc0; omega
    refine Qk<|Qs<|Qb<|Qs<|Qp<|(Qm)<|(Qa)<|Qn<|(Qq ⟨[r4], 1, [], none⟩)<|(Qm)<|(Q5 4)<|(Qm)<|(Q4 4)<|(Qm)<|(Q5 4) ?_
    refine e_add_i (p := 2) rfl rfl rfl (by omega) ?_
    refine (Qm)<|(Q4 4)<|(Qm)<|(Qi) ?_
    refine e_load1 (i := 0) (Uu 62) rfl rfl rfl (arr_get (by omega)) rfl ⟨[3], rfl, rfl, trivial⟩ ?_
    refine (Qm)<|(Qi) ?_
    refine e_load1g (i := 0) (Uu 62) rfl rfl rfl (arr_get (by omega)) rfl ?_
    refine (QB (4 * (i / 4)))<|(QB (i)) ?_
    refine e_storeN (i := 3) (Uz 62) rfl rfl rfl (by omega) (.inr (by simp)) ?_
    refine (QB (4 * (2 + i / 4)))<|(QB (8 + i)) ?_
    refine e_storeN (i := 3) (Uz 62) rfl rfl rfl (by omega) (.inr (by simp)) ?_
    refine Qn<|Qp<|(Q2 1)<|(Qm)<|Qn ?_
    refine QzL ⟨i + 1, upd (upd s i _) (8 + i) _, rfl, rfl, rfl, by omega, w00_step (by omega) hf0_1⟩ ⟨rfl, rfl, rfl, rfl, rfl, rfl, rfl, trivial⟩ ⟨rfl, rfl, rfl, rfl, trivial⟩ ?_
    omega
  · intro hc0
    have hc0 := of_decide_eq_false hc0
    have hz0 : i = 8 := by omega
    subst hz0
    refine Qe<|Qs<|Qp<|(QA 12 3)<|(QA 12 0)<|(Q1 3)<|(Qm) ?_
    refine e_conv_w (Uu 3) (Uu 62) rfl rfl rfl ?_
    refine e_xor_w rfl rfl rfl  ?_
    refine (QA 12 3)<|(QA 12 0)<|(Qu 3)<|Qn<|Qs<|Qs<|Qp<|(Qm)<|Qn<|(Qct)<|Qp<|(QA 12 3)<|(QA 14 2)<|(Q1 3) ?_
    refine e_compl_w rfl rfl ?_
    refine (QA 12 3)<|(QA 14 2)<|(Qu 3)<|Qn<|Qs<|Qp<|(QY)<|(Qa)<|Qn<|Qs<|Qs<|Qp<|(Qm)<|Qn<|Qb ?_
    refine QzK [(2, _), (3, _), (4, _), (5, _), (8, _), (9, _), (11, _), (18, _)] [(0, _), (1, _), (2, _)] (fun kk E m => ∃ (r : Nat), kk = 10 - r ∧ E = [(57, ii r)] ∧ m = [(3, some ⟨r4, arr .u32 16 (brs b (w0 h many true) r), 79⟩)] ∧ (r ≤ 10)) ⟨0, rfl, rfl, rfl, by omega⟩ ⟨rfl, rfl, rfl, rfl, rfl, rfl, rfl, rfl, rfl, trivial⟩ ⟨(congrArg (fun c => some (⟨r4, c, 79⟩ : Blk)) (arr_congr (fun t ht => (w0_true hf0_1 t ht).trans (congrFun (brs_zero b (w0 h many true)) t)))), rfl, rfl, rfl, trivial⟩ ?_
    rintro kk E m ⟨r, rfl, rfl, rfl, hf1_0⟩
    simp only [catE, catL]
    refine Qs<|Qp<|(Ql)<|Qn<|Qs ?_
    refine e_cond rfl ?_ ?_
    · intro hc2
      have hc2 : r < 10 := by have := of_decide_eq_true hc2; omega
      refine Qk<|Qs<|Qb<|Qs<|Qp<|(Qm)<|(Qa)<|Qn<|Qs<|Qp<|(Qm)<|Qn<|Qb ?_
      refine QzK [(2, _), (3, _), (4, _), (5, _), (8, _), (9, _), (11, _), (12, _), (18, _), (57, _)] [(0, _), (1, _), (2, _)] (fun kk E m => ∃ (p : Nat), kk = 2 - p ∧ E = [(60, ii p)] ∧ m = [(3, some ⟨r4, arr .u32 16 (bpart b r (brs b (w0 h many true) r) p), 79⟩)] ∧ (p ≤ 2)) ⟨0, rfl, rfl, rfl, by omega⟩ ⟨rfl, rfl, rfl, rfl, rfl, rfl, rfl, rfl, rfl, rfl, rfl, trivial⟩ ⟨(blk_arr (bpart_zero b r (brs b (w0 h many true) r))), rfl, rfl, rfl, trivial⟩ ?_
      rintro kk E m ⟨p, rfl, rfl, rfl, hf2_0⟩
      simp only [catE, catL]
      refine Qs<|Qp<|(Ql)<|Qn<|Qs ?_
      refine e_cond rfl ?_ ?_
      · intro hc3
        have hc3 : p < 2 := by have := of_decide_eq_true hc3; omega
        refine Qk<|Qs<|Qb<|Qs<|Qp<|(Qm)<|(Qa)<|Qn<|Qs<|Qp<|(Qd 3)<|(Qm) ?_
        refine e_call rfl (Un 38) (shp_fn p (by omega) _) rfl rfl ?_
        refine (Qt 3)<|Qn<|Qs<|Qs<|Qp<|(Qm)<|Qn<|Qb ?_
        refine QzK [(2, _), (3, _), (4, _), (5, _), (8, _), (9, _), (11, _), (12, _), (13, _), (18, _), (57, _), (60, _)] [(0, _), (1, _), (2, _)] (fun kk E m => ∃ (c : Nat) (s : Nat → Nat), kk = 4 - c ∧ E = [(66, ii c)] ∧ m = [(3, some ⟨r4, arr .u32 16 s, 79⟩)] ∧ (c ≤ 4) ∧ (∀ t, t < 16 → s t = if t % 4 < c then brn (xw b r p) (yw b r p) (shp p (bpart b r (brs b (w0 h many true) r) p)) t else (shp p (bpart b r (brs b (w0 h many true) r) p)) t)) ⟨0, (shp p (bpart b r (brs b (w0 h many true) r) p)), rfl, rfl, rfl, by omega, fun t _ => by rw [if_neg (by omega)]⟩ ⟨rfl, rfl, rfl, rfl, rfl, rfl, rfl, rfl, rfl, rfl, rfl, rfl, rfl, trivial⟩ ⟨rfl, rfl, rfl, rfl, trivial⟩ ?_
        rintro kk E m ⟨c, s, rfl, rfl, rfl, hf3_0, hf3_1⟩
        simp only [catE, catL]
        refine Qs<|Qp<|(Ql)<|Qn<|Qs ?_
        refine e_cond rfl ?_ ?_
        · intro hc4
          have hc4 : c < 4 := by have := of_decide_eq_true hc4; omega
          refine Qk<|Qs<|Qb<|Qs<|Qp<|(Qm)<|(Qa)<|Qn<|Qs<|Qp<|(Qm)<|(Qm)<|(Qm)<|(Q7 8)<|(Qm)<|(Q7 2)<|(Q3) ?_
          refine e_callV [⟨r2, #[sv b], 9⟩] rfl rfl (Un 35) ⟨⟨1, rfl⟩, trivial⟩ (word_fn r2 r (8 * p + 2 * c) b hb hl (by omega) (by omega)) rfl rfl rfl ?_
          refine (Qm)<|(Qm)<|(Qm)<|(Q7 8)<|(Qm)<|(Q7 2)<|(Q3)<|(Q2 1) ?_
          refine e_callV [⟨r2, #[sv b], 9⟩] rfl rfl (Un 35) ⟨⟨1, rfl⟩, trivial⟩ (word_fn r2 r (8 * p + 2 * c + 1) b hb hl (by omega) (by omega)) rfl rfl rfl ?_
          refine (Qa)<|(Qa)<|Qn<|Qs<|(Qg)<|(Qm)<|(QA 0 0)<|(Qi)<|(Q1 3)<|(Qm)<|(QA 4 1)<|(QB (4 + c))<|(Q1 3)<|(Qm) ?_
          refine e_add_w rfl rfl rfl  ?_
          refine e_add_w rfl rfl rfl  ?_
          refine e_gen_w fun q1 hq1 => ?_
          refine (QA 0 0)<|(Qi)<|(Qu 3)<|Qn<|Qs<|(Qg)<|(Qm)<|(Qm)<|(QA 12 3)<|(QB (12 + c))<|(Q1 3)<|(Qm)<|(QA 0 0)<|(Qi)<|(Q1 3) ?_
          refine e_xor_w rfl rfl rfl  ?_
          refine e_call rfl (Un 39) (left_fn _ _ (by decide)) rfl rfl ?_
          refine e_gen_w fun q2 hq2 => ?_
          refine (QA 12 3)<|(QB (12 + c))<|(Qu 3)<|Qn<|Qs<|(Qg)<|(Qm)<|(QA 8 2)<|(QB (8 + c))<|(Q1 3)<|(Qm)<|(QA 12 3)<|(QB (12 + c))<|(Q1 3) ?_
          refine e_add_w rfl rfl rfl  ?_
          refine e_gen_w fun q3 hq3 => ?_
          refine (QA 8 2)<|(QB (8 + c))<|(Qu 3)<|Qn<|Qs<|(Qg)<|(Qm)<|(Qm)<|(QA 4 1)<|(QB (4 + c))<|(Q1 3)<|(Qm)<|(QA 8 2)<|(QB (8 + c))<|(Q1 3) ?_
          refine e_xor_w rfl rfl rfl  ?_
          refine e_call rfl (Un 39) (left_fn _ _ (by decide)) rfl rfl ?_
          refine e_gen_w fun q4 hq4 => ?_
          refine (QA 4 1)<|(QB (4 + c))<|(Qu 3)<|Qn<|Qs<|(Qg)<|(Qm)<|(QA 0 0)<|(Qi)<|(Q1 3)<|(Qm)<|(QA 4 1)<|(QB (4 + c))<|(Q1 3)<|(Qm) ?_
          refine e_add_w rfl rfl rfl  ?_
          refine e_add_w rfl rfl rfl  ?_
          refine e_gen_w fun q5 hq5 => ?_
          refine (QA 0 0)<|(Qi)<|(Qu 3)<|Qn<|Qs<|(Qg)<|(Qm)<|(Qm)<|(QA 12 3)<|(QB (12 + c))<|(Q1 3)<|(Qm)<|(QA 0 0)<|(Qi)<|(Q1 3) ?_
          refine e_xor_w rfl rfl rfl  ?_
          refine e_call rfl (Un 39) (left_fn _ _ (by decide)) rfl rfl ?_
          refine e_gen_w fun q6 hq6 => ?_
          refine (QA 12 3)<|(QB (12 + c))<|(Qu 3)<|Qn<|Qs<|(Qg)<|(Qm)<|(QA 8 2)<|(QB (8 + c))<|(Q1 3)<|(Qm)<|(QA 12 3)<|(QB (12 + c))<|(Q1 3) ?_
          refine e_add_w rfl rfl rfl  ?_
          refine e_gen_w fun q7 hq7 => ?_
          refine (QA 8 2)<|(QB (8 + c))<|(Qu 3)<|Qn<|(Qg)<|(Qm)<|(Qm)<|(QA 4 1)<|(QB (4 + c))<|(Q1 3)<|(Qm)<|(QA 8 2)<|(QB (8 + c))<|(Q1 3) ?_
          refine e_xor_w rfl rfl rfl  ?_
          refine e_call rfl (Un 39) (left_fn _ _ (by decide)) rfl rfl ?_
          refine e_gen_w fun q8 hq8 => ?_
          refine (QA 4 1)<|(QB (4 + c))<|(Qu 3)<|Qn<|Qp<|(Q2 1)<|(Qm)<|Qn ?_
          refine QzL ⟨c + 1, upd (upd (upd (upd (upd (upd (upd (upd s c q1) (12 + c) q2) (8 + c) q3) (4 + c) q4) c q5) (12 + c) q6) (8 + c) q7) (4 + c) q8, rfl, rfl, rfl, by omega, brn_step (by omega) hf3_1 _ rfl (bst_eqs (by omega) hq1 hq2 hq3 hq4 hq5 hq6 hq7 hq8)⟩ ⟨rfl, rfl, rfl, rfl, rfl, rfl, rfl, rfl, rfl, rfl, rfl, rfl, rfl, trivial⟩ ⟨rfl, rfl, rfl, rfl, trivial⟩ ?_
          omega
        · intro hc4
          have hc4 := of_decide_eq_false hc4
          have hz3 : c = 4 := by omega
          refine Qe<|Qp<|(Qd 3) ?_
          refine e_as (congrArg Value.agg (arr_congr (fun t ht => (hf3_1 t ht).trans (if_pos (by omega))))) ?_
          refine (Qm) ?_
          refine e_neg_z rfl rfl (by omega) (by omega) ?_
          refine e_call rfl (Un 38) (shn_fn p (by omega) _) rfl rfl ?_
          refine (Qt 3)<|Qn<|Qp<|(Q2 1)<|(Qm)<|Qn ?_
          refine QzL ⟨p + 1, rfl, rfl, rfl, by omega⟩ ⟨rfl, rfl, rfl, rfl, rfl, rfl, rfl, rfl, rfl, rfl, rfl, trivial⟩ ⟨(blk_arr (bpart_succ b r (brs b (w0 h many true) r) p)), rfl, rfl, rfl, trivial⟩ ?_
          omega
      · intro hc3
        have hc3 := of_decide_eq_false hc3
        have hz2 : p = 2 := by omega
        refine Qe<|Qp<|(Q2 1)<|(Qm)<|Qn ?_
        refine QzL ⟨r + 1, rfl, rfl, rfl, by omega⟩ ⟨rfl, rfl, rfl, rfl, rfl, rfl, rfl, rfl, rfl, trivial⟩ ⟨(blk_arr ((congrArg (bpart b r (brs b (w0 h many true) r)) hz2).trans (brs_succ b (w0 h many true) r))), rfl, rfl, rfl, trivial⟩ ?_
        omega
    · intro hc2
      have hc2 := of_decide_eq_false hc2
      have hz1 : r = 10 := by omega
      refine Qe<|Qs<|Qs<|Qp<|(Qm)<|Qn<|Qb ?_
      refine QzK [(2, _), (3, _), (4, _), (5, _), (8, _), (9, _), (11, _), (18, _), (57, _)] [(1, _), (2, _), (3, _)] (fun kk E m => ∃ (q : Nat) (s2 : Nat → Nat), kk = 8 - q ∧ E = [(193, ii q)] ∧ m = [(0, some ⟨r1, arr .u32 8 s2, 63⟩)] ∧ (q ≤ 8) ∧ (∀ t, t < 8 → s2 t = if t < q then sqz h b many true t else h t)) ⟨0, h, rfl, rfl, rfl, by omega, fun t _ => by rw [if_neg (by omega)]⟩ ⟨rfl, rfl, rfl, rfl, rfl, rfl, rfl, rfl, rfl, rfl, trivial⟩ ⟨rfl, rfl, rfl, rfl, trivial⟩ ?_
      rintro kk E m ⟨q, s2, rfl, rfl, rfl, hf4_0, hf4_1⟩
      simp only [catE, catL]
      refine Qs<|Qp<|(Ql)<|Qn<|Qs ?_
      refine e_cond rfl ?_ ?_
      · intro hc5
        have hc5 : q < 8 := by have := of_decide_eq_true hc5; omega
        refine Qk<|Qs<|Qb<|Qs<|Qp<|(Qm)<|(Qa)<|Qn<|(Qg)<|(Qm)<|(Qi)<|(Q1 0)<|(Qm)<|(Q5 4)<|(Qm)<|(Q4 4)<|(QB (4 * (q / 4)))<|(QB (q))<|(Q1 3)<|(Qm)<|(Q5 4) ?_
        refine e_add_i (p := 2) rfl rfl rfl (by omega) ?_
        refine (Qm)<|(Q4 4)<|(QB (4 * (2 + q / 4)))<|(QB (8 + q))<|(Q1 3) ?_
        refine e_xor_w rfl rfl rfl  ?_
        refine e_xor_w rfl rfl rfl  ?_
        refine (Qi)<|(Qu 0)<|Qn<|Qp<|(Q2 1)<|(Qm)<|Qn ?_
        refine QzL ⟨q + 1, upd s2 q _, rfl, rfl, rfl, by omega, sqz_step (by omega) (congrArg (brs b (w0 h many true)) hz1) hf4_1⟩ ⟨rfl, rfl, rfl, rfl, rfl, rfl, rfl, rfl, rfl, rfl, trivial⟩ ⟨rfl, rfl, rfl, rfl, trivial⟩ ?_
        omega
      · intro hc5
        have hc5 := of_decide_eq_false hc5
        have hz4 : q = 8 := by omega
        subst hz4
        refine Qe<|Qs<|Qp<|(Qd 0)<|(Qt 2)<|Qn<|Qr ?_
        rw [← sqz_all hf4_1]
        exact ⟨_, rfl, .cell (i := 2) rfl rfl (Uu 63) rfl (Uz 63) (arr_size _ _ _)⟩
end Go.Proofs.YthljakcegoohlaaDoor
namespace Go.Proofs.YthljakcegoohlaaDoor
open Go Go.RowKit
variable {G : Mem}
set_option maxHeartbeats 8000000 in
theorem squeezed_false (h : Nat → Nat) (b : List Nat) (many : Nat) (hb : ∀ x ∈ b, x < 256) (hl : b.length = 64) : Fn Tryd.prog ((⟨0, arr .u32 8 ivf, 63⟩ : Blk) :: G) 30 #[.agg (arr .u32 8 h), sv b, ii many, .bool false] (.agg (arr .u32 8 (sqz h b many false))) := by
  refine Qf1 Tryd.func30 ?_
  refine Qs<|Qp<|(Qh 0) fun r1=>(Qh 1) fun r2=>(QH 2) fun r3=>Qn<|Qs<|Qp<|(QH 3) fun r4=>Qn<|Qs<|Qs<|Qp<|(Qm)<|Qn<|Qb ?_
  refine QzK [(2, _), (3, _), (4, _), (5, _), (8, _), (9, _)] [(0, _), (1, _), (2, _)] (fun kk E m => ∃ (i : Nat) (s : Nat → Nat), kk = 8 - i ∧ E = [(18, ii i)] ∧ m = [(3, some ⟨r4, arr .u32 16 s, 79⟩)] ∧ (i ≤ 8) ∧ (∀ t, t < 16 → s t = if t % 8 < i then w00 h t else 0)) ⟨0, fun _ => 0, rfl, rfl, rfl, by omega, fun t _ => by rw [if_neg (by omega)]⟩ ⟨rfl, rfl, rfl, rfl, rfl, rfl, rfl, trivial⟩ ⟨rfl, rfl, rfl, rfl, trivial⟩ ?_
  rintro kk E m ⟨i, s, rfl, rfl, rfl, hf0_0, hf0_1⟩
  simp only [catE, catL]
  refine Qs<|Qp<|(Ql)<|Qn<|Qs ?_
  refine e_cond rfl ?_ ?_
  · intro hc0
    have hc0 : i < 8 := by have := of_decide_eq_true hc0; omega
    refine Qk<|Qs<|Qb<|Qs<|Qp<|(Qm)<|(Qa)<|Qn<|(Qq ⟨[r4], 1, [], none⟩)<|(Qm)<|(Q5 4)<|(Qm)<|(Q4 4)<|(Qm)<|(Q5 4) ?_
    refine e_add_i (p := 2) rfl rfl rfl (by omega) ?_
    refine (Qm)<|(Q4 4)<|(Qm)<|(Qi) ?_
    refine e_load1 (i := 0) (Uu 62) rfl rfl rfl (arr_get (by omega)) rfl ⟨[3], rfl, rfl, trivial⟩ ?_
    refine (Qm)<|(Qi) ?_
    refine e_load1g (i := 0) (Uu 62) rfl rfl rfl (arr_get (by omega)) rfl ?_
    refine (QB (4 * (i / 4)))<|(QB (i)) ?_
    refine e_storeN (i := 3) (Uz 62) rfl rfl rfl (by omega) (.inr (by simp)) ?_
    refine (QB (4 * (2 + i / 4)))<|(QB (8 + i)) ?_
    refine e_storeN (i := 3) (Uz 62) rfl rfl rfl (by omega) (.inr (by simp)) ?_
    refine Qn<|Qp<|(Q2 1)<|(Qm)<|Qn ?_
    refine QzL ⟨i + 1, upd (upd s i _) (8 + i) _, rfl, rfl, rfl, by omega, w00_step (by omega) hf0_1⟩ ⟨rfl, rfl, rfl, rfl, rfl, rfl, rfl, trivial⟩ ⟨rfl, rfl, rfl, rfl, trivial⟩ ?_
    omega
  · intro hc0
    have hc0 := of_decide_eq_false hc0
    have hz0 : i = 8 := by omega
    subst hz0
    refine Qe<|Qs<|Qp<|(QA 12 3)<|(QA 12 0)<|(Q1 3)<|(Qm) ?_
    refine e_conv_w (Uu 3) (Uu 62) rfl rfl rfl ?_
    refine e_xor_w rfl rfl rfl  ?_
    refine (QA 12 3)<|(QA 12 0)<|(Qu 3)<|Qn<|Qs<|Qs<|Qp<|(Qm)<|Qn<|(Qcf)<|Qk<|Qs<|Qp<|(QY)<|(Qa)<|Qn<|Qs<|Qs<|Qp<|(Qm)<|Qn<|Qb ?_
    refine QzK [(2, _), (3, _), (4, _), (5, _), (8, _), (9, _), (11, _), (18, _)] [(0, _), (1, _), (2, _)] (fun kk E m => ∃ (r : Nat), kk = 10 - r ∧ E = [(57, ii r)] ∧ m = [(3, some ⟨r4, arr .u32 16 (brs b (w0 h many false) r), 79⟩)] ∧ (r ≤ 10)) ⟨0, rfl, rfl, rfl, by omega⟩ ⟨rfl, rfl, rfl, rfl, rfl, rfl, rfl, rfl, rfl, trivial⟩ ⟨(congrArg (fun c => some (⟨r4, c, 79⟩ : Blk)) (arr_congr (fun t ht => (w0_false hf0_1 t ht).trans (congrFun (brs_zero b (w0 h many false)) t)))), rfl, rfl, rfl, trivial⟩ ?_
    rintro kk E m ⟨r, rfl, rfl, rfl, hf1_0⟩
    simp only [catE, catL]
    refine Qs<|Qp<|(Ql)<|Qn<|Qs ?_
    refine e_cond rfl ?_ ?_
    · intro hc2
      have hc2 : r < 10 := by have := of_decide_eq_true hc2; omega
      refine Qk<|Qs<|Qb<|Qs<|Qp<|(Qm)<|(Qa)<|Qn<|Qs<|Qp<|(Qm)<|Qn<|Qb ?_
      refine QzK [(2, _), (3, _), (4, _), (5, _), (8, _), (9, _), (11, _), (12, _), (18, _), (57, _)] [(0, _), (1, _), (2, _)] (fun kk E m => ∃ (p : Nat), kk = 2 - p ∧ E = [(60, ii p)] ∧ m = [(3, some ⟨r4, arr .u32 16 (bpart b r (brs b (w0 h many false) r) p), 79⟩)] ∧ (p ≤ 2)) ⟨0, rfl, rfl, rfl, by omega⟩ ⟨rfl, rfl, rfl, rfl, rfl, rfl, rfl, rfl, rfl, rfl, rfl, trivial⟩ ⟨(blk_arr (bpart_zero b r (brs b (w0 h many false) r))), rfl, rfl, rfl, trivial⟩ ?_
      rintro kk E m ⟨p, rfl, rfl, rfl, hf2_0⟩
      simp only [catE, catL]
      refine Qs<|Qp<|(Ql)<|Qn<|Qs ?_
      refine e_cond rfl ?_ ?_
      · intro hc3
        have hc3 : p < 2 := by have := of_decide_eq_true hc3; omega
        refine Qk<|Qs<|Qb<|Qs<|Qp<|(Qm)<|(Qa)<|Qn<|Qs<|Qp<|(Qd 3)<|(Qm) ?_
        refine e_call rfl (Un 38) (shp_fn p (by omega) _) rfl rfl ?_
        refine (Qt 3)<|Qn<|Qs<|Qs<|Qp<|(Qm)<|Qn<|Qb ?_
        refine QzK [(2, _), (3, _), (4, _), (5, _), (8, _), (9, _), (11, _), (12, _), (13, _), (18, _), (57, _), (60, _)] [(0, _), (1, _), (2, _)] (fun kk E m => ∃ (c : Nat) (s : Nat → Nat), kk = 4 - c ∧ E = [(66, ii c)] ∧ m = [(3, some ⟨r4, arr .u32 16 s, 79⟩)] ∧ (c ≤ 4) ∧ (∀ t, t < 16 → s t = if t % 4 < c then brn (xw b r p) (yw b r p) (shp p (bpart b r (brs b (w0 h many false) r) p)) t else (shp p (bpart b r (brs b (w0 h many false) r) p)) t)) ⟨0, (shp p (bpart b r (brs b (w0 h many false) r) p)), rfl, rfl, rfl, by omega, fun t _ => by rw [if_neg (by omega)]⟩ ⟨rfl, rfl, rfl, rfl, rfl, rfl, rfl, rfl, rfl, rfl, rfl, rfl, rfl, trivial⟩ ⟨rfl, rfl, rfl, rfl, trivial⟩ ?_
        rintro kk E m ⟨c, s, rfl, rfl, rfl, hf3_0, hf3_1⟩
        simp only [catE, catL]
        refine Qs<|Qp<|(Ql)<|Qn<|Qs ?_
        refine e_cond rfl ?_ ?_
        · intro hc4
          have hc4 : c < 4 := by have := of_decide_eq_true hc4; omega
          refine Qk<|Qs<|Qb<|Qs<|Qp<|(Qm)<|(Qa)<|Qn<|Qs<|Qp<|(Qm)<|(Qm)<|(Qm)<|(Q7 8)<|(Qm)<|(Q7 2)<|(Q3) ?_
          refine e_callV [⟨r2, #[sv b], 9⟩] rfl rfl (Un 35) ⟨⟨1, rfl⟩, trivial⟩ (word_fn r2 r (8 * p + 2 * c) b hb hl (by omega) (by omega)) rfl rfl rfl ?_
          refine (Qm)<|(Qm)<|(Qm)<|(Q7 8)<|(Qm)<|(Q7 2)<|(Q3)<|(Q2 1) ?_
          refine e_callV [⟨r2, #[sv b], 9⟩] rfl rfl (Un 35) ⟨⟨1, rfl⟩, trivial⟩ (word_fn r2 r (8 * p + 2 * c + 1) b hb hl (by omega) (by omega)) rfl rfl rfl ?_
          refine (Qa)<|(Qa)<|Qn<|Qs<|(Qg)<|(Qm)<|(QA 0 0)<|(Qi)<|(Q1 3)<|(Qm)<|(QA 4 1)<|(QB (4 + c))<|(Q1 3)<|(Qm) ?_
          refine e_add_w rfl rfl rfl  ?_
          refine e_add_w rfl rfl rfl  ?_
          refine e_gen_w fun q1 hq1 => ?_
          refine (QA 0 0)<|(Qi)<|(Qu 3)<|Qn<|Qs<|(Qg)<|(Qm)<|(Qm)<|(QA 12 3)<|(QB (12 + c))<|(Q1 3)<|(Qm)<|(QA 0 0)<|(Qi)<|(Q1 3) ?_
          refine e_xor_w rfl rfl rfl  ?_
          refine e_call rfl (Un 39) (left_fn _ _ (by decide)) rfl rfl ?_
          refine e_gen_w fun q2 hq2 => ?_
          refine (QA 12 3)<|(QB (12 + c))<|(Qu 3)<|Qn<|Qs<|(Qg)<|(Qm)<|(QA 8 2)<|(QB (8 + c))<|(Q1 3)<|(Qm)<|(QA 12 3)<|(QB (12 + c))<|(Q1 3) ?_
          refine e_add_w rfl rfl rfl  ?_
          refine e_gen_w fun q3 hq3 => ?_
          refine (QA 8 2)<|(QB (8 + c))<|(Qu 3)<|Qn<|Qs<|(Qg)<|(Qm)<|(Qm)<|(QA 4 1)<|(QB (4 + c))<|(Q1 3)<|(Qm)<|(QA 8 2)<|(QB (8 + c))<|(Q1 3) ?_
          refine e_xor_w rfl rfl rfl  ?_
          refine e_call rfl (Un 39) (left_fn _ _ (by decide)) rfl rfl ?_
          refine e_gen_w fun q4 hq4 => ?_
          refine (QA 4 1)<|(QB (4 + c))<|(Qu 3)<|Qn<|Qs<|(Qg)<|(Qm)<|(QA 0 0)<|(Qi)<|(Q1 3)<|(Qm)<|(QA 4 1)<|(QB (4 + c))<|(Q1 3)<|(Qm) ?_
          refine e_add_w rfl rfl rfl  ?_
          refine e_add_w rfl rfl rfl  ?_
          refine e_gen_w fun q5 hq5 => ?_
          refine (QA 0 0)<|(Qi)<|(Qu 3)<|Qn<|Qs<|(Qg)<|(Qm)<|(Qm)<|(QA 12 3)<|(QB (12 + c))<|(Q1 3)<|(Qm)<|(QA 0 0)<|(Qi)<|(Q1 3) ?_
          refine e_xor_w rfl rfl rfl  ?_
          refine e_call rfl (Un 39) (left_fn _ _ (by decide)) rfl rfl ?_
          refine e_gen_w fun q6 hq6 => ?_
          refine (QA 12 3)<|(QB (12 + c))<|(Qu 3)<|Qn<|Qs<|(Qg)<|(Qm)<|(QA 8 2)<|(QB (8 + c))<|(Q1 3)<|(Qm)<|(QA 12 3)<|(QB (12 + c))<|(Q1 3) ?_
          refine e_add_w rfl rfl rfl  ?_
          refine e_gen_w fun q7 hq7 => ?_
          refine (QA 8 2)<|(QB (8 + c))<|(Qu 3)<|Qn<|(Qg)<|(Qm)<|(Qm)<|(QA 4 1)<|(QB (4 + c))<|(Q1 3)<|(Qm)<|(QA 8 2)<|(QB (8 + c))<|(Q1 3) ?_
          refine e_xor_w rfl rfl rfl  ?_
          refine e_call rfl (Un 39) (left_fn _ _ (by decide)) rfl rfl ?_
          refine e_gen_w fun q8 hq8 => ?_
          refine (QA 4 1)<|(QB (4 + c))<|(Qu 3)<|Qn<|Qp<|(Q2 1)<|(Qm)<|Qn ?_
          refine QzL ⟨c + 1, upd (upd (upd (upd (upd (upd (upd (upd s c q1) (12 + c) q2) (8 + c) q3) (4 + c) q4) c q5) (12 + c) q6) (8 + c) q7) (4 + c) q8, rfl, rfl, rfl, by omega, brn_step (by omega) hf3_1 _ rfl (bst_eqs (by omega) hq1 hq2 hq3 hq4 hq5 hq6 hq7 hq8)⟩ ⟨rfl, rfl, rfl, rfl, rfl, rfl, rfl, rfl, rfl, rfl, rfl, rfl, rfl, trivial⟩ ⟨rfl, rfl, rfl, rfl, trivial⟩ ?_
          omega
        · intro hc4
          have hc4 := of_decide_eq_false hc4
          have hz3 : c = 4 := by omega
          refine Qe<|Qp<|(Qd 3) ?_
          refine e_as (congrArg Value.agg (arr_congr (fun t ht => (hf3_1 t ht).trans (if_pos (by omega))))) ?_
          refine (Qm) ?_
          refine e_neg_z rfl rfl (by omega) (by omega) ?_
          refine e_call rfl (Un 38) (shn_fn p (by omega) _) rfl rfl ?_
          refine (Qt 3)<|Qn<|Qp<|(Q2 1)<|(Qm)<|Qn ?_
          refine QzL ⟨p + 1, rfl, rfl, rfl, by omega⟩ ⟨rfl, rfl, rfl, rfl, rfl, rfl, rfl, rfl, rfl, rfl, rfl, trivial⟩ ⟨(blk_arr (bpart_succ b r (brs b (w0 h many false) r) p)), rfl, rfl, rfl, trivial⟩ ?_
          omega
      · intro hc3
        have hc3 := of_decide_eq_false hc3
        have hz2 : p = 2 := by omega
        refine Qe<|Qp<|(Q2 1)<|(Qm)<|Qn ?_
        refine QzL ⟨r + 1, rfl, rfl, rfl, by omega⟩ ⟨rfl, rfl, rfl, rfl, rfl, rfl, rfl, rfl, rfl, trivial⟩ ⟨(blk_arr ((congrArg (bpart b r (brs b (w0 h many false) r)) hz2).trans (brs_succ b (w0 h many false) r))), rfl, rfl, rfl, trivial⟩ ?_
        omega
    · intro hc2
      have hc2 := of_decide_eq_false hc2
      have hz1 : r = 10 := by omega
      refine Qe<|Qs<|Qs<|Qp<|(Qm)<|Qn<|Qb ?_
      refine QzK [(2, _), (3, _), (4, _), (5, _), (8, _), (9, _), (11, _), (18, _), (57, _)] [(1, _), (2, _), (3, _)] (fun kk E m => ∃ (q : Nat) (s2 : Nat → Nat), kk = 8 - q ∧ E = [(193, ii q)] ∧ m = [(0, some ⟨r1, arr .u32 8 s2, 63⟩)] ∧ (q ≤ 8) ∧ (∀ t, t < 8 → s2 t = if t < q then sqz h b many false t else h t)) ⟨0, h, rfl, rfl, rfl, by omega, fun t _ => by rw [if_neg (by omega)]⟩ ⟨rfl, rfl, rfl, rfl, rfl, rfl, rfl, rfl, rfl, rfl, trivial⟩ ⟨rfl, rfl, rfl, rfl, trivial⟩ ?_
      rintro kk E m ⟨q, s2, rfl, rfl, rfl, hf4_0, hf4_1⟩
      simp only [catE, catL]
      refine Qs<|Qp<|(Ql)<|Qn<|Qs ?_
      refine e_cond rfl ?_ ?_
      · intro hc5
        have hc5 : q < 8 := by have := of_decide_eq_true hc5; omega
        refine Qk<|Qs<|Qb<|Qs<|Qp<|(Qm)<|(Qa)<|Qn<|(Qg)<|(Qm)<|(Qi)<|(Q1 0)<|(Qm)<|(Q5 4)<|(Qm)<|(Q4 4)<|(QB (4 * (q / 4)))<|(QB (q))<|(Q1 3)<|(Qm)<|(Q5 4) ?_
        refine e_add_i (p := 2) rfl rfl rfl (by omega) ?_
        refine (Qm)<|(Q4 4)<|(QB (4 * (2 + q / 4)))<|(QB (8 + q))<|(Q1 3) ?_
        refine e_xor_w rfl rfl rfl  ?_
        refine e_xor_w rfl rfl rfl  ?_
        refine (Qi)<|(Qu 0)<|Qn<|Qp<|(Q2 1)<|(Qm)<|Qn ?_
        refine QzL ⟨q + 1, upd s2 q _, rfl, rfl, rfl, by omega, sqz_step (by omega) (congrArg (brs b (w0 h many false)) hz1) hf4_1⟩ ⟨rfl, rfl, rfl, rfl, rfl, rfl, rfl, rfl, rfl, rfl, trivial⟩ ⟨rfl, rfl, rfl, rfl, trivial⟩ ?_
        omega
      · intro hc5
        have hc5 := of_decide_eq_false hc5
        have hz4 : q = 8 := by omega
        subst hz4
        refine Qe<|Qs<|Qp<|(Qd 0)<|(Qt 2)<|Qn<|Qr ?_
        rw [← sqz_all hf4_1]
        exact ⟨_, rfl, .cell (i := 2) rfl rfl (Uu 63) rfl (Uz 63) (arr_size _ _ _)⟩
end Go.Proofs.YthljakcegoohlaaDoor
namespace Go.Proofs.YthljakcegoohlaaDoor
open Go Go.RowKit
variable {G : Mem}
set_option maxHeartbeats 2000000 in
theorem hbegun_fn : Fn Tryd.prog ((⟨0, arr .u32 8 ivf, 63⟩ : Blk) :: G) 24 #[] (.agg (cells 74 [pI .u32 8 hbeg, pI .u8 64 (fun _ => 0), pV (.int .i64 0), pV (.int .i64 0)])) := by
  refine Qf1 Tryd.func24 ?_
  refine Qs<|Qp<|(QH 0) fun r1=>Qn<|Qs<|Qp ?_
  refine e_loadAg (i := 0) (Uu 63) rfl (Uz 63) rfl rfl (arr_size _ _ _) rfl ?_
  refine e_buildS (cells 74 [pI .u32 8 ivf, pI .u8 64 (fun _ => 0), pV (.int .i64 0), pV (.int .i64 0)]) (Ub 65 rfl) (Uu 65 rfl) pls65 rfl (by kernel_rfl) rfl ?_
  refine (QH 1) fun r2=>?_
  refine e_storeA (i := 1) (Uz 65) rfl rfl (arrv_size _ _) (cells_one ⟨fun _ => rfl, fun _ => rfl, fun _ => rfl, fun _ => rfl, trivial⟩) rfl cells_sz (.inl rfl) ?_
  refine Qn<|Qs<|Qp<|(Qf 0)<|(Qj 0)<|(QI 0 0 1) ?_
  refine e_xor_w (q := 16842784) rfl rfl rfl  ?_
  refine (Qf 0)<|(Qj 0) ?_
  refine e_stI (i := 1) 0 (0) (Uz 62) rfl rfl rfl rfl rfl (by decide) (by decide) (.inl rfl) ?_
  refine Qn<|Qs<|Qp<|(QD 1) ?_
  refine e_as (show _ = Value.agg (cells 74 [pI .u32 8 hbeg, pI .u8 64 (fun _ => 0), pV (.int .i64 0), pV (.int .i64 0)]) from rfl) ?_
  refine e_storeA (i := 0) (Uz 65) rfl rfl (arrv_size _ _) (cells_one ⟨fun _ => rfl, fun _ => rfl, fun _ => rfl, fun _ => rfl, trivial⟩) rfl cells_sz (.inl rfl) ?_
  refine Qn<|Qr ?_
  exact ⟨_, rfl, .cell (i := 0) rfl rfl (Uu 65) rfl (Uz 65) (arrv_size _ _)⟩
set_option maxHeartbeats 4000000 in
theorem badHash_ok (h d : Nat → Nat) (n ln : Nat) (hn : n ≤ 64) (hl : ln ≤ 1073741824) : Fn Tryd.prog G 29 #[.agg (cells 74 [pI .u32 8 h, pI .u8 64 d, pV (.int .i64 n), pV (.int .i64 ln)])] (.bool (!okB n ln d)) := by
  refine Qf1 Tryd.func29 ?_
  refine Qs<|Qp<|(Qh 0) fun r1=>(Qa)<|Qn<|Qs<|Qs<|Qp<|(Qf 72)<|(QV 2 0)<|(Ql)<|(Qaf)<|(Qm)<|(Qy)<|(Qf 72)<|(Qy)<|(QV 2 0)<|(Qy)<|(QG)<|(Qaf)<|(QF)<|(Qm)<|(Qy)<|(Qf 73)<|(Qy)<|(QV 3 0)<|(Qy)<|(Ql)<|(Qaf)<|(QF)<|(Qm)<|(Qy)<|(Qf 73)<|(Qy)<|(QV 3 0)<|(Qy)<|(QG)<|(Qaf)<|(QF)<|Qn<|(Qcf)<|Qk<|Qs<|Qp<|(Qf 73)<|(QV 3 0)<|(Q4 64)<|(Qa)<|Qn<|Qs<|Qs ?_
  rcases (by omega : ln % 64 ≠ 0 ∨ (ln % 64 = 0 ∧ 0 < ln) ∨ (ln % 64 = 0 ∧ ¬ 0 < ln)) with hm | ⟨hm, hp⟩ | ⟨hm, hp⟩
  · skip
    refine Qp<|(Qm)<|(Qc)<|(Qaf)<|(Qm)<|(Qo)<|(Qo)<|(Qo)<|(QF)<|Qn<|(Qcf) ?_
    have hkx : nbl ln = ln % 64 := if_neg (by omega)
    refine Qk<|Qs<|Qs<|Qp<|(Qf 8)<|(Qv 1 0)<|(Qm)<|Qn<|Qb ?_
    refine QzK [(1, _), (3, _), (35, _)] [(0, _)] (fun kk E m => ∃ (i : Nat), kk = 64 - i ∧ E = [(36, ii i)] ∧ m = [] ∧ (i ≤ 64) ∧ (∀ t, t < i → n ≤ t → d t = 0)) ⟨0, rfl, rfl, rfl, by omega, fun t ht => absurd ht (Nat.not_lt_zero t)⟩ ⟨rfl, rfl, rfl, rfl, trivial⟩ ⟨rfl, trivial⟩ ?_
    rintro kk E m ⟨i, rfl, rfl, rfl, hf0_0, hf0_1⟩
    simp only [catE, catL]
    refine Qs<|Qp<|(Ql)<|Qn<|Qs ?_
    refine e_cond rfl ?_ ?_
    · intro hc2
      have hc2 : i < 64 := by have := of_decide_eq_true hc2; omega
      refine Qk<|Qs<|Qb<|Qs<|Qp<|(Qm)<|(QX)<|(Qa)<|(Qa)<|Qn<|Qs ?_
      rcases (by omega : ¬ n ≤ i ∨ (n ≤ i ∧ d i = 0) ∨ (n ≤ i ∧ d i ≠ 0)) with hz | ⟨hge, hz⟩ | ⟨hge, hne⟩
      · skip
        refine Qp<|(Qm)<|(Qf 72)<|(QV 2 0)<|(QE)<|(Qaf)<|(Qm)<|(Qo)<|(Qo)<|(QF)<|Qn<|(Qcf)<|Qk<|Qp<|(Q2 1)<|(Qm)<|Qn ?_
        refine QzL ⟨i + 1, rfl, rfl, rfl, by omega, fun t ht hnt => by rcases (by omega : t < i ∨ t = i) with h | rfl; exact hf0_1 t h hnt; first | exact hz | exact absurd hnt (by omega)⟩ ⟨rfl, rfl, rfl, rfl, trivial⟩ ⟨rfl, trivial⟩ ?_
        omega
      · skip
        refine Qp<|(Qm)<|(Qf 72)<|(QV 2 0)<|(QE)<|(Qat)<|(Qm)<|(Qy)<|(Qm)<|(Qy)<|(QN)<|(Qaf)<|(QT)<|Qn<|(Qcf)<|Qk<|Qp<|(Q2 1)<|(Qm)<|Qn ?_
        refine QzL ⟨i + 1, rfl, rfl, rfl, by omega, fun t ht hnt => by rcases (by omega : t < i ∨ t = i) with h | rfl; exact hf0_1 t h hnt; first | exact hz | exact absurd hnt (by omega)⟩ ⟨rfl, rfl, rfl, rfl, trivial⟩ ⟨rfl, trivial⟩ ?_
        omega
      · skip
        refine Qp<|(Qm)<|(Qf 72)<|(QV 2 0)<|(QE)<|(Qat)<|(Qm)<|(Qy)<|(Qm)<|(Qy)<|(QN)<|(Qat)<|(QT)<|Qn<|(Qct)<|Qs<|Qp<|(Qa)<|Qn<|Qr ?_
        first | rw [okB_bad (i := i) (by omega) hge hne] | rw [okB_fin hf0_1 hkx]
        exact ⟨_, rfl, .tmp rfl⟩
    · intro hc2
      have hc2 := of_decide_eq_false hc2
      have hz0 : i = 64 := by omega
      subst hz0
      refine Qe<|Qs<|Qp<|(Qf 72)<|(QV 2 0)<|(Qm)<|(QN)<|(Qa)<|Qn<|Qr ?_
      first | rw [okB_bad (i := i) (by omega) hge hne] | rw [okB_fin hf0_1 hkx]
      exact ⟨_, rfl, .tmp rfl⟩
  · skip
    refine Qp<|(Qm)<|(Qc)<|(Qat)<|(Qm)<|(Qy)<|(Qf 73)<|(Qy)<|(QV 3 0)<|(Qy)<|(QG)<|(Qat)<|(QT)<|Qn<|(Qct) ?_
    have hkx : nbl ln = 64 := if_pos ⟨hm, hp⟩
    refine Qp<|(Qa)<|Qn<|Qs<|Qs<|Qp<|(Qf 8)<|(Qv 1 0)<|(Qm)<|Qn<|Qb ?_
    refine QzK [(1, _), (3, _), (35, _)] [(0, _)] (fun kk E m => ∃ (i : Nat), kk = 64 - i ∧ E = [(36, ii i)] ∧ m = [] ∧ (i ≤ 64) ∧ (∀ t, t < i → n ≤ t → d t = 0)) ⟨0, rfl, rfl, rfl, by omega, fun t ht => absurd ht (Nat.not_lt_zero t)⟩ ⟨rfl, rfl, rfl, rfl, trivial⟩ ⟨rfl, trivial⟩ ?_
    rintro kk E m ⟨i, rfl, rfl, rfl, hf0_0, hf0_1⟩
    simp only [catE, catL]
    refine Qs<|Qp<|(Ql)<|Qn<|Qs ?_
    refine e_cond rfl ?_ ?_
    · intro hc2
      have hc2 : i < 64 := by have := of_decide_eq_true hc2; omega
      refine Qk<|Qs<|Qb<|Qs<|Qp<|(Qm)<|(QX)<|(Qa)<|(Qa)<|Qn<|Qs ?_
      rcases (by omega : ¬ n ≤ i ∨ (n ≤ i ∧ d i = 0) ∨ (n ≤ i ∧ d i ≠ 0)) with hz | ⟨hge, hz⟩ | ⟨hge, hne⟩
      · skip
        refine Qp<|(Qm)<|(Qf 72)<|(QV 2 0)<|(QE)<|(Qaf)<|(Qm)<|(Qo)<|(Qo)<|(QF)<|Qn<|(Qcf)<|Qk<|Qp<|(Q2 1)<|(Qm)<|Qn ?_
        refine QzL ⟨i + 1, rfl, rfl, rfl, by omega, fun t ht hnt => by rcases (by omega : t < i ∨ t = i) with h | rfl; exact hf0_1 t h hnt; first | exact hz | exact absurd hnt (by omega)⟩ ⟨rfl, rfl, rfl, rfl, trivial⟩ ⟨rfl, trivial⟩ ?_
        omega
      · skip
        refine Qp<|(Qm)<|(Qf 72)<|(QV 2 0)<|(QE)<|(Qat)<|(Qm)<|(Qy)<|(Qm)<|(Qy)<|(QN)<|(Qaf)<|(QT)<|Qn<|(Qcf)<|Qk<|Qp<|(Q2 1)<|(Qm)<|Qn ?_
        refine QzL ⟨i + 1, rfl, rfl, rfl, by omega, fun t ht hnt => by rcases (by omega : t < i ∨ t = i) with h | rfl; exact hf0_1 t h hnt; first | exact hz | exact absurd hnt (by omega)⟩ ⟨rfl, rfl, rfl, rfl, trivial⟩ ⟨rfl, trivial⟩ ?_
        omega
      · skip
        refine Qp<|(Qm)<|(Qf 72)<|(QV 2 0)<|(QE)<|(Qat)<|(Qm)<|(Qy)<|(Qm)<|(Qy)<|(QN)<|(Qat)<|(QT)<|Qn<|(Qct)<|Qs<|Qp<|(Qa)<|Qn<|Qr ?_
        first | rw [okB_bad (i := i) (by omega) hge hne] | rw [okB_fin hf0_1 hkx]
        exact ⟨_, rfl, .tmp rfl⟩
    · intro hc2
      have hc2 := of_decide_eq_false hc2
      have hz0 : i = 64 := by omega
      subst hz0
      refine Qe<|Qs<|Qp<|(Qf 72)<|(QV 2 0)<|(Qm)<|(QN)<|(Qa)<|Qn<|Qr ?_
      first | rw [okB_bad (i := i) (by omega) hge hne] | rw [okB_fin hf0_1 hkx]
      exact ⟨_, rfl, .tmp rfl⟩
  · skip
    refine Qp<|(Qm)<|(Qc)<|(Qat)<|(Qm)<|(Qy)<|(Qf 73)<|(Qy)<|(QV 3 0)<|(Qy)<|(QG)<|(Qaf)<|(QT)<|Qn<|(Qcf) ?_
    have hkx : nbl ln = ln % 64 := if_neg (by omega)
    refine Qk<|Qs<|Qs<|Qp<|(Qf 8)<|(Qv 1 0)<|(Qm)<|Qn<|Qb ?_
    refine QzK [(1, _), (3, _), (35, _)] [(0, _)] (fun kk E m => ∃ (i : Nat), kk = 64 - i ∧ E = [(36, ii i)] ∧ m = [] ∧ (i ≤ 64) ∧ (∀ t, t < i → n ≤ t → d t = 0)) ⟨0, rfl, rfl, rfl, by omega, fun t ht => absurd ht (Nat.not_lt_zero t)⟩ ⟨rfl, rfl, rfl, rfl, trivial⟩ ⟨rfl, trivial⟩ ?_
    rintro kk E m ⟨i, rfl, rfl, rfl, hf0_0, hf0_1⟩
    simp only [catE, catL]
    refine Qs<|Qp<|(Ql)<|Qn<|Qs ?_
    refine e_cond rfl ?_ ?_
    · intro hc2
      have hc2 : i < 64 := by have := of_decide_eq_true hc2; omega
      refine Qk<|Qs<|Qb<|Qs<|Qp<|(Qm)<|(QX)<|(Qa)<|(Qa)<|Qn<|Qs ?_
      rcases (by omega : ¬ n ≤ i ∨ (n ≤ i ∧ d i = 0) ∨ (n ≤ i ∧ d i ≠ 0)) with hz | ⟨hge, hz⟩ | ⟨hge, hne⟩
      · skip
        refine Qp<|(Qm)<|(Qf 72)<|(QV 2 0)<|(QE)<|(Qaf)<|(Qm)<|(Qo)<|(Qo)<|(QF)<|Qn<|(Qcf)<|Qk<|Qp<|(Q2 1)<|(Qm)<|Qn ?_
        refine QzL ⟨i + 1, rfl, rfl, rfl, by omega, fun t ht hnt => by rcases (by omega : t < i ∨ t = i) with h | rfl; exact hf0_1 t h hnt; first | exact hz | exact absurd hnt (by omega)⟩ ⟨rfl, rfl, rfl, rfl, trivial⟩ ⟨rfl, trivial⟩ ?_
        omega
      · skip
        refine Qp<|(Qm)<|(Qf 72)<|(QV 2 0)<|(QE)<|(Qat)<|(Qm)<|(Qy)<|(Qm)<|(Qy)<|(QN)<|(Qaf)<|(QT)<|Qn<|(Qcf)<|Qk<|Qp<|(Q2 1)<|(Qm)<|Qn ?_
        refine QzL ⟨i + 1, rfl, rfl, rfl, by omega, fun t ht hnt => by rcases (by omega : t < i ∨ t = i) with h | rfl; exact hf0_1 t h hnt; first | exact hz | exact absurd hnt (by omega)⟩ ⟨rfl, rfl, rfl, rfl, trivial⟩ ⟨rfl, trivial⟩ ?_
        omega
      · skip
        refine Qp<|(Qm)<|(Qf 72)<|(QV 2 0)<|(QE)<|(Qat)<|(Qm)<|(Qy)<|(Qm)<|(Qy)<|(QN)<|(Qat)<|(QT)<|Qn<|(Qct)<|Qs<|Qp<|(Qa)<|Qn<|Qr ?_
        first | rw [okB_bad (i := i) (by omega) hge hne] | rw [okB_fin hf0_1 hkx]
        exact ⟨_, rfl, .tmp rfl⟩
    · intro hc2
      have hc2 := of_decide_eq_false hc2
      have hz0 : i = 64 := by omega
      subst hz0
      refine Qe<|Qs<|Qp<|(Qf 72)<|(QV 2 0)<|(Qm)<|(QN)<|(Qa)<|Qn<|Qr ?_
      first | rw [okB_bad (i := i) (by omega) hge hne] | rw [okB_fin hf0_1 hkx]
      exact ⟨_, rfl, .tmp rfl⟩
end Go.Proofs.YthljakcegoohlaaDoor
namespace Go.Proofs.YthljakcegoohlaaDoor
open Go Go.RowKit
variable {G : Mem}
set_option maxHeartbeats 2000000 in
theorem hadded_size (h d : Nat → Nat) (n ln : Nat) (v : Value) (l : List Nat) (hv : Shows ((⟨0, arr .u32 8 ivf, 63⟩ : Blk) :: G) 1 v l.length (l.map by8)) (hn : n ≤ 64) (hl : ln ≤ 1073741824) (hok : okB n ln d = true) (hz : 1073741824 < ln + l.length) (hlm : l.length ≤ 4611686018427387904) : Fn Tryd.prog ((⟨0, arr .u32 8 ivf, 63⟩ : Blk) :: G) 23 #[.agg (cells 74 [pI .u32 8 h, pI .u8 64 d, pV (.int .i64 (n : Int)), pV (.int .i64 (ln : Int))]), v] (.tuple #[.agg (cells 74 [pI .u32 8 (fun _ => 0), pI .u8 64 (fun _ => 0), pV (.int .i64 0), pV (.int .i64 0)]), ii 1]) := by
  refine Qf2 Tryd.func23 ?_
  refine Qs<|Qp<|(Qh 0) fun r1=>(QH 1) fun r2=>(Qa)<|Qn<|Qs<|Qs<|Qp<|(QD 0) ?_
  refine e_call rfl (Un 29) (badHash_ok h d n ln hn hl) rfl rfl ?_
  refine e_as (congrArg Value.bool (show (!okB n ln d) = false by rw [hok]; rfl)) ?_
  refine Qn<|(Qcf)<|Qk<|Qs<|Qs<|Qp<|(Qf 73)<|(QV 3 0)<|(Qm)<|(QC hv)<|(Q3)<|(QG)<|(Qat)<|Qn<|(Qct)<|Qs<|Qp ?_
  refine e_buildS (cells 74 [pI .u32 8 (fun _ => 0), pI .u8 64 (fun _ => 0), pV (.int .i64 0), pV (.int .i64 0)]) (Ub 65 rfl) (Uu 65 rfl) pls65 rfl (by kernel_rfl) rfl ?_
  refine e_storeA (i := 1) (Uz 65) rfl rfl (arrv_size _ _) (cells_one ⟨fun _ => rfl, fun _ => rfl, fun _ => rfl, fun _ => rfl, trivial⟩) rfl cells_sz (.inl rfl) ?_
  refine (Qa)<|Qn<|Qr ?_
  exact ⟨_, _, rfl, .cell (i := 1) rfl rfl (Uu 65) rfl (Uz 65) (arrv_size _ _), .tmp rfl⟩
set_option maxHeartbeats 4000000 in
theorem hadded_ok (h d : Nat → Nat) (n ln : Nat) (v : Value) (l : List Nat) (hv : Shows ((⟨0, arr .u32 8 ivf, 63⟩ : Blk) :: G) 1 v l.length (l.map by8)) (hlb : ∀ b ∈ l, b < 256) (hd : L8 64 d) (hl : ln ≤ 1073741824) (hok : okB n ln d = true) (hz : ln + l.length ≤ 1073741824) : Fn Tryd.prog ((⟨0, arr .u32 8 ivf, 63⟩ : Blk) :: G) 23 #[.agg (cells 74 [pI .u32 8 h, pI .u8 64 d, pV (.int .i64 (n : Int)), pV (.int .i64 (ln : Int))]), v] (.tuple #[.agg (cells 74 [pI .u32 8 (hacc h (ln - n) (sS d n l) (nblk (sS d n l).length)), pI .u8 64 (fun i => ((sS d n l).drop (64 * nblk (sS d n l).length)).getD i 0), pV (.int .i64 (((sS d n l).drop (64 * nblk (sS d n l).length)).length : Nat)), pV (.int .i64 (ln + l.length : Nat))]), ii 0]) := by
  obtain ⟨_, hnl, hn, hmod, _⟩ := okB_open hok
  have hSl := sS_len d n l
  have hSb := sS_lt (n := n) (fun j hj => hd j (by omega)) hlb
  refine Qf2 Tryd.func23 ?_
  refine Qs<|Qp<|(Qh 0) fun r1=>(QH 1) fun r2=>(Qa)<|Qn<|Qs<|Qs<|Qp<|(QD 0) ?_
  refine e_call rfl (Un 29) (badHash_ok h d n ln hn hl) rfl rfl ?_
  refine e_as (congrArg Value.bool (show (!okB n ln d) = false by rw [hok]; rfl)) ?_
  refine Qn<|(Qcf)<|Qk<|Qs<|Qs<|Qp<|(Qf 73)<|(QV 3 0)<|(Qm)<|(QC hv)<|(Q3)<|(QG)<|(Qaf)<|Qn<|(Qcf)<|Qk<|Qs<|Qp<|(Qf 8)<|(Qv 1 0)<|(QH 2) fun r3=>(Qt 2)<|Qn<|Qs<|(Qg)<|(Qf 72)<|(QV 2 0) ?_
  refine e_sliceA 0 n (Uu 56) (Uz 5) rfl rfl rfl rfl ⟨_, rfl⟩ (by omega) (by omega) (by omega) rfl ?_
  refine e_conv_str (i := 2) (Uu 48) (Uu 5) (Uu 9) rfl rfl (by omega) rfl rfl ⟨[], trivial⟩ ?_
  refine e_as (conv_all d n) ?_
  refine (Qm) ?_
  refine e_conv_strV hv seenG (Uu 48) (Uu 5) (Uu 9) rfl rfl rfl ?_
  refine e_catS rfl rfl rfl (by simp; omega) ?_
  refine e_as (show _ = sv (sS d n l) from rfl) ?_
  refine (Qa)<|Qn<|Qs<|Qp<|(Qf 73)<|(QV 3 0)<|(Qf 72)<|(QV 2 0) ?_
  refine e_sub_in rfl rfl rfl (by omega) (by omega) ?_
  refine (Qa)<|Qn<|Qs<|Qb ?_
  refine QzK [(1, _), (2, _), (4, _), (5, _)] [(1, _), (2, _)] (fun kk E m => ∃ (k : Nat), kk = (sS d n l).length - 64 * k ∧ E = [(7, sv ((sS d n l).drop (64 * k))), (8, ii (ln - n + 64 * k))] ∧ m = [(0, some ⟨r1, cells 74 [pI .u32 8 (hacc h (ln - n) (sS d n l) k), pI .u8 64 d, pV (.int .i64 (n : Int)), pV (.int .i64 (ln : Int))], 65⟩)] ∧ (64 * k ≤ (sS d n l).length) ∧ (k = 0 ∨ 64 * k < (sS d n l).length)) ⟨0, rfl, rfl, rfl, by omega, .inl rfl⟩ ⟨rfl, rfl, rfl, rfl, rfl, rfl, trivial⟩ ⟨rfl, rfl, rfl, trivial⟩ ?_
  rintro kk E m ⟨k, rfl, rfl, rfl, hf0_0, hf0_1⟩
  simp only [catE, catL]
  have hdl : ((sS d n l).drop (64 * k)).length = (sS d n l).length - 64 * k := List.length_drop
  refine Qs<|Qs<|Qp<|(Qm)<|(QU)<|(QG)<|Qn ?_
  refine e_cond rfl ?_ ?_
  · intro hc2
    have hc2 : 64 < (sS d n l).length - 64 * k := by have := of_decide_eq_true hc2; omega
    refine Qk<|Qb<|Qs<|Qp<|(Qm)<|(Q2 64)<|(Qa)<|Qn<|Qs<|(Qg)<|(Qf 0)<|(Qv 0 0)<|(Qm) ?_
    refine e_sliceStr 0 64 (Uu 9) rfl rfl rfl rfl ⟨_, rfl⟩ (by omega) (by omega) rfl ?_
    refine (Qm) ?_
    refine e_call rfl (Un 30) (squeezed_false (hacc h (ln - n) (sS d n l) k) (((sS d n l).drop (64 * k)).take 64) (ln - n + 64 * k + 64) (take_lt hSb _ _) (by rw [List.length_take]; omega)) rfl rfl ?_
    refine (Qf 0) ?_
    refine e_stC (i := 0) 0 (Uz 63) rfl rfl rfl rfl (by decide) (.inl rfl) ?_
    refine Qn<|Qp<|(Qm) ?_
    refine e_sliceStr 64 ((sS d n l).drop (64 * k)).length (Uu 9) rfl rfl rfl ⟨_, rfl⟩ rfl (by omega) (by omega) rfl ?_
    refine e_as (congrArg sv (drop_next64 _ k)) ?_
    refine (Qa)<|Qn ?_
    refine QzL ⟨k + 1, rfl, rfl, rfl, by omega, .inr (by omega)⟩ ⟨rfl, rfl, rfl, rfl, rfl, rfl, trivial⟩ ⟨rfl, rfl, rfl, trivial⟩ ?_
    omega
  · intro hc2
    have hc2 : ¬ 64 < (sS d n l).length - 64 * k := by have := of_decide_eq_false hc2; omega
    refine Qe<|Qs<|Qp<|(Qf 0)<|(Qv 0 0)<|(Qm)<|(QU)<|(Qf 73)<|(QV 3 0)<|(Qm)<|(QC hv)<|(Q3) ?_
    refine e_buildS (cells 74 [pI .u32 8 (hacc h (ln - n) (sS d n l) k), pI .u8 64 (fun _ => 0), pV (.int .i64 (((sS d n l).drop (64 * k)).length : Nat)), pV (.int .i64 (ln + l.length : Nat))]) (Ub 65 rfl) (Uu 65 rfl) pls65 rfl (by kernel_rfl) rfl ?_
    refine (QH 3) fun r4=>?_
    refine e_storeA (i := 3) (Uz 65) rfl rfl (arrv_size _ _) (cells_one ⟨fun _ => rfl, fun _ => rfl, fun _ => rfl, fun _ => rfl, trivial⟩) rfl cells_sz (.inl rfl) ?_
    refine Qn<|Qs<|Qp<|(Qf 8) ?_
    refine e_sliceA 0 64 (Uu 56) (Uz 5) rfl rfl rfl rfl rfl (by omega) (by omega) (by omega) rfl ?_
    refine (Qm) ?_
    refine e_copyC (i := 3) 1 (Uu 48) (Uz 5) rfl rfl (fun b hb => hSb b (List.mem_of_mem_drop hb)) rfl rfl (Nat.le_of_ble_eq_true rfl) (by decide) rfl ?_
    refine Qn<|Qs<|Qp<|(QD 3) ?_
    refine e_as (Eq.trans (show _ = .agg (cells 74 [pI .u32 8 (hacc h (ln - n) (sS d n l) k), pI .u8 64 (fun i => if i < min ((sS d n l).drop (64 * k)).length 64 then ((sS d n l).drop (64 * k)).getD i 0 else 0), pV (.int .i64 (((sS d n l).drop (64 * k)).length : Nat)), pV (.int .i64 (ln + l.length : Nat))]) from rfl) (by rw [held_all64 _ (by omega), nblk_of (n := (sS d n l).length) (by omega) hf0_1])) ?_
    refine e_storeA (i := 1) (Uz 65) rfl rfl (arrv_size _ _) (cells_one ⟨fun _ => rfl, fun _ => rfl, fun _ => rfl, fun _ => rfl, trivial⟩) rfl cells_sz (.inl rfl) ?_
    refine (Qa)<|Qn<|Qr ?_
    exact ⟨_, _, rfl, .cell (i := 1) rfl rfl (Uu 65) rfl (Uz 65) (arrv_size _ _), .tmp rfl⟩
set_option maxHeartbeats 400000 in
theorem key_fn (l : List Nat) (hl : ∀ b ∈ l, b < 256) (hn : l.length = 32) : Fn Tryd.prog G 32 #[sv l] (.agg (arr .u8 32 (fun j => l.getD j 0))) := by
  refine Qf1 Tryd.func32 ?_
  refine Qs<|Qp<|(QH 0) fun r1=>Qn<|Qs<|Qp<|(QH 1) fun r2=>Qn<|Qs<|Qp ?_
  refine e_sliceA 0 32 (Uu 28) (Uz 5) rfl rfl rfl rfl rfl (by omega) (by omega) (by omega) rfl ?_
  refine (Qm) ?_
  refine e_copyStr (i := 1) (Uu 48) (Uz 5) rfl rfl hl rfl (by omega) rfl ?_
  refine Qn<|Qs<|Qp<|(Qd 1) ?_
  refine e_as (congrArg Value.agg (arr_congr (fun j hj => if_pos (by omega)))) ?_
  refine (Qt 0)<|Qn<|Qr ?_
  exact ⟨_, rfl, .cell (i := 0) rfl rfl (Uu 28) rfl (Uz 28) (arr_size _ _ _)⟩
set_option maxHeartbeats 4000000 in
theorem hended_ok (h d : Nat → Nat) (n ln : Nat) (hd : L8 64 d) (hl : ln ≤ 1073741824) (hok : okB n ln d = true) : Fn Tryd.prog ((⟨0, arr .u32 8 ivf, 63⟩ : Blk) :: G) 25 #[.agg (cells 74 [pI .u32 8 h, pI .u8 64 d, pV (.int .i64 (n : Int)), pV (.int .i64 (ln : Int))])] (.tuple #[.agg (arr .u8 32 (hsumf (sqz h ((List.range 64).map d) ln true))), ii 0]) := by
  obtain ⟨_, _, hn, _, _⟩ := okB_open hok
  obtain ⟨w, hw⟩ : ∃ w, w = (sqz h ((List.range 64).map d) ln true) := ⟨_, rfl⟩
  have hwl : ∀ t, w t < 4294967296 := fun t => by rw [hw]; exact sqz_lt _ _ _ _ _
  refine Qf2 Tryd.func25 ?_
  refine Qs<|Qp<|(Qh 0) fun r1=>(QH 1) fun r2=>(Qa)<|Qn<|Qs<|Qs<|Qp<|(QD 0) ?_
  refine e_call rfl (Un 29) (badHash_ok h d n ln hn hl) rfl rfl ?_
  refine e_as (congrArg Value.bool (show (!okB n ln d) = false by rw [hok]; rfl)) ?_
  refine Qn<|(Qcf)<|Qk<|Qs<|Qp<|(Qf 8)<|(Qv 1 0)<|(QH 2) fun r3=>(Qt 2)<|Qn<|Qs<|Qp ?_
  refine e_assign (v := sv []) rfl rfl ?_
  refine Qn<|Qs<|Qs<|(Qg)<|(Qf 0)<|(Qv 0 0) ?_
  refine e_sliceA 0 64 (Uu 56) (Uz 5) rfl rfl rfl rfl rfl (by omega) (by omega) (by omega) rfl ?_
  refine e_conv_str (i := 2) (Uu 48) (Uu 5) (Uu 9) rfl rfl (by omega) rfl rfl ⟨[], trivial⟩ ?_
  refine e_as (conv_all d 64) ?_
  refine (Qf 73)<|(QV 3 0) ?_
  refine e_call rfl (Un 30) (squeezed_true h ((List.range 64).map d) ln (range_lt hd) (by simp)) rfl rfl ?_
  refine e_as (congrArg (fun f => Value.agg (arr .u32 8 f)) hw.symm) ?_
  refine (Qm)<|Qn<|Qb ?_
  refine QzK [(2, _), (3, _), (19, _)] [(0, _), (1, _), (2, _)] (fun kk E m => ∃ (i : Nat), kk = 8 - i ∧ E = [(5, sv (hol w i)), (20, ii i)] ∧ m = [] ∧ (i ≤ 8)) ⟨0, rfl, rfl, rfl, by omega⟩ ⟨rfl, rfl, rfl, rfl, rfl, trivial⟩ ⟨rfl, rfl, rfl, trivial⟩ ?_
  rintro kk E m ⟨i, rfl, rfl, rfl, hf0_0⟩
  simp only [catE, catL]
  have hhl := hol_len w i
  have hwi := hwl i
  refine Qs<|Qp<|(Ql)<|Qn<|Qs ?_
  refine e_cond rfl ?_ ?_
  · intro hc1
    have hc1 : i < 8 := by have := of_decide_eq_true hc1; omega
    refine Qk<|Qs<|Qb<|Qs<|Qp<|(QX)<|(Qa)<|Qn<|Qp<|(Qm)<|(Qm) ?_
    refine e_conv_un (Uu 62) (Uu 29) rfl rfl rfl (by omega) ?_
    refine e_call rfl (Un 31) (low_fn (w i) 4 (by omega) (by decide)) rfl rfl ?_
    refine e_catS rfl rfl rfl (by rw [lowl_len]; omega) ?_
    refine (Qa)<|Qn<|Qp<|(Q2 1)<|(Qm)<|Qn ?_
    refine QzL ⟨i + 1, rfl, rfl, rfl, by omega⟩ ⟨rfl, rfl, rfl, rfl, rfl, trivial⟩ ⟨rfl, rfl, rfl, trivial⟩ ?_
    omega
  · intro hc1
    have hc1 := of_decide_eq_false hc1
    have hz0 : i = 8 := by omega
    refine Qe<|Qs<|Qp<|(Qm) ?_
    refine e_call rfl (Un 32) (key_fn (hol w i) (hol_lt w i) (by omega)) rfl rfl ?_
    refine e_as (show _ = Value.agg (arr .u8 32 (fun j => (hol w i).getD j 0)) from rfl) ?_
    refine (Qt 1)<|(Qa)<|Qn<|Qr ?_
    rw [show hsumf (sqz h ((List.range 64).map d) ln true) = fun j => (hol w i).getD j 0 by rw [hz0, ← hw]; rfl]
    exact ⟨_, _, rfl, .cell (i := 1) rfl rfl (Uu 28) rfl (Uz 28) (arr_size _ _ _), .tmp rfl⟩
end Go.Proofs.YthljakcegoohlaaDoor
namespace Go.Proofs.YthljakcegoohlaaDoor
open Go Go.RowKit
abbrev IVB : Blk := ⟨0, arr .u32 8 ivf, 63⟩
theorem stB_nil : .agg (cells 74 [pI .u32 8 hbeg, pI .u8 64 (fun _ => 0), pV (.int .i64 0), pV (.int .i64 0)]) = stB [] := by
  unfold stB cB
  rw [heldB_nil, hmsg_nil]; rfl
theorem hadded_msg {G : Mem} (m : List Nat) (v : Value) (l : List Nat) (hm : ∀ b ∈ m, b < 256) (hv : Shows (IVB :: G) 1 v l.length (l.map by8)) (hlb : ∀ b ∈ l, b < 256) (hz : m.length + l.length ≤ 1073741824) :
    Fn Tryd.prog (IVB :: G) 23 #[stB m, v] (.tuple #[stB (m ++ l), ii 0]) := by
  have h := hadded_ok (G := G) (hmsg m) (heldB m) (rem64 m).length m.length v l hv hlb (fun j _ => heldB_lt hm j) (by omega) (ok_heldB m) hz
  rw [sS_heldB, base_of, hmsg_app, rem64_app, ← List.length_append] at h
  exact h
theorem hended_msg {G : Mem} (m : List Nat) (hm : ∀ b ∈ m, b < 256) (hz : m.length ≤ 1073741824) : Fn Tryd.prog (IVB :: G) 25 #[stB m] (.tuple #[.agg (arr .u8 32 (bsum m)), ii 0]) := by
  have h := hended_ok (G := G) (hmsg m) (heldB m) (rem64 m).length m.length (fun j _ => heldB_lt hm j) hz (ok_heldB m)
  rw [← bsum_small hz] at h
  exact h
variable {G : Mem}
set_option maxHeartbeats 2000000 in
theorem hashOf_a (l : List Nat) (hb : ∀ b ∈ l, b < 256) (hz : l.length ≤ 1073741824) : Fn Tryd.prog (IVB :: G) 18 #[sv l] (.agg (arr .u8 32 (bsum l))) := by
  refine Qf1 Tryd.func18 ?_
  refine Qs<|Qp<|(QH 0) fun r1=>Qn<|Qs<|QR ⟨[], 1, [48], none⟩ ?_
  refine e_call rfl (Un 24) hbegun_fn rfl rfl ?_
  refine e_as stB_nil ?_
  refine (Qm) ?_
  refine e_conv_own 1 (Uu 9) (Uu 48) (Uu 5) rfl hb (by simp only [maxLen]; omega) rfl rfl fun v1_1 oz1_1 ho1_1 => ?_
  refine e_callS rfl rfl (Un 23) (seen_app seen_hd (seenM 1 rfl ⟨[], trivial⟩)) (hadded_msg (G := oz1_1.toList) [] _ l (by simp) ((own_bytes ho1_1).mono (fun x h => List.mem_cons_of_mem _ h)) hb (by simpa using hz)) rfl rfl ?_
  refine e_as (show _ = Value.tuple #[stB l, ii 0] from rfl) ?_
  refine (Qm)<|(Qx)<|(Qx)<|(QH 2) fun r3=>?_
  refine e_storeA (i := 2) (Uz 65) rfl rfl (arrv_size _ _) (cells_one ⟨fun _ => rfl, fun _ => rfl, fun _ => rfl, fun _ => rfl, trivial⟩) rfl cells_sz (.inl rfl) ?_
  refine (Qa)<|Qn<|Qs<|Qp<|(QD 2) ?_
  refine e_call rfl (Un 25) (hended_msg l hb hz) rfl rfl ?_
  refine (Qm)<|(Qx)<|(Qx)<|(QH 3) fun r4=>(Qt 3)<|(Qa)<|Qn<|Qs<|Qp<|(Qd 3)<|(Qt 0)<|Qn<|Qr ?_
  exact ⟨_, rfl, .cell (i := 0) rfl rfl (Uu 28) rfl (Uz 28) (arr_size _ _ _)⟩
set_option maxHeartbeats 2000000 in
theorem hashOf_b (l : List Nat) (hb : ∀ b ∈ l, b < 256) (hl : l.length ≤ 4611686018427387904) (hz : ¬ l.length ≤ 1073741824) : Fn Tryd.prog (IVB :: G) 18 #[sv l] (.agg (arr .u8 32 (bsum l))) := by
  refine Qf1 Tryd.func18 ?_
  refine Qs<|Qp<|(QH 0) fun r1=>Qn<|Qs<|QR ⟨[], 1, [48], none⟩ ?_
  refine e_call rfl (Un 24) hbegun_fn rfl rfl ?_
  refine e_as stB_nil ?_
  refine (Qm) ?_
  refine e_conv_own 1 (Uu 9) (Uu 48) (Uu 5) rfl hb (by simp only [maxLen]; omega) rfl rfl fun v1_1 oz1_1 ho1_1 => ?_
  refine e_callS rfl rfl (Un 23) (seen_app seen_hd (seenM 1 rfl ⟨[], trivial⟩)) (hadded_size (G := oz1_1.toList) (hmsg []) (heldB []) 0 0 _ l ((own_bytes ho1_1).mono (fun x h => List.mem_cons_of_mem _ h)) (by decide) (by decide) (ok_heldB []) (by omega) hl) rfl rfl ?_
  refine (Qm)<|(Qx)<|(Qx)<|(QH 2) fun r3=>?_
  refine e_storeA (i := 2) (Uz 65) rfl rfl (arrv_size _ _) (cells_one ⟨fun _ => rfl, fun _ => rfl, fun _ => rfl, fun _ => rfl, trivial⟩) rfl cells_sz (.inl rfl) ?_
  refine (Qa)<|Qn<|Qs<|Qp<|(QD 2) ?_
  refine e_call rfl (Un 25) (hended_ok (fun _ => 0) (fun _ => 0) 0 0 (fun _ _ => (show 0 < 256 by decide)) (by decide) okB_zero) rfl rfl ?_
  refine e_as (congrArg (fun f => Value.tuple #[.agg (arr .u8 32 f), ii 0]) (bsum_great hz).symm) ?_
  refine (Qm)<|(Qx)<|(Qx)<|(QH 3) fun r4=>(Qt 3)<|(Qa)<|Qn<|Qs<|Qp<|(Qd 3)<|(Qt 0)<|Qn<|Qr ?_
  exact ⟨_, rfl, .cell (i := 0) rfl rfl (Uu 28) rfl (Uz 28) (arr_size _ _ _)⟩
end Go.Proofs.YthljakcegoohlaaDoor
namespace Go.Proofs.YthljakcegoohlaaDoor
open Go Go.RowKit
theorem hashOf_fn {G : Mem} (l : List Nat) (hb : ∀ b ∈ l, b < 256) (hl : l.length ≤ 4611686018427387904) : Fn Tryd.prog (IVB :: G) 18 #[sv l] (.agg (arr .u8 32 (bsum l))) := by
  by_cases hz : l.length ≤ 1073741824
  · exact hashOf_a l hb hz
  · exact hashOf_b l hb hl hz
variable {G : Mem}
set_option maxHeartbeats 400000 in
theorem text_fn (f : Nat → Nat) : Fn Tryd.prog G 14 #[.agg (arr .u8 32 f)] (sv ((List.range 32).map f)) := by
  refine Qf1 Tryd.func14 ?_
  refine Qs<|Qp<|(Qh 0) fun r1=>?_
  refine e_assign (v := sv []) rfl rfl ?_
  refine Qn<|Qs<|Qp ?_
  refine e_sliceA 0 32 (Uu 28) (Uz 5) rfl rfl rfl rfl rfl (by omega) (by omega) (by omega) rfl ?_
  refine e_conv_str (i := 0) (Uu 48) (Uu 5) (Uu 9) rfl rfl (by omega) rfl rfl ⟨[], trivial⟩ ?_
  refine e_as (conv_all f 32) ?_
  refine (Qa)<|Qn<|Qr ?_
  exact ⟨_, rfl, .tmp rfl⟩
set_option maxHeartbeats 4000000 in
theorem mac_long (k s : List Nat) (hk : ∀ b ∈ k, b < 256) (hb : ∀ b ∈ s, b < 256) (hkl : 64 < k.length) (hkm : k.length ≤ 4611686018427387904) (hs : s.length ≤ 2305843009213693952) : Fn Tryd.prog (IVB :: G) 15 #[sv k, sv s] (.agg (arr .u8 32 (mac k s))) := by
  have hmk : mkey k = bsl k := if_pos hkl
  have hkle := mkey_le k
  rw [hmk] at hkle
  obtain ⟨P, hPe⟩ : ∃ P, P = mpad k := ⟨_, rfl⟩
  have hP : P.length = 64 := by rw [hPe]; exact mpad_len k
  have hPl : ∀ b ∈ P, b < 256 := by rw [hPe]; exact mpad_lt hk
  refine Qf1 Tryd.func15 ?_
  refine Qs<|Qp<|(QH 0) fun r1=>Qn<|Qs<|Qs<|Qp<|(Qm)<|(QU)<|(QG)<|(Qat)<|Qn<|(Qct)<|Qp<|(Qm) ?_
  refine e_call rfl (Un 18) (hashOf_fn k hk hkm) rfl rfl ?_
  refine e_call rfl (Un 14) (text_fn _) rfl rfl ?_
  refine e_as (show _ = sv (bsl k) from rfl) ?_
  refine (Qa)<|Qn<|Qs<|Qp<|(Qm)<|(Qm)<|(QU) ?_
  refine e_sub_in (p := 64) rfl rfl rfl (by omega) (by omega) ?_
  refine e_call rfl (Un 19) (noughts_fn (64 - (bsl k).length) (by omega)) rfl rfl ?_
  refine e_catS rfl rfl rfl (by rw [zrs_len]; omega) ?_
  refine e_as (congrArg sv (show (bsl k) ++ zrs (64 - (bsl k).length) = P by rw [hPe, mpad, hmk])) ?_
  refine (Qa)<|Qn<|Qs<|QR ⟨[], 1, [48], none⟩<|(Qm) ?_
  refine e_conv_own 1 (Uu 9) (Uu 48) (Uu 5) rfl hPl (by simp only [maxLen]; omega) rfl rfl fun v2_1 oz2_1 ho2_1 => ?_
  refine (Qm) ?_
  refine e_conv_own 2 (Uu 9) (Uu 48) (Uu 5) rfl hPl (by simp only [maxLen]; omega) rfl rfl fun v2_2 oz2_2 ho2_2 => ?_
  refine (Qa)<|(Qa)<|Qn<|Qs<|Qs<|Qp<|(Qm)<|(QC ho2_1.shows) ?_
  refine e_as (congrArg ii hP) ?_
  refine (Qm)<|Qn<|Qb ?_
  refine QzK [(1, _), (4, _), (5, _), (6, _), (25, _)] [(0, _)] (fun kk E m => ∃ (i : Nat) (oa : Option Blk) (ob : Option Blk), kk = 64 - i ∧ E = [(26, ii i)] ∧ m = [(1, oa), (2, ob)] ∧ (i ≤ 64) ∧ (OwnS 5 1 v2_1 P.length ((xst P 54 i).map by8) (Option.toList oa)) ∧ (OwnS 5 1 v2_2 P.length ((xst P 92 i).map by8) (Option.toList ob))) ⟨0, oz2_1, oz2_2, rfl, rfl, rfl, by omega, own_fix ho2_1 rfl (by rw [← xst_zero]), own_fix ho2_2 rfl (by rw [← xst_zero])⟩ ⟨rfl, rfl, rfl, rfl, rfl, rfl, trivial⟩ ⟨rfl, rfl, rfl, trivial⟩ ?_
  rintro kk E m ⟨i, oa, ob, rfl, rfl, rfl, hf0_0, hf0_1, hf0_2⟩
  simp only [catE, catL]
  have hx1 := xst_len P 54 (i := i) (by omega)
  have hx2 := xst_len P 92 (i := i) (by omega)
  refine Qs<|Qp<|(Ql)<|Qn<|Qs ?_
  refine e_cond rfl ?_ ?_
  · intro hc1
    have hc1 : i < 64 := by have := of_decide_eq_true hc1; omega
    refine Qk<|Qs<|Qb<|Qs<|Qp<|(Qm)<|(Qa)<|Qn<|Qs<|Qp<|(Qm)<|(Qm) ?_
    refine e_atV hf0_1.shows (Uu 48) (Uz 5) rfl rfl (by omega) rfl ?_
    refine (QS) ?_
    refine e_loadV hf0_1.shows (seenM 1 rfl ⟨[], trivial⟩) (Uu 5) rfl rfl (nth_at (by omega)) rfl ?_
    refine e_xor_b (q := 54) rfl rfl rfl  ?_
    refine e_atV hf0_1.shows (Uu 48) (Uz 5) rfl rfl (by omega) rfl ?_
    refine (QS) ?_
    refine e_stOwn (i := 1) hf0_1 (Uz 5) rfl rfl rfl rfl (by omega) rfl fun oz3_3 ho3_3 => ?_
    refine Qn<|Qp<|(Qm)<|(Qm) ?_
    refine e_atV hf0_2.shows (Uu 48) (Uz 5) rfl rfl (by omega) rfl ?_
    refine (QS) ?_
    refine e_loadV hf0_2.shows (seenM 2 rfl ⟨[], trivial⟩) (Uu 5) rfl rfl (nth_at (by omega)) rfl ?_
    refine e_xor_b (q := 92) rfl rfl rfl  ?_
    refine e_atV hf0_2.shows (Uu 48) (Uz 5) rfl rfl (by omega) rfl ?_
    refine (QS) ?_
    refine e_stOwn (i := 2) hf0_2 (Uz 5) rfl rfl rfl rfl (by omega) rfl fun oz3_4 ho3_4 => ?_
    refine Qn<|Qp<|(Q2 1)<|(Qm)<|Qn ?_
    refine QzL ⟨i + 1, _, _, rfl, rfl, rfl, by omega, own_fix (own_setB ho3_3) rfl (by rw [xst_next P 54 (by omega)]), own_fix (own_setB ho3_4) rfl (by rw [xst_next P 92 (by omega)])⟩ ⟨rfl, rfl, rfl, rfl, rfl, rfl, trivial⟩ ⟨rfl, rfl, rfl, trivial⟩ ?_
    omega
  · intro hc1
    have hc1 := of_decide_eq_false hc1
    have hz0 : i = 64 := by omega
    refine Qe<|Qs<|(Qg)<|(Qm) ?_
    refine e_conv_strV (l := (xst P 92 i)) (own_bytes hf0_2) (seenM 2 rfl ⟨[], trivial⟩) (Uu 48) (Uu 5) (Uu 9) rfl rfl rfl ?_
    refine e_as (congrArg sv (show xst P 92 i = xorl P 92 by rw [hz0, ← hP, xst_all])) ?_
    refine (Qm) ?_
    refine e_conv_strV (l := (xst P 54 i)) (own_bytes hf0_1) (seenM 1 rfl ⟨[], trivial⟩) (Uu 48) (Uu 5) (Uu 9) rfl rfl rfl ?_
    refine e_as (congrArg sv (show xst P 54 i = xorl P 54 by rw [hz0, ← hP, xst_all])) ?_
    refine (Qm) ?_
    refine e_catS rfl rfl rfl (by rw [xorl_len]; omega) ?_
    refine e_call rfl (Un 18) (hashOf_fn (xorl P 54 ++ s) (fun b h => (List.mem_append.1 h).elim (xorl_lt P 54 b) (hb b)) (by rw [List.length_append, xorl_len]; omega)) rfl rfl ?_
    refine e_call rfl (Un 14) (text_fn _) rfl rfl ?_
    refine e_as (show _ = sv (bsl (xorl P 54 ++ s)) from rfl) ?_
    refine e_catS rfl rfl rfl (by rw [xorl_len, bsl_len]; omega) ?_
    refine e_call rfl (Un 18) (hashOf_fn (xorl P 92 ++ bsl (xorl P 54 ++ s)) (fun b h => (List.mem_append.1 h).elim (xorl_lt P 92 b) (bsl_lt _ b)) (by rw [List.length_append, xorl_len, bsl_len]; omega)) rfl rfl ?_
    refine e_as (congrArg (fun f => Value.agg (arr .u8 32 f)) (show bsum (xorl P 92 ++ bsl (xorl P 54 ++ s)) = mac k s by rw [hPe]; rfl)) ?_
    refine (Qt 0)<|Qn<|Qr ?_
    exact ⟨_, rfl, .cell (i := 0) rfl rfl (Uu 28) rfl (Uz 28) (arr_size _ _ _)⟩
set_option maxHeartbeats 4000000 in
theorem mac_short (k s : List Nat) (hk : ∀ b ∈ k, b < 256) (hb : ∀ b ∈ s, b < 256) (hkl : ¬ 64 < k.length) (hs : s.length ≤ 2305843009213693952) : Fn Tryd.prog (IVB :: G) 15 #[sv k, sv s] (.agg (arr .u8 32 (mac k s))) := by
  have hmk : mkey k = k := if_neg hkl
  have hkle := mkey_le k
  rw [hmk] at hkle
  obtain ⟨P, hPe⟩ : ∃ P, P = mpad k := ⟨_, rfl⟩
  have hP : P.length = 64 := by rw [hPe]; exact mpad_len k
  have hPl : ∀ b ∈ P, b < 256 := by rw [hPe]; exact mpad_lt hk
  refine Qf1 Tryd.func15 ?_
  refine Qs<|Qp<|(QH 0) fun r1=>Qn<|Qs<|Qs<|Qp<|(Qm)<|(QU)<|(QG)<|(Qaf)<|Qn<|(Qcf)<|Qk<|Qs<|Qp<|(Qm)<|(Qm)<|(QU) ?_
  refine e_sub_in (p := 64) rfl rfl rfl (by omega) (by omega) ?_
  refine e_call rfl (Un 19) (noughts_fn (64 - k.length) (by omega)) rfl rfl ?_
  refine e_catS rfl rfl rfl (by rw [zrs_len]; omega) ?_
  refine e_as (congrArg sv (show k ++ zrs (64 - k.length) = P by rw [hPe, mpad, hmk])) ?_
  refine (Qa)<|Qn<|Qs<|QR ⟨[], 1, [48], none⟩<|(Qm) ?_
  refine e_conv_own 1 (Uu 9) (Uu 48) (Uu 5) rfl hPl (by simp only [maxLen]; omega) rfl rfl fun v2_1 oz2_1 ho2_1 => ?_
  refine (Qm) ?_
  refine e_conv_own 2 (Uu 9) (Uu 48) (Uu 5) rfl hPl (by simp only [maxLen]; omega) rfl rfl fun v2_2 oz2_2 ho2_2 => ?_
  refine (Qa)<|(Qa)<|Qn<|Qs<|Qs<|Qp<|(Qm)<|(QC ho2_1.shows) ?_
  refine e_as (congrArg ii hP) ?_
  refine (Qm)<|Qn<|Qb ?_
  refine QzK [(1, _), (4, _), (5, _), (6, _), (25, _)] [(0, _)] (fun kk E m => ∃ (i : Nat) (oa : Option Blk) (ob : Option Blk), kk = 64 - i ∧ E = [(26, ii i)] ∧ m = [(1, oa), (2, ob)] ∧ (i ≤ 64) ∧ (OwnS 5 1 v2_1 P.length ((xst P 54 i).map by8) (Option.toList oa)) ∧ (OwnS 5 1 v2_2 P.length ((xst P 92 i).map by8) (Option.toList ob))) ⟨0, oz2_1, oz2_2, rfl, rfl, rfl, by omega, own_fix ho2_1 rfl (by rw [← xst_zero]), own_fix ho2_2 rfl (by rw [← xst_zero])⟩ ⟨rfl, rfl, rfl, rfl, rfl, rfl, trivial⟩ ⟨rfl, rfl, rfl, trivial⟩ ?_
  rintro kk E m ⟨i, oa, ob, rfl, rfl, rfl, hf0_0, hf0_1, hf0_2⟩
  simp only [catE, catL]
  have hx1 := xst_len P 54 (i := i) (by omega)
  have hx2 := xst_len P 92 (i := i) (by omega)
  refine Qs<|Qp<|(Ql)<|Qn<|Qs ?_
  refine e_cond rfl ?_ ?_
  · intro hc1
    have hc1 : i < 64 := by have := of_decide_eq_true hc1; omega
    refine Qk<|Qs<|Qb<|Qs<|Qp<|(Qm)<|(Qa)<|Qn<|Qs<|Qp<|(Qm)<|(Qm) ?_
    refine e_atV hf0_1.shows (Uu 48) (Uz 5) rfl rfl (by omega) rfl ?_
    refine (QS) ?_
    refine e_loadV hf0_1.shows (seenM 1 rfl ⟨[], trivial⟩) (Uu 5) rfl rfl (nth_at (by omega)) rfl ?_
    refine e_xor_b (q := 54) rfl rfl rfl  ?_
    refine e_atV hf0_1.shows (Uu 48) (Uz 5) rfl rfl (by omega) rfl ?_
    refine (QS) ?_
    refine e_stOwn (i := 1) hf0_1 (Uz 5) rfl rfl rfl rfl (by omega) rfl fun oz3_3 ho3_3 => ?_
    refine Qn<|Qp<|(Qm)<|(Qm) ?_
    refine e_atV hf0_2.shows (Uu 48) (Uz 5) rfl rfl (by omega) rfl ?_
    refine (QS) ?_
    refine e_loadV hf0_2.shows (seenM 2 rfl ⟨[], trivial⟩) (Uu 5) rfl rfl (nth_at (by omega)) rfl ?_
    refine e_xor_b (q := 92) rfl rfl rfl  ?_
    refine e_atV hf0_2.shows (Uu 48) (Uz 5) rfl rfl (by omega) rfl ?_
    refine (QS) ?_
    refine e_stOwn (i := 2) hf0_2 (Uz 5) rfl rfl rfl rfl (by omega) rfl fun oz3_4 ho3_4 => ?_
    refine Qn<|Qp<|(Q2 1)<|(Qm)<|Qn ?_
    refine QzL ⟨i + 1, _, _, rfl, rfl, rfl, by omega, own_fix (own_setB ho3_3) rfl (by rw [xst_next P 54 (by omega)]), own_fix (own_setB ho3_4) rfl (by rw [xst_next P 92 (by omega)])⟩ ⟨rfl, rfl, rfl, rfl, rfl, rfl, trivial⟩ ⟨rfl, rfl, rfl, trivial⟩ ?_
    omega
  · intro hc1
    have hc1 := of_decide_eq_false hc1
    have hz0 : i = 64 := by omega
    refine Qe<|Qs<|(Qg)<|(Qm) ?_
    refine e_conv_strV (l := (xst P 92 i)) (own_bytes hf0_2) (seenM 2 rfl ⟨[], trivial⟩) (Uu 48) (Uu 5) (Uu 9) rfl rfl rfl ?_
    refine e_as (congrArg sv (show xst P 92 i = xorl P 92 by rw [hz0, ← hP, xst_all])) ?_
    refine (Qm) ?_
    refine e_conv_strV (l := (xst P 54 i)) (own_bytes hf0_1) (seenM 1 rfl ⟨[], trivial⟩) (Uu 48) (Uu 5) (Uu 9) rfl rfl rfl ?_
    refine e_as (congrArg sv (show xst P 54 i = xorl P 54 by rw [hz0, ← hP, xst_all])) ?_
    refine (Qm) ?_
    refine e_catS rfl rfl rfl (by rw [xorl_len]; omega) ?_
    refine e_call rfl (Un 18) (hashOf_fn (xorl P 54 ++ s) (fun b h => (List.mem_append.1 h).elim (xorl_lt P 54 b) (hb b)) (by rw [List.length_append, xorl_len]; omega)) rfl rfl ?_
    refine e_call rfl (Un 14) (text_fn _) rfl rfl ?_
    refine e_as (show _ = sv (bsl (xorl P 54 ++ s)) from rfl) ?_
    refine e_catS rfl rfl rfl (by rw [xorl_len, bsl_len]; omega) ?_
    refine e_call rfl (Un 18) (hashOf_fn (xorl P 92 ++ bsl (xorl P 54 ++ s)) (fun b h => (List.mem_append.1 h).elim (xorl_lt P 92 b) (bsl_lt _ b)) (by rw [List.length_append, xorl_len, bsl_len]; omega)) rfl rfl ?_
    refine e_as (congrArg (fun f => Value.agg (arr .u8 32 f)) (show bsum (xorl P 92 ++ bsl (xorl P 54 ++ s)) = mac k s by rw [hPe]; rfl)) ?_
    refine (Qt 0)<|Qn<|Qr ?_
    exact ⟨_, rfl, .cell (i := 0) rfl rfl (Uu 28) rfl (Uz 28) (arr_size _ _ _)⟩
end Go.Proofs.YthljakcegoohlaaDoor
namespace Go.Proofs.YthljakcegoohlaaDoor
open Go Go.RowKit
theorem fill_three (a b c : Nat → Nat) : Instr.fill (fun i => some (i * 32, 32)) (arr .u8 96 fun _ => 0) [(0, .agg (arr .u8 32 a)), (1, .agg (arr .u8 32 b)), (2, .agg (arr .u8 32 c))] = some (arr .u8 96 (thr3 a b c)) := by kernel_rfl
theorem mac_fn {G : Mem} (k s : List Nat) (hk : ∀ b ∈ k, b < 256) (hb : ∀ b ∈ s, b < 256) (hkm : k.length ≤ 4611686018427387904) (hs : s.length ≤ 2305843009213693952) : Fn Tryd.prog (IVB :: G) 15 #[sv k, sv s] (.agg (arr .u8 32 (mac k s))) := by
  by_cases h : 64 < k.length
  · exact mac_long k s hk hb h hkm hs
  · exact mac_short k s hk hb h hs
variable {G : Mem}
set_option maxHeartbeats 4000000 in
theorem keysOf_fn (c : Nat → Nat) (s : List Nat) (hc : L8 32 c) (hb : ∀ b ∈ s, b < 256) (hs : s.length ≤ 2305843009213693952) : Fn Tryd.prog (IVB :: G) 12 #[.agg (arr .u8 32 c), sv s] (.agg (arr .u8 96 (thr3 (kA c s) (kB c s) (kC c s)))) := by
  have hTl := kT_len c s
  have hTb := kT_lt c s
  have hAb : ∀ b ∈ (List.range 32).map (kA c s), b < 256 := range_lt fun _ _ => mac_lt _ _ _
  have hBb : ∀ b ∈ (List.range 32).map (kB c s), b < 256 := range_lt fun _ _ => mac_lt _ _ _
  have hl3 : ∀ f : Nat → Nat, ((List.range 32).map f).length = 32 := fun f => by simp
  refine Qf1 Tryd.func12 ?_
  refine Qs<|Qp<|(Qh 0) fun r1=>(QH 1) fun r2=>Qn<|Qs<|Qp<|(Qd 0) ?_
  refine e_call rfl (Un 14) (text_fn _) rfl rfl ?_
  refine (Qm) ?_
  refine e_call rfl (Un 15) (mac_fn ((List.range 32).map c) s (range_lt hc) hb (by simp) hs) rfl rfl ?_
  refine e_call rfl (Un 14) (text_fn _) rfl rfl ?_
  refine e_as (show _ = sv (kT c s) from rfl) ?_
  refine (Qa)<|Qn<|Qs<|Qp<|(Qm) ?_
  refine e_call rfl (Un 15) (mac_fn (kT c s) [1] hTb (by decide) (by omega) (by decide)) rfl rfl ?_
  refine e_as (show _ = Value.agg (arr .u8 32 (kA c s)) from rfl) ?_
  refine (QH 2) fun r3=>(Qt 2)<|Qn<|Qs<|Qp<|(Qm)<|(Qd 2) ?_
  refine e_call rfl (Un 14) (text_fn _) rfl rfl ?_
  refine e_catS (k := [2]) rfl rfl rfl (by simp) ?_
  refine e_call rfl (Un 15) (mac_fn (kT c s) ((List.range 32).map (kA c s) ++ [2]) hTb (app_lt hAb (by decide)) (by omega) (by simp)) rfl rfl ?_
  refine e_as (show _ = Value.agg (arr .u8 32 (kB c s)) from rfl) ?_
  refine (QH 3) fun r4=>(Qt 3)<|Qn<|Qs<|(Qg)<|(Qd 2)<|(Qd 3)<|(Qm)<|(Qd 3) ?_
  refine e_call rfl (Un 14) (text_fn _) rfl rfl ?_
  refine e_catS (k := [3]) rfl rfl rfl (by simp) ?_
  refine e_call rfl (Un 15) (mac_fn (kT c s) ((List.range 32).map (kB c s) ++ [3]) hTb (app_lt hBb (by decide)) (by omega) (by simp)) rfl rfl ?_
  refine e_as (show _ = Value.agg (arr .u8 32 (kC c s)) from rfl) ?_
  refine e_buildZ (arr .u8 96 (thr3 (kA c s) (kB c s) (kC c s))) (Ub 46 rfl) (Uu 46 rfl) (Uz 28 rfl) rfl (fill_three (kA c s) (kB c s) (kC c s)) rfl ?_
  refine (Qt 1)<|Qn<|Qr ?_
  exact ⟨_, rfl, .cell (i := 1) rfl rfl (Uu 46) rfl (Uz 46) (arr_size _ _ _)⟩
end Go.Proofs.YthljakcegoohlaaDoor
