import Derived.Test.YtnkelhmfpepehaaKx1
import Derived.Test.YtnkelhmfpepehaaRows
/-
  Facts on this program's types, in tables.
-/
namespace Go.Proofs.Ytnkelhmfpepehaa
open Go Go.RowKit
def lkT {α : Type} : List (Nat × α) → Nat → Option α
  | [], _ => none
  | (k, a) :: l, t => bif Nat.beq k t then some a else lkT l t
theorem lkT_map {α : Type} {f : Nat → Option α} : ∀ {L : List (Nat × α)} {t : Nat} {d : α}, L.map (fun p => f p.1) = L.map (fun p => some p.2) → lkT L t = some d → f t = some d
  | [], _, _, _, h => by cases h
  | (k, a) :: L, t, d, h, hk => by
    rw [List.map_cons, List.map_cons, List.cons.injEq] at h
    unfold lkT at hk
    cases hb : Nat.beq k t with
    | true => rw [hb] at hk; rw [← Nat.eq_of_beq_eq_true hb, h.1]; exact hk
    | false => rw [hb] at hk; exact lkT_map h.2 hk
theorem mixed : Try.prog.follows .mixedOrders = true := by kernel_rfl
def tbu : List (Nat × TypeDesc) := [(3, (.int .i64)), (4, (.bool)), (22, (.slice 24)), (24, (.struct #[.mk "Kind" 3 0 false "" "" 0, .mk "Id" 3 1 false "" "" 8, .mk "Other" 3 2 false "" "" 16, .mk "Args" 22 3 false "" "" 24])), (56, (.slice 3))]
theorem tbu_ok : tbu.map (fun p => (fun t => Try.prog.underlying t) p.1) = tbu.map (fun p => some p.2) := by kernel_rfl
set_option maxRecDepth 100000 in
theorem Tu {T : TypeId} {d : TypeDesc} (h : lkT tbu T = some d) : Try.prog.underlying T = some d := lkT_map (L := tbu) (f := fun t => Try.prog.underlying t) tbu_ok h
theorem Uu (T : TypeId) {d : TypeDesc} (h : lkT tbu T = some d := by rfl) : Try.prog.underlying T = some d := Tu h
def tbz : List (Nat × Nat) := [(3, 1), (22, 1), (24, 4)]
theorem tbz_ok : tbz.map (fun p => (fun t => (Try.prog.info? t).map (·.size)) p.1) = tbz.map (fun p => some p.2) := by kernel_rfl
set_option maxRecDepth 100000 in
theorem Tz {T : TypeId} {d : Nat} (h : lkT tbz T = some d) : (Try.prog.info? T).map (·.size) = some d := lkT_map (L := tbz) (f := fun t => (Try.prog.info? t).map (·.size)) tbz_ok h
theorem Uz (T : TypeId) {d : Nat} (h : lkT tbz T = some d := by rfl) : (Try.prog.info? T).map (·.size) = some d := Tz h
def tby : List (Nat × Nat) := []
theorem tby_ok : tby.map (fun p => (fun t => (Try.prog.info? t).map (·.bytes)) p.1) = tby.map (fun p => some p.2) := by kernel_rfl
set_option maxRecDepth 100000 in
theorem Ty {T : TypeId} {d : Nat} (h : lkT tby T = some d) : (Try.prog.info? T).map (·.bytes) = some d := lkT_map (L := tby) (f := fun t => (Try.prog.info? t).map (·.bytes)) tby_ok h
theorem Uy (T : TypeId) {d : Nat} (h : lkT tby T = some d := by rfl) : (Try.prog.info? T).map (·.bytes) = some d := Ty h
def tbb : List (Nat × Value) := [(3, (.int .i64 0)), (24, (.agg (cells 4 [pV (.int .i64 0), pV (.int .i64 0), pV (.int .i64 0), pV (.slice none 0 0)])))]
theorem tbb_ok : tbb.map (fun p => (fun t => (Try.prog.info? t).bind (·.zero)) p.1) = tbb.map (fun p => some p.2) := by kernel_rfl
set_option maxRecDepth 100000 in
theorem Tb {T : TypeId} {d : Value} (h : lkT tbb T = some d) : (Try.prog.info? T).bind (·.zero) = some d := lkT_map (L := tbb) (f := fun t => (Try.prog.info? t).bind (·.zero)) tbb_ok h
theorem Ub (T : TypeId) {d : Value} (h : lkT tbb T = some d := by rfl) : (Try.prog.info? T).bind (·.zero) = some d := Tb h
def tbn : List Nat := [9, 10, 11, 12, 21, 22, 23, 24, 25, 26, 34, 35, 36]
theorem tbn_ok : tbn.all (fun f => enters Try.prog f) = true := by kernel_rfl
theorem Un (f : FuncId) (h : tbn.contains f = true := by rfl) : enters Try.prog f = true := List.all_eq_true.1 tbn_ok f (List.contains_iff_mem.1 h)
end Go.Proofs.Ytnkelhmfpepehaa
/-
  Rules with short names.
-/
namespace Go.Proofs.Ytnkelhmfpepehaa
open Go Go.RowKit
variable {G : Mem} {R : Reg} {ops : Array Oper} {n : Nat} {K : Env → Mm → Prop} {Q : Exit → Env → Mm → Prop} {rest : List Oper} {E : Env} {M : Mm} {d : Nat} {ty : TypeId} {pos : String} {aft : Array Edge} {T : TypeId} {T' : TypeId} {x : Operand} {y : Operand}
theorem Qs {c : Code} {c' : Code} : (SatE Try.prog G c n (thenE (SatE Try.prog G c' n Q) Q) E M) → SatE Try.prog G (.seq c c') n Q E M := fun h => e_seq h
theorem Qp {id : Nat} : (OpsE Try.prog G noReg ops n (Q .normal) ops.toList E M) → SatE Try.prog G (.region id ops false) n Q E M := fun h => e_plain h
theorem Qn : (K E M) → OpsE Try.prog G R ops n K [] E M := fun h => e_nil h
theorem Qk : (Q .normal E M) → SatE Try.prog G .skip n Q E M := fun h => e_skip h
theorem Qb {id : Nat} {c : Code} : (SatE Try.prog G c n (inBlockE id Q) E M) → SatE Try.prog G (.block id c) n Q E M := fun h => e_block h
theorem Qe {id : Nat} : (Q (.exit id) E M) → SatE Try.prog G (.exit id) n Q E M := fun h => e_exit h
theorem Qr : (Q .ret E M) → SatE Try.prog G .ret n Q E M := fun h => e_ret h
theorem Qm {v : Value} (hx : rd E x = some v := by rfl) (hd : Nat.blt d n = true := by rfl) : (OpsE Try.prog G R ops n K rest ((d, v) :: E) M) → OpsE Try.prog G R ops n K (⟨some d, .move x, ty, pos, aft, none⟩ :: rest) E M := fun h => e_move hx hd h
theorem Qa {v : Value} (hx : rd E x = some v := by rfl) (hd : Nat.blt d n = true := by rfl) : (OpsE Try.prog G R ops n K rest ((d, v) :: E) M) → OpsE Try.prog G R ops n K (⟨some d, .assign x, ty, pos, aft, none⟩ :: rest) E M := fun h => e_assign hx hd h
theorem Qy {dd : Option Tmp} {op : Op} {g : Nat} {s : Nat} {want : Bool} {b : Bool} (hg : (ops[g]?).bind (·.dst) = some s := by rfl) (hb : lk E s = some (.bool b) := by rfl) (hw : b = want := by rfl) : (OpsE Try.prog G R ops n K (⟨dd, op, ty, pos, aft, none⟩ :: rest) E M) → OpsE Try.prog G R ops n K (⟨dd, op, ty, pos, aft, some (g, want)⟩ :: rest) E M := fun h => e_yes hg hb hw h
theorem Qo {op : Op} {g : Nat} {s : Nat} {want : Bool} {b : Bool} (hg : (ops[g]?).bind (·.dst) = some s := by rfl) (hb : lk E s = some (.bool b) := by rfl) (hw : b ≠ want := by decide) (hd : Nat.blt d n = true := by rfl) : (OpsE Try.prog G R ops n K rest ((d, undef) :: E) M) → OpsE Try.prog G R ops n K (⟨some d, op, ty, pos, aft, some (g, want)⟩ :: rest) E M := fun h => e_no hg hb hw hd h
theorem Qw {op : Op} {g : Nat} {s : Nat} {want : Bool} (hg : (ops[g]?).bind (·.dst) = some s := by rfl) (hb : lk E s = some undef := by rfl) (hd : Nat.blt d n = true := by rfl) : (OpsE Try.prog G R ops n K rest ((d, undef) :: E) M) → OpsE Try.prog G R ops n K (⟨some d, op, ty, pos, aft, some (g, want)⟩ :: rest) E M := fun h => e_no2 hg hb hd h
theorem QT {p : Operand} {q : Operand} {r : Operand} {t : Bool} {v : Value} (hc : rd E p = some (.bool t) := by rfl) (ht : t = true := by rfl) (hv : rd E q = some v := by rfl) (hd : Nat.blt d n = true := by rfl) : (OpsE Try.prog G R ops n K rest ((d, v) :: E) M) → OpsE Try.prog G R ops n K (⟨some d, .pick p q r, ty, pos, aft, none⟩ :: rest) E M := fun h => e_pickT hc ht hv hd h
theorem QF {p : Operand} {q : Operand} {r : Operand} {t : Bool} {v : Value} (hc : rd E p = some (.bool t) := by rfl) (ht : t = false := by rfl) (hv : rd E r = some v := by rfl) (hd : Nat.blt d n = true := by rfl) : (OpsE Try.prog G R ops n K rest ((d, v) :: E) M) → OpsE Try.prog G R ops n K (⟨some d, .pick p q r, ty, pos, aft, none⟩ :: rest) E M := fun h => e_pickF hc ht hv hd h
theorem Qg {id : Nat} (hm : Try.prog.follows .mixedOrders = true := by exact mixed) (hok : orderOk noReg ops (List.range ops.size) = true := by kernel_rfl) : (OpsE Try.prog G noReg ops n (Q .normal) ops.toList E M) → SatE Try.prog G (.region id ops true) n Q E M := fun h => e_draw hm hok h
theorem Ql {k : IntKind} {p : Int} {q : Int} (hx : rd E x = some (.int k p) := by rfl) (hy : rd E y = some (.int k q) := by rfl) (hd : Nat.blt d n = true := by rfl) : (OpsE Try.prog G R ops n K rest ((d, .bool (decide (p < q))) :: E) M) → OpsE Try.prog G R ops n K (⟨some d, .binOp .lss T x y T', ty, pos, aft, none⟩ :: rest) E M := fun h => e_lt hx hy hd h
theorem QG {k : IntKind} {p : Int} {q : Int} (hx : rd E x = some (.int k p) := by rfl) (hy : rd E y = some (.int k q) := by rfl) (hd : Nat.blt d n = true := by rfl) : (OpsE Try.prog G R ops n K rest ((d, .bool (decide (q < p))) :: E) M) → OpsE Try.prog G R ops n K (⟨some d, .binOp .gtr T x y T', ty, pos, aft, none⟩ :: rest) E M := fun h => e_gt hx hy hd h
theorem QE {k : IntKind} {p : Int} {q : Int} (hx : rd E x = some (.int k p) := by rfl) (hy : rd E y = some (.int k q) := by rfl) (hd : Nat.blt d n = true := by rfl) : (OpsE Try.prog G R ops n K rest ((d, .bool (decide (q ≤ p))) :: E) M) → OpsE Try.prog G R ops n K (⟨some d, .binOp .geq T x y T', ty, pos, aft, none⟩ :: rest) E M := fun h => e_ge hx hy hd h
theorem Qc {k : IntKind} {p : Int} {q : Int} (hx : rd E x = some (.int k p) := by rfl) (hy : rd E y = some (.int k q) := by rfl) (hd : Nat.blt d n = true := by rfl) : (OpsE Try.prog G R ops n K rest ((d, .bool (decide (p = q))) :: E) M) → OpsE Try.prog G R ops n K (⟨some d, .binOp .eql T x y T', ty, pos, aft, none⟩ :: rest) E M := fun h => e_eq hx hy hd h
theorem QN {k : IntKind} {p : Int} {q : Int} (hx : rd E x = some (.int k p) := by rfl) (hy : rd E y = some (.int k q) := by rfl) (hd : Nat.blt d n = true := by rfl) : (OpsE Try.prog G R ops n K rest ((d, .bool (decide (p ≠ q))) :: E) M) → OpsE Try.prog G R ops n K (⟨some d, .binOp .neq T x y T', ty, pos, aft, none⟩ :: rest) E M := fun h => e_ne hx hy hd h
theorem Q0 {b : Bool} (hx : rd E x = some (.bool b) := by rfl) (hd : Nat.blt d n = true := by rfl) : (OpsE Try.prog G R ops n K rest ((d, .bool (!b)) :: E) M) → OpsE Try.prog G R ops n K (⟨some d, .unOp .not T x, ty, pos, aft, none⟩ :: rest) E M := fun h => e_not hx hd h
theorem QD {b : Nat} {l : Nat} {c : Array Value} {t : TypeId} {td : TypeDesc} (i : Nat) (hT : Try.prog.underlying T = some td := by exact Tu rfl) (hn : rowLike td = true := by rfl) (hs : (Try.prog.info? T).map (·.size) = some l := by exact Tz rfl) (hx : rd E x = some (.pointer (some ⟨b, 0, none⟩)) := by rfl) (hm : lkM M i = some ⟨b, c, t⟩ := by rfl) (hl : c.size = l := by exact (arrv_size _ _)) (hd : Nat.blt d n = true := by rfl) (hX : ∃ js, okXL M i js R := by exact ⟨[], trivial⟩) : (OpsE Try.prog G R ops n K rest ((d, .agg c) :: E) M) → OpsE Try.prog G R ops n K (⟨some d, .load T x, ty, pos, aft, none⟩ :: rest) E M := fun h => e_loadA (i := i) hT hn hs hx hm hl hd hX h
theorem Q1 {b : Nat} {o : Nat} {c : Array Value} {t : TypeId} {v : Value} {td : TypeDesc} (i : Nat) (hT : Try.prog.underlying T = some td := by exact Tu rfl) (hn : rowLike td = false := by rfl) (hx : rd E x = some (.pointer (some ⟨b, o, none⟩)) := by rfl) (hm : lkM M i = some ⟨b, c, t⟩ := by rfl) (hc : c[o]? = some v := by exact (arr_get (by omega))) (hd : Nat.blt d n = true := by rfl) (hX : ∃ js, okXL M i js R := by exact ⟨[], trivial⟩) : (OpsE Try.prog G R ops n K rest ((d, v) :: E) M) → OpsE Try.prog G R ops n K (⟨some d, .load T x, ty, pos, aft, none⟩ :: rest) E M := fun h => e_load1 (i := i) hT hn hx hm hc hd hX h
theorem Qf {b : Nat} {o : Nat} {f : Nat} {sz : Nat} {fs : Array Field} {fd : Field} (o' : Nat) (hT : Try.prog.underlying T = some (.struct fs) := by exact Tu rfl) (hf : fs[f]? = some fd := by rfl) (hs : (Try.prog.info? fd.type).map (·.size) = some (sz + 1) := by exact Tz rfl) (hx : rd E x = some (.pointer (some ⟨b, o, none⟩)) := by rfl) (ho : o + fd.offset = o' := by rfl) (hd : Nat.blt d n = true := by rfl) : (OpsE Try.prog G R ops n K rest ((d, .pointer (some ⟨b, o', none⟩)) :: E) M) → OpsE Try.prog G R ops n K (⟨some d, .fieldAddr T x f, ty, pos, aft, none⟩ :: rest) E M := fun h => e_fld o' hT hf hs hx ho hd h
theorem Qh {v : Value} (i : Nat) (hx : rd E x = some v := by rfl) (hd : Nat.blt d n = true := by rfl) : (∀ r, OpsE Try.prog G R ops n K rest ((d, ptr r) :: E) ((i, some ⟨r, v.cells, T⟩) :: M)) → OpsE Try.prog G R ops n K (⟨some d, .box T x, ty, pos, aft, none⟩ :: rest) E M := fun h => e_box i hx hd h
theorem QH {z : Value} (i : Nat) (hz : (Try.prog.info? T).bind (·.zero) = some z := by exact Tb rfl) (hd : Nat.blt d n = true := by rfl) : (∀ r, OpsE Try.prog G R ops n K rest ((d, ptr r) :: E) ((i, some ⟨r, z.cells, T⟩) :: M)) → OpsE Try.prog G R ops n K (⟨some d, .alloc T, ty, pos, aft, none⟩ :: rest) E M := fun h => e_alloc i hz hd h
theorem QV {b : Nat} {o : Nat} {N : Nat} {v : Value} {ps : List Part} {t : TypeId} {td : TypeDesc} (k : Nat) (i : Nat) (hT : Try.prog.underlying T = some td := by exact Tu rfl) (hn : rowLike td = false := by rfl) (hx : rd E x = some (.pointer (some ⟨b, o, none⟩)) := by rfl) (hm : lkM M i = some ⟨b, cells N ps, t⟩ := by rfl) (hk : catAt ps k = some (o, pV v) := by rfl) (hN : o < N := by decide) (hd : Nat.blt d n = true := by rfl) (hX : ∃ js, okXL M i js R := by exact ⟨[], trivial⟩) : (OpsE Try.prog G R ops n K rest ((d, v) :: E) M) → OpsE Try.prog G R ops n K (⟨some d, .load T x, ty, pos, aft, none⟩ :: rest) E M := fun h => e_ldV1 (i := i) k hT hn hx hm hk hN hd hX h
theorem Q2 {p : Nat} (q : Nat) (hx : rd E x = some (ii p) := by rfl) (hy : rd E y = some (ii q) := by rfl) (hd : Nat.blt d n = true := by rfl) (hb : p + q < 9223372036854775808 := by omega) : (OpsE Try.prog G R ops n K rest ((d, ii (p + q)) :: E) M) → OpsE Try.prog G R ops n K (⟨some d, .binOp .add T x y T', ty, pos, aft, none⟩ :: rest) E M := fun h => e_add_i (q := q) hx hy hd hb h
theorem Q3 {p : Nat} {q : Nat} (hx : rd E x = some (ii p) := by rfl) (hy : rd E y = some (ii q) := by rfl) (hd : Nat.blt d n = true := by rfl) (hb : p + q < 9223372036854775808 := by omega) : (OpsE Try.prog G R ops n K rest ((d, ii (p + q)) :: E) M) → OpsE Try.prog G R ops n K (⟨some d, .binOp .add T x y T', ty, pos, aft, none⟩ :: rest) E M := fun h => e_add_i hx hy hd hb h
theorem QC {e : TypeId} {v : Value} {B : Mem} {z : Nat} {k : Nat} {xs : List Value} (hv : Shows B z v k xs) (hT : Try.prog.underlying T = some (.slice e) := by exact Tu rfl) (hx : rd E x = some v := by rfl) (hd : Nat.blt d n = true := by rfl) (hR : callOk R = true := by rfl) : (OpsE Try.prog G R ops n K rest ((d, ii k) :: E) M) → OpsE Try.prog G R ops n K (⟨some d, .call ⟨.builtin .len, #[x], #[T]⟩, ty, pos, aft, none⟩ :: rest) E M := fun h => e_lenV hv hT hx hd hR h
theorem Qar {l : List Oper} {s : Nat} {v : Value} {v' : Value} (hv : v = v' := by exact (congrArg Value.bool (decide_eq_true rfl))) : (OpsE Try.prog G R ops n K l ((s, v') :: E) M) → OpsE Try.prog G R ops n K l ((s, v) :: E) M := fun h => e_as hv h
theorem QzK {c : Code} (Ek : Env) (Mk : Mm) (I : Nat → Env → Mm → Prop) {E0 : Env} {M0 : Mm} {k : Nat} (h0 : I k E0 M0) (hs : sub (catE E0 Ek) E) (hl : subL (catL M0 Mk) M) (round : ∀ k E M, I k E M → SatE Try.prog G c n (thenE (fun E' M' => ∃ k' E'' M'', k' < k ∧ sub (catE E'' Ek) E' ∧ subL (catL M'' Mk) M' ∧ I k' E'' M'') Q) (catE E Ek) (catL M Mk)) : SatE Try.prog G (.loop c) n Q E M := e_loopK Ek Mk I E0 M0 k hs hl h0 round
theorem QzL {I : Nat → Env → Mm → Prop} {k k' : Nat} {Ek : Env} {Mk : Mm} {E' : Env} {M' : Mm} {E'' : Env} {M'' : Mm} (h : I k' E'' M'') (hs : sub (catE E'' Ek) E') (hl : subL (catL M'' Mk) M') (hk : k' < k) : ∃ k' E'' M'', k' < k ∧ sub (catE E'' Ek) E' ∧ subL (catL M'' Mk) M' ∧ I k' E'' M'' := ⟨_, _, _, hk, hs, hl, h⟩
theorem Qf1 {f : FuncId} {fn : Func} {c : Code} {vs : List Value} {v : Value} (hf : Try.prog.funcs[f]? = some fn) (h : SatE Try.prog G c n (End1 Try.prog fn v) (argE vs 0) []) (hb : fn.body = some c := by rfl) (hn : fn.ntmps = n := by rfl) (ha : vs.toArray.size ≤ n := by simp) : Fn Try.prog G f vs.toArray v := fn1 hf hb hn ha (argE vs 0) (argE_ok vs) h
abbrev Sh (G : Mem) (v : Value) (l : List Nat) : Prop := Shows G 1 v l.length (l.map by8)
abbrev By (l : List Nat) : Prop := ∀ b ∈ l, b < 256
abbrev L8 (n : Nat) (f : Nat → Nat) : Prop := ∀ j, j < n → f j < 256
end Go.Proofs.Ytnkelhmfpepehaa
namespace Go.Proofs.Ytnkelhmfpepehaa
open Go Go.RowKit
end Go.Proofs.Ytnkelhmfpepehaa
namespace Go.Proofs.Ytnkelhmfpepehaa
open Go Go.RowKit
end Go.Proofs.Ytnkelhmfpepehaa
namespace Go.Proofs.Ytnkelhmfpepehaa
open Go Go.RowKit
variable {G : Mem}
set_option maxHeartbeats 400000 in
theorem room_rec (l : List TT) (c : Value) (xs : List Value) (r d : Nat) (hT : TL G l c xs) (hr : r ≤ 300) (hd : d ≤ 40) (hrec : ∀ (u : List TT) (c : Value) (xs : List Value) (r d : Nat), deepL u < deepL l → TL G u c xs → r ≤ 300 → d ≤ 40 → Fn Try.prog G 34 #[c, ii r, ii d] (iv (roomL u r d))) : Fn Try.prog G 34 #[c, ii r, ii d] (iv (roomL l r d)) := by
  have hml := hT.1
  simp only [maxLen] at hml
  refine Qf1 Try.func34 ?_
  refine Qs<|Qp<|(Qa)<|Qn<|Qs<|Qs<|Qp<|(Qm)<|(QC hT.2.1)<|(Qm)<|Qn<|Qb ?_
  refine QzK [(2, _), (9, _), (10, _)] [] (fun kk E m => ∃ (i : Nat), kk = l.length - i ∧ E = [(1, ii (r - nodesL (l.take i))), (11, ii i)] ∧ m = [] ∧ (i ≤ l.length) ∧ (nodesL (l.take i) ≤ r) ∧ (∀ j (h : j < l.length), j < i → l[j].deep ≤ d)) ⟨0, rfl, rfl, rfl, by omega, by simp [nodesL], fun _ _ h => absurd h (Nat.not_lt_zero _)⟩ ⟨rfl, rfl, rfl, rfl, rfl, trivial⟩ trivial ?_
  rintro kk E m ⟨i, rfl, rfl, rfl, hf0_0, hf0_1, hf0_2⟩
  simp only [catE, catL]
  refine Qs<|Qp<|(Ql)<|Qn<|Qs ?_
  refine e_cond rfl ?_ ?_
  · intro hc0
    have hc0 : i < l.length := by have := of_decide_eq_true hc0; omega
    obtain ⟨c1, ys1, hcs1, hl1⟩ := hT.at (show i < l.length by omega)
    have hin1 := List.getElem_mem (show i < l.length by omega)
    have hdp : deepL l[i].args < deepL l := by have h1 := deepL_le.1 (Nat.le_refl (deepL l)) _ hin1; have h2 := l[i].deep_eq; omega
    refine Qk<|Qs<|Qb<|Qs<|Qp ?_
    refine e_atV hT.2.1 (Uu 22) (Uz 24) rfl rfl (by omega) rfl ?_
    refine e_loadVS hT.2.1 seenG (Uu 24) rfl (Uz 24) rfl (by decide) (by have := hT.2.1.len; omega) hcs1 rfl ?_
    refine e_as (show _ = Value.agg (tC l[i] c1) from rfl) ?_
    refine (QH 0) fun r1=>?_
    refine e_storeA (i := 0) (Uz 24) rfl rfl (arrv_size _ _) (cells_one ⟨fun _ => rfl, fun _ => rfl, fun _ => rfl, fun _ => shows_oneC hl1.2.1, trivial⟩) rfl cells_sz (.inl rfl) ?_
    refine Qn<|Qs<|Qs<|Qp ?_
    refine e_join [(1, _), (2, _), (8, _), (9, _), (10, _), (11, _), (12, _), (13, _), (14, _)] [(20, .bool (decide (((r - nodesL (l.take i) : Nat) : Int) = 0) || decide ((d : Int) = 0)))] [(0, some _)] ⟨rfl, rfl, rfl, rfl, rfl, rfl, rfl, rfl, rfl, trivial⟩ ⟨rfl, trivial⟩ ?_ ?_
    · skip
      refine (Qm)<|(Qc)<|(Qm) ?_
      refine e_case (fun hb0 => ?_) (fun hb0 => ?_)
      · skip
        refine (Qo)<|(Qo)<|(QT)<|Qn ?_
        exact ⟨⟨rfl, rfl, rfl, rfl, rfl, rfl, rfl, rfl, rfl, trivial⟩, ⟨bool_fin (by rw [hb0] <;> rfl), trivial⟩, ⟨rfl, trivial⟩⟩
      · skip
        refine (Qy)<|(Qm)<|(Qy)<|(Qc)<|(QF)<|Qn ?_
        exact ⟨⟨rfl, rfl, rfl, rfl, rfl, rfl, rfl, rfl, rfl, trivial⟩, ⟨bool_fin (by rw [hb0] <;> rfl), trivial⟩, ⟨rfl, trivial⟩⟩
    · simp only [catE]
      refine e_cond rfl ?_ ?_
      · intro hc1
        rw [room_full (by assumption) (by have := or_true2 hc1; omega)]
        refine Qs<|Qp<|(Qa)<|Qn<|Qr ?_
        first | rw [room_end (by rw [← hz0]; exact hf0_1) (fun j h => hf0_2 j h (by omega)), ← hz0] | skip
        exact ⟨_, rfl, .tmp rfl⟩
      · intro hc1
        have hz := or_false2 hc1
        refine Qk<|Qs<|Qp<|(Qf 3)<|(QV 3 0)<|(Qm) ?_
        refine e_sub_in (q := 1) rfl rfl rfl (by omega) (by omega) ?_
        refine (Qm) ?_
        refine e_sub_in (q := 1) rfl rfl rfl (by omega) (by omega) ?_
        refine e_call rfl (Un 34) (hrec l[i].args c1 ys1 (r - nodesL (l.take i) - 1) (d - 1) hdp hl1 (by omega) (by omega)) rfl rfl ?_
        refine (Qa)<|Qn<|Qs<|Qp<|(Qm)<|(Ql)<|Qn ?_
        refine e_cond rfl ?_ ?_
        · intro hc2
          rw [room_bad (l := l) (r := r) (d := d) (i := i) (by assumption) (by omega) (by omega) (by have := of_decide_eq_true hc2; exact this)]
          refine Qs<|Qp<|(Qa)<|Qn<|Qr ?_
          first | rw [room_end (by rw [← hz0]; exact hf0_1) (fun j h => hf0_2 j h (by omega)), ← hz0] | skip
          exact ⟨_, rfl, .tmp rfl⟩
        · intro hc2
          have hnx := room_next (l := l) (r := r) (d := d) (i := i) (by assumption) (by omega) (by omega) (by have := of_decide_eq_false hc2; exact this)
          refine Qk<|Qp<|(Q2 1)<|(Qm)<|Qn ?_
          refine QzL ⟨i + 1, rfl, rfl, rfl, by omega, hnx.2.1, fun j h hj => by by_cases e : j = i; (subst e; exact hnx.2.2); exact hf0_2 j h (by omega)⟩ ⟨by rw [hnx.1]; rfl, rfl, rfl, rfl, rfl, trivial⟩ trivial ?_
          omega
  · intro hc0
    have hc0 := of_decide_eq_false hc0
    have hz0 : i = l.length := by omega
    refine Qe<|Qs<|Qp<|(Qm)<|(Qa)<|Qn<|Qr ?_
    first | rw [room_end (by rw [← hz0]; exact hf0_1) (fun j h => hf0_2 j h (by omega)), ← hz0] | skip
    exact ⟨_, rfl, .tmp rfl⟩
set_option maxHeartbeats 400000 in
theorem width_fn (k : Int) : Fn Try.prog G 35 #[iv k] (ii (wdt k)) := by
  refine Qf1 Try.func35 ?_
  refine Qs<|Qp<|(Qa)<|Qn<|Qs<|Qs<|Qp<|(Qm)<|Qn<|Qb<|Qs<|Qp<|(Qc)<|(Qa)<|Qn ?_
  refine e_cond rfl ?_ ?_
  · intro hc0
    have hc0 := of_decide_eq_true hc0
    refine Qs<|Qp<|(Qa)<|Qn<|Qr ?_
    rcases wdt_ways k with ⟨h9, e9⟩ | ⟨h8, h9, e9⟩ | ⟨h9, e9⟩ | ⟨h9, e9⟩ <;> first | (exfalso; omega) | rw [e9]
    exact ⟨_, rfl, .tmp rfl⟩
  · intro hc0
    have hc0 := of_decide_eq_false hc0
    refine Qs<|Qs<|Qp<|(Qc)<|(Qa)<|Qn ?_
    refine s_join [(0, _), (2, _), (3, _), (4, _), (5, _), (7, _)] [(6, .bool (decide (k = 4) || decide (k = 6)))] [] ⟨rfl, rfl, rfl, rfl, rfl, rfl, trivial⟩ trivial ?_ ?_
    · skip
      refine e_cond rfl ?_ ?_
      · intro hc1
        have hc1 := of_decide_eq_true hc1
        refine Qk ?_
        exact ⟨⟨rfl, rfl, rfl, rfl, rfl, rfl, trivial⟩, ⟨(by simp_all; rfl), trivial⟩, trivial⟩
      · intro hc1
        have hc1 := of_decide_eq_false hc1
        refine Qp<|(Qc)<|(Qa)<|Qn ?_
        exact ⟨⟨rfl, rfl, rfl, rfl, rfl, rfl, trivial⟩, ⟨(by simp_all; rfl), trivial⟩, trivial⟩
    · simp only [catE]
      refine e_cond rfl ?_ ?_
      · intro hc2
        have h50 := or_true2 hc2
        refine Qs<|Qp<|(Qa)<|Qn<|Qr ?_
        rcases wdt_ways k with ⟨h9, e9⟩ | ⟨h8, h9, e9⟩ | ⟨h9, e9⟩ | ⟨h9, e9⟩ <;> first | (exfalso; omega) | rw [e9]
        exact ⟨_, rfl, .tmp rfl⟩
      · intro hc2
        have h50 := or_false2 hc2
        refine Qs<|Qp<|(Qc)<|(Qa)<|Qn ?_
        refine e_cond rfl ?_ ?_
        · intro hc3
          have hc3 := of_decide_eq_true hc3
          refine Qs<|Qp<|(Qa)<|Qn<|Qr ?_
          rcases wdt_ways k with ⟨h9, e9⟩ | ⟨h8, h9, e9⟩ | ⟨h9, e9⟩ | ⟨h9, e9⟩ <;> first | (exfalso; omega) | rw [e9]
          exact ⟨_, rfl, .tmp rfl⟩
        · intro hc3
          have hc3 := of_decide_eq_false hc3
          refine Qk<|Qs<|Qp<|(Qa)<|Qn<|Qr ?_
          rcases wdt_ways k with ⟨h9, e9⟩ | ⟨h8, h9, e9⟩ | ⟨h9, e9⟩ | ⟨h9, e9⟩ <;> first | (exfalso; omega) | rw [e9]
          exact ⟨_, rfl, .tmp rfl⟩
set_option maxHeartbeats 400000 in
theorem numbered_fn (t : TT) (c : Value) : Fn Try.prog G 36 #[.agg (tC t c)] (.bool (numB t.kind t.id t.other)) := by
  refine Qf1 Try.func36 ?_
  refine Qs<|Qp<|(Qh 0) fun r1=>(Qa)<|Qn<|Qs<|Qs<|Qp<|(Qf 0)<|(QV 0 0)<|Qn<|Qb<|Qs<|Qp<|(Qc)<|(Qa)<|Qn ?_
  refine e_cond rfl ?_ ?_
  · intro hc0
    have hc0 := of_decide_eq_true hc0
    refine Qs<|Qp ?_
    refine e_join [(0, _), (1, _), (3, _), (4, _), (5, _), (6, _)] [(2, .bool (decide (0 ≤ t.id) && decide (t.id ≤ t.other)))] [(0, some _)] ⟨rfl, rfl, rfl, rfl, rfl, rfl, trivial⟩ ⟨rfl, trivial⟩ ?_ ?_
    · skip
      refine (Qf 1)<|(QV 1 0)<|(QE)<|(Qm) ?_
      refine e_case (fun hb0 => ?_) (fun hb0 => ?_)
      · skip
        refine (Qy)<|(Qf 2)<|(Qy)<|(QV 2 0)<|(Qy)<|(Qf 1)<|(Qy)<|(QV 1 0)<|(Qy)<|(QE)<|(QT)<|(Qa)<|Qn ?_
        exact ⟨⟨rfl, rfl, rfl, rfl, rfl, rfl, trivial⟩, ⟨bool_fin (by rw [hb0] <;> rfl), trivial⟩, ⟨rfl, trivial⟩⟩
      · skip
        refine (Qo)<|(Qo)<|(Qo)<|(Qo)<|(Qo)<|(QF)<|(Qa)<|Qn ?_
        exact ⟨⟨rfl, rfl, rfl, rfl, rfl, rfl, trivial⟩, ⟨bool_fin (by rw [hb0] <;> rfl), trivial⟩, ⟨rfl, trivial⟩⟩
    · simp only [catE]
      refine Qr ?_
      rcases num_ways t.kind t.id t.other with ⟨h9, e9⟩ | ⟨h9, e9⟩ | ⟨h9, e9⟩ <;> first | (exfalso; omega) | rw [e9]
      exact ⟨_, rfl, .tmp rfl⟩
  · intro hc0
    have hc0 := of_decide_eq_false hc0
    refine Qs<|Qs<|Qp<|(Qc)<|(Qa)<|Qn ?_
    refine s_join [(0, _), (1, _), (2, _), (3, _), (4, _), (5, _), (6, _), (18, _)] [(17, .bool (decide (t.kind = 1) || (decide (t.kind = 2) || decide (t.kind = 6))))] [(0, some _)] ⟨rfl, rfl, rfl, rfl, rfl, rfl, rfl, rfl, trivial⟩ ⟨rfl, trivial⟩ ?_ ?_
    · skip
      refine e_cond rfl ?_ ?_
      · intro hc1
        have hc1 := of_decide_eq_true hc1
        refine Qk ?_
        exact ⟨⟨rfl, rfl, rfl, rfl, rfl, rfl, rfl, rfl, trivial⟩, ⟨(by simp_all; rfl), trivial⟩, ⟨rfl, trivial⟩⟩
      · intro hc1
        have hc1 := of_decide_eq_false hc1
        refine Qs<|Qp<|(Qc)<|(Qa)<|Qn ?_
        refine e_cond rfl ?_ ?_
        · intro hc2
          have hc2 := of_decide_eq_true hc2
          refine Qk ?_
          exact ⟨⟨rfl, rfl, rfl, rfl, rfl, rfl, rfl, rfl, trivial⟩, ⟨(by simp_all; rfl), trivial⟩, ⟨rfl, trivial⟩⟩
        · intro hc2
          have hc2 := of_decide_eq_false hc2
          refine Qp<|(Qc)<|(Qa)<|Qn ?_
          exact ⟨⟨rfl, rfl, rfl, rfl, rfl, rfl, rfl, rfl, trivial⟩, ⟨(by simp_all; rfl), trivial⟩, ⟨rfl, trivial⟩⟩
    · simp only [catE]
      refine e_cond rfl ?_ ?_
      · intro hc3
        have h50 : t.kind = 1 ∨ t.kind = 2 ∨ t.kind = 6 := by simpa using hc3
        refine Qs<|Qp ?_
        refine e_join [(0, _), (1, _), (3, _), (4, _), (5, _), (6, _), (17, _), (18, _)] [(2, .bool (decide (0 ≤ t.id) && decide (t.other = 0)))] [(0, some _)] ⟨rfl, rfl, rfl, rfl, rfl, rfl, rfl, rfl, trivial⟩ ⟨rfl, trivial⟩ ?_ ?_
        · skip
          refine (Qf 1)<|(QV 1 0)<|(QE)<|(Qm) ?_
          refine e_case (fun hb1 => ?_) (fun hb1 => ?_)
          · skip
            refine (Qy)<|(Qf 2)<|(Qy)<|(QV 2 0)<|(Qy)<|(Qc)<|(QT)<|(Qa)<|Qn ?_
            exact ⟨⟨rfl, rfl, rfl, rfl, rfl, rfl, rfl, rfl, trivial⟩, ⟨bool_fin (by rw [hb1] <;> rfl), trivial⟩, ⟨rfl, trivial⟩⟩
          · skip
            refine (Qo)<|(Qo)<|(Qo)<|(QF)<|(Qa)<|Qn ?_
            exact ⟨⟨rfl, rfl, rfl, rfl, rfl, rfl, rfl, rfl, trivial⟩, ⟨bool_fin (by rw [hb1] <;> rfl), trivial⟩, ⟨rfl, trivial⟩⟩
        · simp only [catE]
          refine Qr ?_
          rcases num_ways t.kind t.id t.other with ⟨h9, e9⟩ | ⟨h9, e9⟩ | ⟨h9, e9⟩ <;> first | (exfalso; omega) | rw [e9]
          exact ⟨_, rfl, .tmp rfl⟩
      · intro hc3
        have h50 : ¬ (t.kind = 1 ∨ t.kind = 2 ∨ t.kind = 6) := by simpa using hc3
        refine Qk<|Qs<|Qp ?_
        refine e_join [(0, _), (1, _), (3, _), (4, _), (5, _), (6, _), (17, _), (18, _)] [(2, .bool (decide (t.id = 0) && decide (t.other = 0)))] [(0, some _)] ⟨rfl, rfl, rfl, rfl, rfl, rfl, rfl, rfl, trivial⟩ ⟨rfl, trivial⟩ ?_ ?_
        · skip
          refine (Qf 1)<|(QV 1 0)<|(Qc)<|(Qm) ?_
          refine e_case (fun hb2 => ?_) (fun hb2 => ?_)
          · skip
            refine (Qy)<|(Qf 2)<|(Qy)<|(QV 2 0)<|(Qy)<|(Qc)<|(QT)<|(Qa)<|Qn ?_
            exact ⟨⟨rfl, rfl, rfl, rfl, rfl, rfl, rfl, rfl, trivial⟩, ⟨bool_fin (by rw [hb2] <;> rfl), trivial⟩, ⟨rfl, trivial⟩⟩
          · skip
            refine (Qo)<|(Qo)<|(Qo)<|(QF)<|(Qa)<|Qn ?_
            exact ⟨⟨rfl, rfl, rfl, rfl, rfl, rfl, rfl, rfl, trivial⟩, ⟨bool_fin (by rw [hb2] <;> rfl), trivial⟩, ⟨rfl, trivial⟩⟩
        · simp only [catE]
          refine Qr ?_
          rcases num_ways t.kind t.id t.other with ⟨h9, e9⟩ | ⟨h9, e9⟩ | ⟨h9, e9⟩ <;> first | (exfalso; omega) | rw [e9]
          exact ⟨_, rfl, .tmp rfl⟩
end Go.Proofs.Ytnkelhmfpepehaa
namespace Go.Proofs.Ytnkelhmfpepehaa
open Go Go.RowKit
theorem room_fn {G : Mem} : ∀ (n : Nat) (l : List TT) (c : Value) (xs : List Value) (r d : Nat), deepL l ≤ n → TL G l c xs → r ≤ 300 → d ≤ 40 → Fn Try.prog G 34 #[c, ii r, ii d] (iv (roomL l r d)) := by
  intro n
  induction n with
  | zero => exact fun l c xs r d hn hT hr hd => room_rec l c xs r d hT hr hd fun u _ _ _ _ h => by omega
  | succ n ih => exact fun l c xs r d hn hT hr hd => room_rec l c xs r d hT hr hd fun u c xs r d h hT hr hd => ih u c xs r d (by omega) hT hr hd
variable {G : Mem}
set_option maxHeartbeats 400000 in
theorem fits_fn (l : List TT) (c : Value) (xs : List Value) (hT : TL G l c xs) : Fn Try.prog G 21 #[c] (.bool (fitsL l)) := by
  refine Qf1 Try.func21 ?_
  refine Qs<|Qp<|(Qa)<|Qn<|Qs<|Qp<|(Qm) ?_
  refine e_call rfl (Un 34) (room_fn _ l c xs 300 40 (Nat.le_refl _) hT (by decide) (by decide)) rfl rfl ?_
  refine (QE) ?_
  refine e_as (congrArg Value.bool (room_fits l)) ?_
  refine (Qa)<|Qn<|Qr ?_
  exact ⟨_, rfl, .tmp rfl⟩
set_option maxHeartbeats 400000 in
theorem forms_rec (l : List TT) (c : Value) (xs : List Value) (hT : TL G l c xs) (hrec : ∀ (t : TT) (c : Value) (ys : List Value), t ∈ l → TL G t.args c ys → Fn Try.prog G 22 #[.agg (tC t c)] (ii t.form)) : Fn Try.prog G 26 #[c] (ii (formL l)) := by
  have hml := hT.1
  simp only [maxLen] at hml
  refine Qf1 Try.func26 ?_
  refine Qs<|Qp<|(Qa)<|Qn<|Qs<|Qs<|Qp<|(Qm)<|(QC hT.2.1)<|(Qm)<|Qn<|Qb ?_
  refine QzK [(6, _), (7, _)] [] (fun kk E m => ∃ (i : Nat), kk = l.length - i ∧ E = [(8, ii i)] ∧ m = [] ∧ (i ≤ l.length) ∧ (∀ j (h : j < l.length), j < i → l[j].form = 0)) ⟨0, rfl, rfl, rfl, by omega, fun _ _ h => absurd h (Nat.not_lt_zero _)⟩ ⟨rfl, rfl, rfl, trivial⟩ trivial ?_
  rintro kk E m ⟨i, rfl, rfl, rfl, hf0_0, hf0_1⟩
  simp only [catE, catL]
  refine Qs<|Qp<|(Ql)<|Qn<|Qs ?_
  refine e_cond rfl ?_ ?_
  · intro hc0
    have hc0 : i < l.length := by have := of_decide_eq_true hc0; omega
    obtain ⟨c1, ys1, hcs1, hl1⟩ := hT.at (show i < l.length by omega)
    have hin1 := List.getElem_mem (show i < l.length by omega)
    refine Qk<|Qs<|Qb<|Qs<|Qp ?_
    refine e_atV hT.2.1 (Uu 22) (Uz 24) rfl rfl (by omega) rfl ?_
    refine e_loadVS hT.2.1 seenG (Uu 24) rfl (Uz 24) rfl (by decide) (by have := hT.2.1.len; omega) hcs1 rfl ?_
    refine e_as (show _ = Value.agg (tC l[i] c1) from rfl) ?_
    refine (QH 0) fun r1=>?_
    refine e_storeA (i := 0) (Uz 24) rfl rfl (arrv_size _ _) (cells_one ⟨fun _ => rfl, fun _ => rfl, fun _ => rfl, fun _ => shows_oneC hl1.2.1, trivial⟩) rfl cells_sz (.inl rfl) ?_
    refine Qn<|Qs<|Qp<|(QD 0) ?_
    refine e_call rfl (Un 22) (hrec l[i] c1 ys1 hin1 hl1) rfl rfl ?_
    refine (Qa)<|Qn<|Qs<|Qp<|(Qm)<|(QN)<|Qn ?_
    refine e_cond rfl ?_ ?_
    · intro hc1
      have hne := of_decide_eq_true hc1
      rw [formL_at (i := i) (by assumption) (fun j hj => hf0_1 j (by omega) hj) (by omega)]
      refine Qs<|Qp<|(Qm)<|(Qa)<|Qn<|Qr ?_
      first | rw [formL_none (fun j h => hf0_1 j h (by omega))] | skip
      exact ⟨_, rfl, .tmp rfl⟩
    · intro hc1
      have hz9 : l[i].form = 0 := by have := of_decide_eq_false hc1; omega
      refine Qk<|Qp<|(Q2 1)<|(Qm)<|Qn ?_
      refine QzL ⟨i + 1, rfl, rfl, rfl, by omega, fun j h hj => by by_cases e : j = i; (subst e; exact hz9); exact hf0_1 j h (by omega)⟩ ⟨rfl, rfl, rfl, trivial⟩ trivial ?_
      omega
  · intro hc0
    have hc0 := of_decide_eq_false hc0
    have hz0 : i = l.length := by omega
    refine Qe<|Qs<|Qp<|(Qa)<|Qn<|Qr ?_
    first | rw [formL_none (fun j h => hf0_1 j h (by omega))] | skip
    exact ⟨_, rfl, .tmp rfl⟩
set_option maxHeartbeats 400000 in
theorem form_rec (t : TT) (c : Value) (xs : List Value) (hT : TL G t.args c xs) (hrec : Fn Try.prog G 26 #[c] (ii (formL t.args))) : Fn Try.prog G 22 #[.agg (tC t c)] (ii t.form) := by
  have hml := hT.1
  simp only [maxLen] at hml
  have hco := shows_oneC hT.2.1
  refine Qf1 Try.func22 ?_
  refine Qs<|Qp<|(Qh 0) fun r1=>(Qa)<|Qn<|Qs<|Qs<|Qp ?_
  refine e_join [(0, _), (1, _), (2, _)] [(10, .bool (decide (t.kind < 1) || decide (7 < t.kind)))] [(0, some _)] ⟨rfl, rfl, rfl, trivial⟩ ⟨rfl, trivial⟩ ?_ ?_
  · skip
    refine (Qf 0)<|(QV 0 0)<|(Ql)<|(Qm) ?_
    refine e_case (fun hb0 => ?_) (fun hb0 => ?_)
    · skip
      refine (Qo)<|(Qo)<|(Qo)<|(QT)<|Qn ?_
      exact ⟨⟨rfl, rfl, rfl, trivial⟩, ⟨bool_fin (by rw [hb0] <;> rfl), trivial⟩, ⟨rfl, trivial⟩⟩
    · skip
      refine (Qy)<|(Qf 0)<|(Qy)<|(QV 0 0)<|(Qy)<|(QG)<|(QF)<|Qn ?_
      exact ⟨⟨rfl, rfl, rfl, trivial⟩, ⟨bool_fin (by rw [hb0] <;> rfl), trivial⟩, ⟨rfl, trivial⟩⟩
  · simp only [catE]
    refine e_cond rfl ?_ ?_
    · intro hc0
      rw [form_eq, if_pos (or_true2 hc0)]
      refine Qs<|Qp<|(Qa)<|Qn<|Qr ?_
      exact ⟨_, rfl, .tmp rfl⟩
    · intro hc0
      have h36 := or_false2 hc0
      refine Qk<|Qs<|Qs<|(Qg) ?_
      refine e_join [(0, _), (1, _), (2, _), (10, _)] [(22, .bool (decide ((t.args.length : Int) ≠ (wdt t.kind : Int)) || !numB t.kind t.id t.other))] [(0, some _)] ⟨rfl, rfl, rfl, rfl, trivial⟩ ⟨rfl, trivial⟩ ?_ ?_
      · skip
        refine (Qf 3)<|(QV 3 0)<|(QC hT.2.1)<|(Qf 0)<|(QV 0 0) ?_
        refine e_call rfl (Un 35) (width_fn t.kind) rfl rfl ?_
        refine (QN)<|(Qm) ?_
        refine e_case (fun hb1 => ?_) (fun hb1 => ?_)
        · skip
          refine (Qo)<|(Qo)<|(Qo)<|(QT)<|Qn ?_
          exact ⟨⟨rfl, rfl, rfl, rfl, trivial⟩, ⟨bool_fin (by rw [hb1] <;> rfl), trivial⟩, ⟨rfl, trivial⟩⟩
        · skip
          refine (Qy)<|(QD 0)<|(Qy) ?_
          refine e_call rfl (Un 36) (numbered_fn t c) rfl rfl ?_
          refine (Qy)<|(Q0)<|(QF)<|Qn ?_
          exact ⟨⟨rfl, rfl, rfl, rfl, trivial⟩, ⟨bool_fin (by rw [hb1] <;> rfl), trivial⟩, ⟨rfl, trivial⟩⟩
      · simp only [catE]
        refine e_cond rfl ?_ ?_
        · intro hc1
          rw [form_eq, if_neg h36, if_pos (by cases hn : numB t.kind t.id t.other; exact .inr rfl; (rw [hn] at hc1; left; intro e; simp [e] at hc1))]
          refine Qs<|Qp<|(Qa)<|Qn<|Qr ?_
          exact ⟨_, rfl, .tmp rfl⟩
        · intro hc1
          rw [form_eq, if_neg h36, if_neg (by cases hn : numB t.kind t.id t.other; (rw [hn] at hc1; simp at hc1); (rw [hn] at hc1; intro h7; have h8 : ((t.args.length : Nat) : Int) = ((wdt t.kind : Nat) : Int) := (by simpa using hc1); rcases h7 with h7 | h7; exact h7 (by omega); cases h7))]
          refine Qk<|Qs<|Qp<|(Qf 3)<|(QV 3 0) ?_
          refine e_call rfl (Un 26) hrec rfl rfl ?_
          refine (Qa)<|Qn<|Qr ?_
          exact ⟨_, rfl, .tmp rfl⟩
end Go.Proofs.Ytnkelhmfpepehaa
namespace Go.Proofs.Ytnkelhmfpepehaa
open Go Go.RowKit
variable {G : Mem}
set_option maxHeartbeats 400000 in
theorem eqfun_rec (l q : List TT) (c c2 : Value) (xs xs2 : List Value) (hT : TL G l c xs) (hU : TL G q c2 xs2) (hrec : ∀ (t u : TT) (c c2 : Value) (ys ys2 : List Value), t ∈ l → TL G t.args c ys → TL G u.args c2 ys2 → Fn Try.prog G 10 #[.agg (tC t c), .agg (tC u c2)] (.bool (t.eqb u))) : Fn Try.prog G 23 #[c, c2, .func (.func 10) #[] #[]] (.bool (eqbL l q)) := by
  have hml := hT.1
  simp only [maxLen] at hml
  have hmm := hU.1
  simp only [maxLen] at hmm
  refine Qf1 Try.func23 ?_
  refine Qs<|Qp<|(Qa)<|Qn<|Qs<|Qs<|Qp<|(Qm)<|(QC hT.2.1)<|(Qm)<|(QC hU.2.1)<|(QN)<|Qn ?_
  refine e_cond rfl ?_ ?_
  · intro hc0
    rw [eqbL_len (by have := of_decide_eq_true hc0; omega)]
    refine Qs<|Qp<|(Qa)<|Qn<|Qr ?_
    first | rw [eqbL_all hlen (fun j h h2 => hf0_1 j h h2 (by omega))] | skip
    exact ⟨_, rfl, .tmp rfl⟩
  · intro hc0
    have hlen : l.length = q.length := by have := of_decide_eq_false hc0; omega
    refine Qk<|Qs<|Qs<|Qp<|(Qm)<|(QC hT.2.1)<|(Qm)<|Qn<|Qb ?_
    refine QzK [(1, _), (2, _), (15, _), (16, _)] [] (fun kk E m => ∃ (i : Nat), kk = l.length - i ∧ E = [(17, ii i)] ∧ m = [] ∧ (i ≤ l.length) ∧ (∀ j (h : j < l.length) (h2 : j < q.length), j < i → l[j].eqb q[j] = true)) ⟨0, rfl, rfl, rfl, by omega, fun _ _ _ h => absurd h (Nat.not_lt_zero _)⟩ ⟨rfl, rfl, rfl, rfl, rfl, trivial⟩ trivial ?_
    rintro kk E m ⟨i, rfl, rfl, rfl, hf0_0, hf0_1⟩
    simp only [catE, catL]
    refine Qs<|Qp<|(Ql)<|Qn<|Qs ?_
    refine e_cond rfl ?_ ?_
    · intro hc1
      have hc1 : i < l.length := by have := of_decide_eq_true hc1; omega
      obtain ⟨c1, ys1, hcs1, hl1⟩ := hT.at (show i < l.length by omega)
      have hin1 := List.getElem_mem (show i < l.length by omega)
      obtain ⟨c2, ys2, hcs2, hl2⟩ := hU.at (show i < q.length by omega)
      have hin2 := List.getElem_mem (show i < q.length by omega)
      refine Qk<|Qs<|Qb<|Qs<|Qp<|(Qm) ?_
      refine e_atV hT.2.1 (Uu 22) (Uz 24) rfl rfl (by omega) rfl ?_
      refine e_loadVS hT.2.1 seenG (Uu 24) rfl (Uz 24) rfl (by decide) (by have := hT.2.1.len; omega) hcs1 rfl ?_
      refine e_as (show _ = Value.agg (tC l[i] c1) from rfl) ?_
      refine (QH 0) fun r1=>(Qa) ?_
      refine e_storeA (i := 0) (Uz 24) rfl rfl (arrv_size _ _) (cells_one ⟨fun _ => rfl, fun _ => rfl, fun _ => rfl, fun _ => shows_oneC hl1.2.1, trivial⟩) rfl cells_sz (.inl rfl) ?_
      refine Qn<|Qs<|Qp<|(Qm)<|(Qm) ?_
      refine e_atV hU.2.1 (Uu 22) (Uz 24) rfl rfl (by omega) rfl ?_
      refine e_loadVS hU.2.1 seenG (Uu 24) rfl (Uz 24) rfl (by decide) (by have := hU.2.1.len; omega) hcs2 rfl ?_
      refine e_as (show _ = Value.agg (tC q[i] c2) from rfl) ?_
      refine (QH 1) fun r2=>?_
      refine e_storeA (i := 1) (Uz 24) rfl rfl (arrv_size _ _) (cells_one ⟨fun _ => rfl, fun _ => rfl, fun _ => rfl, fun _ => shows_oneC hl2.2.1, trivial⟩) rfl cells_sz (.inl rfl) ?_
      refine Qn<|Qs<|Qp<|(Qm)<|(QD 0)<|(QD 1) ?_
      refine e_callS rfl rfl (Un 10) seenG (hrec l[i] q[i] c1 c2 ys1 ys2 hin1 hl1 hl2) rfl rfl ?_
      refine (Q0)<|Qn ?_
      refine e_cond rfl ?_ ?_
      · intro hc2
        rw [eqbL_at (j := i) (by assumption) (by omega) (by simpa using hc2)]
        refine Qs<|Qp<|(Qa)<|Qn<|Qr ?_
        first | rw [eqbL_all hlen (fun j h h2 => hf0_1 j h h2 (by omega))] | skip
        exact ⟨_, rfl, .tmp rfl⟩
      · intro hc2
        have hz9 : l[i].eqb q[i] = true := by simpa using hc2
        refine Qk<|Qp<|(Q2 1)<|(Qm)<|Qn ?_
        refine QzL ⟨i + 1, rfl, rfl, rfl, by omega, fun j h h2 hj => by by_cases e : j = i; (subst e; exact hz9); exact hf0_1 j h h2 (by omega)⟩ ⟨rfl, rfl, rfl, rfl, rfl, trivial⟩ trivial ?_
        omega
    · intro hc1
      have hc1 := of_decide_eq_false hc1
      have hz0 : i = l.length := by omega
      refine Qe<|Qs<|Qp<|(Qa)<|Qn<|Qr ?_
      first | rw [eqbL_all hlen (fun j h h2 => hf0_1 j h h2 (by omega))] | skip
      exact ⟨_, rfl, .tmp rfl⟩
set_option maxHeartbeats 400000 in
theorem same_rec (t u : TT) (c c2 : Value) (xs xs2 : List Value) (hT : TL G t.args c xs) (hU : TL G u.args c2 xs2) (hrec : Fn Try.prog G 23 #[c, c2, .func (.func 10) #[] #[]] (.bool (eqbL t.args u.args))) : Fn Try.prog G 10 #[.agg (tC t c), .agg (tC u c2)] (.bool (t.eqb u)) := by
  have hco := shows_oneC hT.2.1
  have hco2 := shows_oneC hU.2.1
  rw [eqb_parts]
  refine Qf1 Try.func10 ?_
  refine Qs<|Qp<|(Qh 0) fun r1=>(Qh 1) fun r2=>(Qa)<|Qn<|Qs<|Qp ?_
  refine e_join [(0, _), (1, _), (2, _), (3, _)] [(4, .bool (decide (t.kind = u.kind) && decide (t.id = u.id) && decide (t.other = u.other) && eqbL t.args u.args))] [(0, some _), (1, some _)] ⟨rfl, rfl, rfl, rfl, trivial⟩ ⟨rfl, rfl, trivial⟩ ?_ ?_
  · skip
    refine (Qf 0)<|(QV 0 0)<|(Qf 0)<|(QV 0 1)<|(Qc)<|(Qm) ?_
    refine e_case (fun hb0 => ?_) (fun hb0 => ?_)
    · skip
      refine (Qy)<|(Qf 1)<|(Qy)<|(QV 1 0)<|(Qy)<|(Qf 1)<|(Qy)<|(QV 1 1)<|(Qy)<|(Qc)<|(QT)<|(Qm) ?_
      refine e_case (fun hb1 => ?_) (fun hb1 => ?_)
      · skip
        refine (Qy)<|(Qf 2)<|(Qy)<|(QV 2 0)<|(Qy)<|(Qf 2)<|(Qy)<|(QV 2 1)<|(Qy)<|(Qc)<|(QT)<|(Qm) ?_
        refine e_case (fun hb2 => ?_) (fun hb2 => ?_)
        · skip
          refine (Qy)<|(Qf 3)<|(Qy)<|(QV 3 0)<|(Qy)<|(Qf 3)<|(Qy)<|(QV 3 1)<|(Qy) ?_
          refine e_call rfl (Un 23) hrec rfl rfl ?_
          refine (QT)<|(Qa)<|Qn ?_
          exact ⟨⟨rfl, rfl, rfl, rfl, trivial⟩, ⟨bool_fin (by rw [hb0, hb1, hb2] <;> rfl), trivial⟩, ⟨rfl, rfl, trivial⟩⟩
        · skip
          refine (Qo)<|(Qo)<|(Qo)<|(Qo)<|(Qo)<|(QF)<|(Qa)<|Qn ?_
          exact ⟨⟨rfl, rfl, rfl, rfl, trivial⟩, ⟨bool_fin (by rw [hb0, hb1, hb2] <;> rfl), trivial⟩, ⟨rfl, rfl, trivial⟩⟩
      · skip
        refine (Qo)<|(Qo)<|(Qo)<|(Qo)<|(Qo)<|(QF)<|(Qm)<|(Qo)<|(Qo)<|(Qo)<|(Qo)<|(Qo)<|(QF)<|(Qa)<|Qn ?_
        exact ⟨⟨rfl, rfl, rfl, rfl, trivial⟩, ⟨bool_fin (by rw [hb0, hb1] <;> rfl), trivial⟩, ⟨rfl, rfl, trivial⟩⟩
    · skip
      refine (Qo)<|(Qo)<|(Qo)<|(Qo)<|(Qo)<|(QF)<|(Qm)<|(Qo)<|(Qo)<|(Qo)<|(Qo)<|(Qo)<|(QF)<|(Qm)<|(Qo)<|(Qo)<|(Qo)<|(Qo)<|(Qo)<|(QF)<|(Qa)<|Qn ?_
      exact ⟨⟨rfl, rfl, rfl, rfl, trivial⟩, ⟨bool_fin (by rw [hb0] <;> rfl), trivial⟩, ⟨rfl, rfl, trivial⟩⟩
  · simp only [catE]
    refine Qr ?_
    exact ⟨_, rfl, .tmp rfl⟩
end Go.Proofs.Ytnkelhmfpepehaa
namespace Go.Proofs.Ytnkelhmfpepehaa
open Go Go.RowKit
theorem form_fn {G : Mem} (t : TT) : ∀ (c : Value) (ys : List Value), TL G t.args c ys → Fn Try.prog G 22 #[.agg (tC t c)] (ii t.form) := by
  refine TT.ind (p := fun t => ∀ (c : Value) (ys : List Value), TL G t.args c ys → Fn Try.prog G 22 #[.agg (tC t c)] (ii t.form)) (fun t ih c ys hT => ?_) t
  exact form_rec t c ys hT (forms_rec t.args c ys hT fun a c ys ha hA => ih a ha c ys hA)
theorem same_fn {G : Mem} (t : TT) : ∀ (u : TT) (c c2 : Value) (ys ys2 : List Value), TL G t.args c ys → TL G u.args c2 ys2 → Fn Try.prog G 10 #[.agg (tC t c), .agg (tC u c2)] (.bool (t.eqb u)) := by
  refine TT.ind (p := fun t => ∀ (u : TT) (c c2 : Value) (ys ys2 : List Value), TL G t.args c ys → TL G u.args c2 ys2 → Fn Try.prog G 10 #[.agg (tC t c), .agg (tC u c2)] (.bool (t.eqb u))) (fun t ih u c c2 ys ys2 hT hU => ?_) t
  exact same_rec t u c c2 ys ys2 hT hU (eqfun_rec t.args u.args c c2 ys ys2 hT hU fun a b c c2 ys ys2 ha hA hB => ih a ha b c c2 ys ys2 hA hB)
variable {G : Mem}
set_option maxHeartbeats 400000 in
theorem tcheck_fn (t : TT) (c : Value) (xs : List Value) (hT : TL G t.args c xs) : Fn Try.prog G 9 #[.agg (tC t c)] (ii (chkT t)) := by
  have hco := shows_oneC hT.2.1
  refine Qf1 Try.func9 ?_
  refine Qs<|Qp<|(Qh 0) fun r1=>(Qa)<|Qn<|Qs<|Qs<|Qp<|(QD 0) ?_
  refine e_buildSl 1 (tC t c) (Uu 22 rfl) (Uz 24 rfl) (Ub 24 rfl) (by decide) (by decide) rfl (fill_tC (by kernel_rfl)) rfl fun r2 => ?_
  refine e_callS rfl rfl (Un 21) (seen_cons 1 rfl) (fits_fn (G := ⟨r2, tC t c, 24⟩ :: G) [t] _ _ (tl_one (hT.mono (fun _ h => List.mem_cons_of_mem _ h)) (List.mem_cons_self ..))) rfl rfl ?_
  refine (Q0)<|Qn ?_
  refine e_cond rfl ?_ ?_
  · intro hc0
    rw [show chkT t = 1 by unfold chkT; rw [if_neg (by simpa using hc0)]]
    refine Qs<|Qp<|(Qa)<|Qn<|Qr ?_
    exact ⟨_, rfl, .tmp rfl⟩
  · intro hc0
    rw [show chkT t = t.form by unfold chkT; rw [if_pos (by simpa using hc0)]]
    refine Qk<|Qs<|Qp<|(QD 0) ?_
    refine e_call rfl (Un 22) (form_fn t c xs hT) rfl rfl ?_
    refine (Qa)<|Qn<|Qr ?_
    exact ⟨_, rfl, .tmp rfl⟩
end Go.Proofs.Ytnkelhmfpepehaa
namespace Go.Proofs.Ytnkelhmfpepehaa
open Go Go.RowKit
variable {G : Mem}
set_option maxHeartbeats 400000 in
theorem samet_rec (t u : TT) (c c2 : Value) (xs xs2 : List Value) (hT : TL G t.args c xs) (hU : TL G u.args c2 xs2) (hrec : ∀ (a b : TT) (c c2 : Value) (ys ys2 : List Value), a ∈ t.args → TL G a.args c ys → TL G b.args c2 ys2 → Fn Try.prog G 12 #[.agg (tC a c), .agg (tC b c2)] (.bool (a.eqb b))) : Fn Try.prog G 12 #[.agg (tC t c), .agg (tC u c2)] (.bool (t.eqb u)) := by
  have hco := shows_oneC hT.2.1
  have hco2 := shows_oneC hU.2.1
  have hml := hT.1
  simp only [maxLen] at hml
  have hmm := hU.1
  simp only [maxLen] at hmm
  rw [eqb_parts]
  obtain ⟨l, hl⟩ : ∃ l, l = t.args := ⟨_, rfl⟩
  obtain ⟨q, hq⟩ : ∃ q, q = u.args := ⟨_, rfl⟩
  rw [← hl] at hT hml hrec
  rw [← hq] at hU hmm
  rw [← hl, ← hq]
  refine Qf1 Try.func12 ?_
  refine Qs<|Qp<|(Qh 0) fun r1=>(Qh 1) fun r2=>(Qa)<|Qn<|Qs<|Qs<|Qp ?_
  refine e_join [(0, _), (1, _), (2, _), (3, _), (4, _)] [(34, .bool (decide (t.kind ≠ u.kind) || (decide (t.id ≠ u.id) || (decide (t.other ≠ u.other) || decide ((l.length : Int) ≠ (q.length : Int))))))] [(0, some _), (1, some _)] ⟨rfl, rfl, rfl, rfl, rfl, trivial⟩ ⟨rfl, rfl, trivial⟩ ?_ ?_
  · skip
    refine (Qf 0)<|(QV 0 0)<|(Qf 0)<|(QV 0 1)<|(QN)<|(Qm) ?_
    refine e_case (fun hb0 => ?_) (fun hb0 => ?_)
    · skip
      refine (Qo)<|(Qo)<|(Qo)<|(Qo)<|(Qo)<|(QT)<|(Qm)<|(Qo)<|(Qo)<|(Qo)<|(Qo)<|(Qo)<|(QT)<|(Qm)<|(Qo)<|(Qo)<|(Qo)<|(Qo)<|(Qo)<|(Qo)<|(Qo)<|(QT)<|Qn ?_
      exact ⟨⟨rfl, rfl, rfl, rfl, rfl, trivial⟩, ⟨bool_fin (by rw [hb0] <;> rfl), trivial⟩, ⟨rfl, rfl, trivial⟩⟩
    · skip
      refine (Qy)<|(Qf 1)<|(Qy)<|(QV 1 0)<|(Qy)<|(Qf 1)<|(Qy)<|(QV 1 1)<|(Qy)<|(QN)<|(QF)<|(Qm) ?_
      refine e_case (fun hb1 => ?_) (fun hb1 => ?_)
      · skip
        refine (Qo)<|(Qo)<|(Qo)<|(Qo)<|(Qo)<|(QT)<|(Qm)<|(Qo)<|(Qo)<|(Qo)<|(Qo)<|(Qo)<|(Qo)<|(Qo)<|(QT)<|Qn ?_
        exact ⟨⟨rfl, rfl, rfl, rfl, rfl, trivial⟩, ⟨bool_fin (by rw [hb0, hb1] <;> rfl), trivial⟩, ⟨rfl, rfl, trivial⟩⟩
      · skip
        refine (Qy)<|(Qf 2)<|(Qy)<|(QV 2 0)<|(Qy)<|(Qf 2)<|(Qy)<|(QV 2 1)<|(Qy)<|(QN)<|(QF)<|(Qm) ?_
        refine e_case (fun hb2 => ?_) (fun hb2 => ?_)
        · skip
          refine (Qo)<|(Qo)<|(Qo)<|(Qo)<|(Qo)<|(Qo)<|(Qo)<|(QT)<|Qn ?_
          exact ⟨⟨rfl, rfl, rfl, rfl, rfl, trivial⟩, ⟨bool_fin (by rw [hb0, hb1, hb2] <;> rfl), trivial⟩, ⟨rfl, rfl, trivial⟩⟩
        · skip
          refine (Qy)<|(Qf 3)<|(Qy)<|(QV 3 0)<|(Qy)<|(QC hT.2.1)<|(Qy)<|(Qf 3)<|(Qy)<|(QV 3 1)<|(Qy)<|(QC hU.2.1)<|(Qy)<|(QN)<|(QF)<|Qn ?_
          exact ⟨⟨rfl, rfl, rfl, rfl, rfl, trivial⟩, ⟨bool_fin (by rw [hb0, hb1, hb2] <;> rfl), trivial⟩, ⟨rfl, rfl, trivial⟩⟩
  · simp only [catE]
    refine e_cond rfl ?_ ?_
    · intro hc0
      rw [show (decide (t.kind = u.kind) && decide (t.id = u.id) && decide (t.other = u.other) && eqbL l q) = false from parts_ne hc0]
      refine Qs<|Qp<|(Qa)<|Qn<|Qr ?_
      first | rw [eqbL_all hlen (fun j h h2 => hf0_1 j h h2 (by omega))] | skip
      exact ⟨_, rfl, .tmp rfl⟩
    · intro hc0
      obtain ⟨hk1, hk2, hk3, hlen⟩ := parts_eq hc0
      rw [decide_eq_true hk1, decide_eq_true hk2, decide_eq_true hk3, Bool.true_and, Bool.true_and, Bool.true_and]
      refine Qk<|Qs<|Qs<|Qp<|(Qf 3)<|(QV 3 0)<|(QC hT.2.1)<|(Qm)<|Qn<|Qb ?_
      refine QzK [(3, _), (36, _), (37, _)] [(0, _), (1, _)] (fun kk E m => ∃ (i : Nat), kk = l.length - i ∧ E = [(38, ii i)] ∧ m = [] ∧ (i ≤ l.length) ∧ (∀ j (h : j < l.length) (h2 : j < q.length), j < i → l[j].eqb q[j] = true)) ⟨0, rfl, rfl, rfl, by omega, fun _ _ _ h => absurd h (Nat.not_lt_zero _)⟩ ⟨rfl, rfl, rfl, rfl, trivial⟩ ⟨rfl, rfl, trivial⟩ ?_
      rintro kk E m ⟨i, rfl, rfl, rfl, hf0_0, hf0_1⟩
      simp only [catE, catL]
      refine Qs<|Qp<|(Ql)<|Qn<|Qs ?_
      refine e_cond rfl ?_ ?_
      · intro hc1
        have hc1 : i < l.length := by have := of_decide_eq_true hc1; omega
        obtain ⟨c1, ys1, hcs1, hl1⟩ := hT.at (show i < l.length by omega)
        have hin1 := List.getElem_mem (show i < l.length by omega)
        obtain ⟨c2, ys2, hcs2, hl2⟩ := hU.at (show i < q.length by omega)
        have hin2 := List.getElem_mem (show i < q.length by omega)
        refine Qk<|Qs<|Qb<|Qs<|Qp<|(Qm) ?_
        refine e_atV hT.2.1 (Uu 22) (Uz 24) rfl rfl (by omega) rfl ?_
        refine e_loadVS hT.2.1 seenG (Uu 24) rfl (Uz 24) rfl (by decide) (by have := hT.2.1.len; omega) hcs1 rfl ?_
        refine e_as (show _ = Value.agg (tC l[i] c1) from rfl) ?_
        refine (QH 2) fun r3=>(Qa) ?_
        refine e_storeA (i := 2) (Uz 24) rfl rfl (arrv_size _ _) (cells_one ⟨fun _ => rfl, fun _ => rfl, fun _ => rfl, fun _ => shows_oneC hl1.2.1, trivial⟩) rfl cells_sz (.inl rfl) ?_
        refine Qn<|Qs<|(Qg)<|(QD 2)<|(Qf 3)<|(QV 3 1)<|(Qm) ?_
        refine e_atV hU.2.1 (Uu 22) (Uz 24) rfl rfl (by omega) rfl ?_
        refine e_loadVS hU.2.1 seenG (Uu 24) rfl (Uz 24) rfl (by decide) (by have := hU.2.1.len; omega) hcs2 rfl ?_
        refine e_as (show _ = Value.agg (tC q[i] c2) from rfl) ?_
        refine e_call rfl (Un 12) (hrec l[i] q[i] c1 c2 ys1 ys2 hin1 hl1 hl2) rfl rfl ?_
        refine (Q0)<|Qn ?_
        refine e_cond rfl ?_ ?_
        · intro hc2
          rw [eqbL_at (j := i) (by assumption) (by omega) (by simpa using hc2)]
          refine Qs<|Qp<|(Qa)<|Qn<|Qr ?_
          first | rw [eqbL_all hlen (fun j h h2 => hf0_1 j h h2 (by omega))] | skip
          exact ⟨_, rfl, .tmp rfl⟩
        · intro hc2
          have hz9 : l[i].eqb q[i] = true := by simpa using hc2
          refine Qk<|Qp<|(Q2 1)<|(Qm)<|Qn ?_
          refine QzL ⟨i + 1, rfl, rfl, rfl, by omega, fun j h h2 hj => by by_cases e : j = i; (subst e; exact hz9); exact hf0_1 j h h2 (by omega)⟩ ⟨rfl, rfl, rfl, rfl, trivial⟩ ⟨rfl, rfl, trivial⟩ ?_
          omega
      · intro hc1
        have hc1 := of_decide_eq_false hc1
        have hz0 : i = l.length := by omega
        refine Qe<|Qs<|Qp<|(Qa)<|Qn<|Qr ?_
        first | rw [eqbL_all hlen (fun j h h2 => hf0_1 j h h2 (by omega))] | skip
        exact ⟨_, rfl, .tmp rfl⟩
end Go.Proofs.Ytnkelhmfpepehaa
namespace Go.Proofs.Ytnkelhmfpepehaa
open Go Go.RowKit
variable {G : Mem}
set_option maxHeartbeats 400000 in
theorem weigh_rec (t : TT) (c : Value) (xs : List Value) (d : Nat) (hd : d ≤ 41) (hT : TL G t.args c xs) (hrec : d ≤ 40 → ∀ (a : TT) (c : Value) (ys : List Value), a ∈ t.args → TL G a.args c ys → Fn Try.prog G 24 #[.agg (tC a c), ii (d + 1)] (ii (a.wgh (d + 1)))) : Fn Try.prog G 24 #[.agg (tC t c), ii d] (ii (t.wgh d)) := by
  have hco := shows_oneC hT.2.1
  have hml := hT.1
  simp only [maxLen] at hml
  rw [wgh_eq]
  obtain ⟨l, hl⟩ : ∃ l, l = t.args := ⟨_, rfl⟩
  rw [← hl] at hT hml hrec
  rw [← hl]
  refine Qf1 Try.func24 ?_
  refine Qs<|Qp<|(Qh 0) fun r1=>(Qa)<|Qn<|Qs<|Qs<|Qp<|(Qm)<|(QG)<|Qn ?_
  refine e_cond rfl ?_ ?_
  · intro hc0
    rw [if_pos (by have := of_decide_eq_true hc0; omega)]
    refine Qs<|Qp<|(Qa)<|Qn<|Qr ?_
    first | rw [show wsum (wghL l (d + 1)) 1 = k by rw [hf0_1, hz0, List.drop_length]; rfl] | skip
    exact ⟨_, rfl, .tmp rfl⟩
  · intro hc0
    have hd40 : d ≤ 40 := by have := of_decide_eq_false hc0; omega
    rw [if_neg (by have := of_decide_eq_false hc0; omega)]
    refine Qk<|Qs<|Qp<|(Qa)<|Qn<|Qs<|Qs<|Qp<|(Qf 3)<|(QV 3 0)<|(QC hT.2.1)<|(Qm)<|Qn<|Qb ?_
    refine QzK [(1, _), (11, _), (12, _)] [(0, _)] (fun kk E m => ∃ (i : Nat) (k : Nat), kk = l.length - i ∧ E = [(5, ii k), (13, ii i)] ∧ m = [] ∧ (i ≤ l.length) ∧ (wsum (wghL l (d + 1)) 1 = wsum (wghL (l.drop i) (d + 1)) k) ∧ (k ≤ 1048576)) ⟨0, 1, rfl, rfl, rfl, by omega, rfl, by omega⟩ ⟨rfl, rfl, rfl, rfl, rfl, trivial⟩ ⟨rfl, trivial⟩ ?_
    rintro kk E m ⟨i, k, rfl, rfl, rfl, hf0_0, hf0_1, hf0_2⟩
    simp only [catE, catL]
    refine Qs<|Qp<|(Ql)<|Qn<|Qs ?_
    refine e_cond rfl ?_ ?_
    · intro hc1
      have hc1 : i < l.length := by have := of_decide_eq_true hc1; omega
      obtain ⟨c1, ys1, hcs1, hl1⟩ := hT.at (show i < l.length by omega)
      have hin1 := List.getElem_mem (show i < l.length by omega)
      have hwb := wgh_le l[i] (d + 1)
      have hst := wsum_step (d := d + 1) hf0_1 (by assumption)
      refine Qk<|Qs<|Qb<|Qs<|Qp ?_
      refine e_atV hT.2.1 (Uu 22) (Uz 24) rfl rfl (by omega) rfl ?_
      refine e_loadVS hT.2.1 seenG (Uu 24) rfl (Uz 24) rfl (by decide) (by have := hT.2.1.len; omega) hcs1 rfl ?_
      refine e_as (show _ = Value.agg (tC l[i] c1) from rfl) ?_
      refine (QH 1) fun r2=>?_
      refine e_storeA (i := 1) (Uz 24) rfl rfl (arrv_size _ _) (cells_one ⟨fun _ => rfl, fun _ => rfl, fun _ => rfl, fun _ => shows_oneC hl1.2.1, trivial⟩) rfl cells_sz (.inl rfl) ?_
      refine Qn<|Qs<|Qp<|(Qm)<|(QD 1)<|(Qm)<|(Q2 1) ?_
      refine e_call rfl (Un 24) (hrec hd40 l[i] c1 ys1 hin1 hl1) rfl rfl ?_
      refine (Q3)<|(Qa)<|Qn<|Qs<|Qp<|(Qm)<|(QG)<|Qn ?_
      refine e_cond rfl ?_ ?_
      · intro hc2
        rw [hst, if_pos (by have := of_decide_eq_true hc2; omega)]
        refine Qs<|Qp<|(Qm)<|(Qa)<|Qn<|Qr ?_
        first | rw [show wsum (wghL l (d + 1)) 1 = k by rw [hf0_1, hz0, List.drop_length]; rfl] | skip
        exact ⟨_, rfl, .tmp rfl⟩
      · intro hc2
        have hnx := hst
        rw [if_neg (by have := of_decide_eq_false hc2; omega)] at hnx
        have hkb := of_decide_eq_false hc2
        refine Qk<|Qp<|(Q2 1)<|(Qm)<|Qn ?_
        refine QzL ⟨i + 1, _, rfl, rfl, rfl, by omega, hnx, by omega⟩ ⟨rfl, rfl, rfl, rfl, rfl, trivial⟩ ⟨rfl, trivial⟩ ?_
        omega
    · intro hc1
      have hc1 := of_decide_eq_false hc1
      have hz0 : i = l.length := by omega
      refine Qe<|Qs<|Qp<|(Qm)<|(Qa)<|Qn<|Qr ?_
      first | rw [show wsum (wghL l (d + 1)) 1 = k by rw [hf0_1, hz0, List.drop_length]; rfl] | skip
      exact ⟨_, rfl, .tmp rfl⟩
end Go.Proofs.Ytnkelhmfpepehaa
namespace Go.Proofs.Ytnkelhmfpepehaa
open Go Go.RowKit
variable {G : Mem}
set_option maxHeartbeats 400000 in
theorem shape_rec (t : TT) (c : Value) (xs : List Value) (hT : TL G t.args c xs) (hrec : ∀ (a : TT) (c : Value) (ys : List Value), a ∈ t.args → TL G a.args c ys → Fn Try.prog G 25 #[.agg (tC a c)] (ii a.form)) : Fn Try.prog G 25 #[.agg (tC t c)] (ii t.form) := by
  have hco := shows_oneC hT.2.1
  have hml := hT.1
  simp only [maxLen] at hml
  rw [form_eq]
  obtain ⟨l, hl⟩ : ∃ l, l = t.args := ⟨_, rfl⟩
  rw [← hl] at hT hml hrec
  rw [← hl]
  refine Qf1 Try.func25 ?_
  refine Qs<|Qp<|(Qh 0) fun r1=>(Qa)<|Qn<|Qs<|Qs<|Qp ?_
  refine e_join [(0, _), (1, _), (2, _)] [(15, .bool (decide (t.kind < 1) || decide (7 < t.kind)))] [(0, some _)] ⟨rfl, rfl, rfl, trivial⟩ ⟨rfl, trivial⟩ ?_ ?_
  · skip
    refine (Qf 0)<|(QV 0 0)<|(Ql)<|(Qm) ?_
    refine e_case (fun hb0 => ?_) (fun hb0 => ?_)
    · skip
      refine (Qo)<|(Qo)<|(Qo)<|(QT)<|Qn ?_
      exact ⟨⟨rfl, rfl, rfl, trivial⟩, ⟨bool_fin (by rw [hb0] <;> rfl), trivial⟩, ⟨rfl, trivial⟩⟩
    · skip
      refine (Qy)<|(Qf 0)<|(Qy)<|(QV 0 0)<|(Qy)<|(QG)<|(QF)<|Qn ?_
      exact ⟨⟨rfl, rfl, rfl, trivial⟩, ⟨bool_fin (by rw [hb0] <;> rfl), trivial⟩, ⟨rfl, trivial⟩⟩
  · simp only [catE]
    refine e_cond rfl ?_ ?_
    · intro hc0
      rw [if_pos (or_true2 hc0)]
      refine Qs<|Qp<|(Qa)<|Qn<|Qr ?_
      first | rw [formL_none (fun j h => hf0_1 j h (by omega))] | skip
      exact ⟨_, rfl, .tmp rfl⟩
    · intro hc0
      have h36 := or_false2 hc0
      rw [if_neg h36]
      refine Qk<|Qs<|Qp ?_
      refine e_buildSl 1 (arr .i64 8 (fun j => wdt (j : Int))) (Uu 56 rfl) (Uz 3 rfl) (Ub 3 rfl) (by decide) (by decide) rfl (by kernel_rfl) rfl fun r2 => ?_
      refine (Qf 0)<|(QV 0 0) ?_
      refine e_as (congrArg iv (Int.toNat_of_nonneg (show 0 ≤ t.kind by omega)).symm) ?_
      refine e_atSl (t.kind.toNat) (Uu 56) (Uz 3) rfl rfl (by omega) (by omega) rfl ?_
      refine (Q1 1) ?_
      refine e_as (congrArg (fun z : Int => ii (wdt z)) (Int.toNat_of_nonneg (show 0 ≤ t.kind by omega))) ?_
      refine (Qa)<|Qn<|Qs<|Qp ?_
      refine e_join [(0, _), (1, _), (2, _), (3, _), (15, _), (16, _), (17, _), (18, _), (19, _), (20, _)] [(4, .bool (decide ((l.length : Int) = (wdt t.kind : Int)) && decide (0 ≤ t.id) && decide (0 ≤ t.other)))] [(0, some _), (1, some _)] ⟨rfl, rfl, rfl, rfl, rfl, rfl, rfl, rfl, rfl, rfl, trivial⟩ ⟨rfl, rfl, trivial⟩ ?_ ?_
      · skip
        refine (Qf 3)<|(QV 3 0)<|(QC hT.2.1)<|(Qm)<|(Qc)<|(Qm) ?_
        refine e_case (fun hb1 => ?_) (fun hb1 => ?_)
        · skip
          refine (Qy)<|(Qf 1)<|(Qy)<|(QV 1 0)<|(Qy)<|(QE)<|(QT)<|(Qm) ?_
          refine e_case (fun hb2 => ?_) (fun hb2 => ?_)
          · skip
            refine (Qy)<|(Qf 2)<|(Qy)<|(QV 2 0)<|(Qy)<|(QE)<|(QT)<|(Qa)<|Qn ?_
            exact ⟨⟨rfl, rfl, rfl, rfl, rfl, rfl, rfl, rfl, rfl, rfl, trivial⟩, ⟨bool_fin (by rw [hb1, hb2] <;> rfl), trivial⟩, ⟨rfl, rfl, trivial⟩⟩
          · skip
            refine (Qo)<|(Qo)<|(Qo)<|(QF)<|(Qa)<|Qn ?_
            exact ⟨⟨rfl, rfl, rfl, rfl, rfl, rfl, rfl, rfl, rfl, rfl, trivial⟩, ⟨bool_fin (by rw [hb1, hb2] <;> rfl), trivial⟩, ⟨rfl, rfl, trivial⟩⟩
        · skip
          refine (Qo)<|(Qo)<|(Qo)<|(QF)<|(Qm)<|(Qo)<|(Qo)<|(Qo)<|(QF)<|(Qa)<|Qn ?_
          exact ⟨⟨rfl, rfl, rfl, rfl, rfl, rfl, rfl, rfl, rfl, rfl, trivial⟩, ⟨bool_fin (by rw [hb1] <;> rfl), trivial⟩, ⟨rfl, rfl, trivial⟩⟩
      · simp only [catE]
        refine Qs<|Qs<|Qp<|(Qf 0)<|(QV 0 0)<|(Qc)<|Qn ?_
        refine s_join [(0, _), (1, _), (2, _), (3, _), (15, _), (16, _), (17, _), (18, _), (19, _), (20, _), (36, _), (37, _), (38, _)] [(4, .bool (decide ((l.length : Int) = (wdt t.kind : Int)) && numB t.kind t.id t.other))] [(0, some _), (1, some _)] ⟨rfl, rfl, rfl, rfl, rfl, rfl, rfl, rfl, rfl, rfl, rfl, rfl, rfl, trivial⟩ ⟨rfl, rfl, trivial⟩ ?_ ?_
        · skip
          refine e_cond rfl ?_ ?_
          · intro hc1
            have hc1 := of_decide_eq_true hc1
            refine Qp ?_
            refine e_join [(0, _), (1, _), (2, _), (3, _), (15, _), (16, _), (17, _), (18, _), (19, _), (20, _), (36, _), (37, _), (38, _)] [(4, .bool ((decide ((l.length : Int) = (wdt t.kind : Int)) && decide (0 ≤ t.id) && decide (0 ≤ t.other)) && decide (t.id ≤ t.other)))] [(0, some _), (1, some _)] ⟨rfl, rfl, rfl, rfl, rfl, rfl, rfl, rfl, rfl, rfl, rfl, rfl, rfl, trivial⟩ ⟨rfl, rfl, trivial⟩ ?_ ?_
            · skip
              refine (Qm)<|(Qm) ?_
              refine e_case (fun hb3 => ?_) (fun hb3 => ?_)
              · skip
                refine (Qy)<|(Qf 2)<|(Qy)<|(QV 2 0)<|(Qy)<|(Qf 1)<|(Qy)<|(QV 1 0)<|(Qy)<|(QE)<|(QT)<|(Qa)<|Qn ?_
                exact ⟨⟨rfl, rfl, rfl, rfl, rfl, rfl, rfl, rfl, rfl, rfl, rfl, rfl, rfl, trivial⟩, ⟨bool_fin (by rw [hb3] <;> rfl), trivial⟩, ⟨rfl, rfl, trivial⟩⟩
              · skip
                refine (Qo)<|(Qo)<|(Qo)<|(Qo)<|(Qo)<|(QF)<|(Qa)<|Qn ?_
                exact ⟨⟨rfl, rfl, rfl, rfl, rfl, rfl, rfl, rfl, rfl, rfl, rfl, rfl, rfl, trivial⟩, ⟨bool_fin (by rw [hb3] <;> rfl), trivial⟩, ⟨rfl, rfl, trivial⟩⟩
            · simp only [catE]
              exact ⟨⟨rfl, rfl, rfl, rfl, rfl, rfl, rfl, rfl, rfl, rfl, rfl, rfl, rfl, trivial⟩, ⟨(by first | exact congrArg (fun b => some (Value.bool b)) (shape_ok3 hc1) | exact congrArg (fun b => some (Value.bool b)) (shape_okn hc1)), trivial⟩, ⟨rfl, rfl, trivial⟩⟩
          · intro hc1
            have hc1 := of_decide_eq_false hc1
            refine Qp ?_
            refine e_join [(0, _), (1, _), (2, _), (3, _), (15, _), (16, _), (17, _), (18, _), (19, _), (20, _), (36, _), (37, _), (38, _)] [(4, .bool ((decide ((l.length : Int) = (wdt t.kind : Int)) && decide (0 ≤ t.id) && decide (0 ≤ t.other)) && decide (t.other = 0) && (decide (t.id = 0) || decide (t.kind = 1) || decide (t.kind = 2) || decide (t.kind = 6))))] [(0, some _), (1, some _)] ⟨rfl, rfl, rfl, rfl, rfl, rfl, rfl, rfl, rfl, rfl, rfl, rfl, rfl, trivial⟩ ⟨rfl, rfl, trivial⟩ ?_ ?_
            · skip
              refine (Qm)<|(Qm) ?_
              refine e_case (fun hb4 => ?_) (fun hb4 => ?_)
              · skip
                refine (Qy)<|(Qf 2)<|(Qy)<|(QV 2 0)<|(Qy)<|(Qc)<|(QT)<|(Qm) ?_
                refine e_case (fun hb5 => ?_) (fun hb5 => ?_)
                · skip
                  refine (Qy)<|(Qf 1)<|(Qy)<|(QV 1 0)<|(Qy)<|(Qc)<|(Qy)<|(Qm) ?_
                  refine e_case (fun hb6 => ?_) (fun hb6 => ?_)
                  · skip
                    refine (Qo)<|(Qo)<|(Qo)<|(Qy)<|(QT)<|(Qy)<|(Qm)<|(Qo)<|(Qo)<|(Qo)<|(Qy)<|(QT)<|(Qy)<|(Qm)<|(Qo)<|(Qo)<|(Qo)<|(Qy)<|(QT)<|(QT)<|(Qa)<|Qn ?_
                    exact ⟨⟨rfl, rfl, rfl, rfl, rfl, rfl, rfl, rfl, rfl, rfl, rfl, rfl, rfl, trivial⟩, ⟨bool_fin (by rw [hb4, hb5, hb6] <;> rfl), trivial⟩, ⟨rfl, rfl, trivial⟩⟩
                  · skip
                    refine (Qy)<|(Qf 0)<|(Qy)<|(QV 0 0)<|(Qy)<|(Qc)<|(Qy)<|(QF)<|(Qy)<|(Qm) ?_
                    refine e_case (fun hb7 => ?_) (fun hb7 => ?_)
                    · skip
                      refine (Qo)<|(Qo)<|(Qo)<|(Qy)<|(QT)<|(Qy)<|(Qm)<|(Qo)<|(Qo)<|(Qo)<|(Qy)<|(QT)<|(QT)<|(Qa)<|Qn ?_
                      exact ⟨⟨rfl, rfl, rfl, rfl, rfl, rfl, rfl, rfl, rfl, rfl, rfl, rfl, rfl, trivial⟩, ⟨bool_fin (by rw [hb4, hb5, hb6, hb7] <;> rfl), trivial⟩, ⟨rfl, rfl, trivial⟩⟩
                    · skip
                      refine (Qy)<|(Qf 0)<|(Qy)<|(QV 0 0)<|(Qy)<|(Qc)<|(Qy)<|(QF)<|(Qy)<|(Qm) ?_
                      refine e_case (fun hb8 => ?_) (fun hb8 => ?_)
                      · skip
                        refine (Qo)<|(Qo)<|(Qo)<|(Qy)<|(QT)<|(QT)<|(Qa)<|Qn ?_
                        exact ⟨⟨rfl, rfl, rfl, rfl, rfl, rfl, rfl, rfl, rfl, rfl, rfl, rfl, rfl, trivial⟩, ⟨bool_fin (by rw [hb4, hb5, hb6, hb7, hb8] <;> rfl), trivial⟩, ⟨rfl, rfl, trivial⟩⟩
                      · skip
                        refine (Qy)<|(Qf 0)<|(Qy)<|(QV 0 0)<|(Qy)<|(Qc)<|(Qy)<|(QF)<|(QT)<|(Qa)<|Qn ?_
                        exact ⟨⟨rfl, rfl, rfl, rfl, rfl, rfl, rfl, rfl, rfl, rfl, rfl, rfl, rfl, trivial⟩, ⟨bool_fin (by rw [hb4, hb5, hb6, hb7, hb8] <;> rfl), trivial⟩, ⟨rfl, rfl, trivial⟩⟩
                · skip
                  refine (Qo)<|(Qo)<|(Qo)<|(Qo)<|(Qw)<|(Qw)<|(Qw)<|(Qo)<|(Qo)<|(Qw)<|(Qw)<|(Qw)<|(Qo)<|(Qo)<|(Qw)<|(Qw)<|(Qw)<|(Qo)<|(QF)<|(Qa)<|Qn ?_
                  exact ⟨⟨rfl, rfl, rfl, rfl, rfl, rfl, rfl, rfl, rfl, rfl, rfl, rfl, rfl, trivial⟩, ⟨bool_fin (by rw [hb4, hb5] <;> rfl), trivial⟩, ⟨rfl, rfl, trivial⟩⟩
              · skip
                refine (Qo)<|(Qo)<|(Qo)<|(QF)<|(Qm)<|(Qo)<|(Qo)<|(Qo)<|(Qo)<|(Qw)<|(Qw)<|(Qw)<|(Qo)<|(Qo)<|(Qw)<|(Qw)<|(Qw)<|(Qo)<|(Qo)<|(Qw)<|(Qw)<|(Qw)<|(Qo)<|(QF)<|(Qa)<|Qn ?_
                exact ⟨⟨rfl, rfl, rfl, rfl, rfl, rfl, rfl, rfl, rfl, rfl, rfl, rfl, rfl, trivial⟩, ⟨bool_fin (by rw [hb4] <;> rfl), trivial⟩, ⟨rfl, rfl, trivial⟩⟩
            · simp only [catE]
              exact ⟨⟨rfl, rfl, rfl, rfl, rfl, rfl, rfl, rfl, rfl, rfl, rfl, rfl, rfl, trivial⟩, ⟨(by first | exact congrArg (fun b => some (Value.bool b)) (shape_ok3 hc1) | exact congrArg (fun b => some (Value.bool b)) (shape_okn hc1)), trivial⟩, ⟨rfl, rfl, trivial⟩⟩
        · simp only [catE]
          refine Qs<|Qs<|Qp<|(Qm)<|(Q0)<|Qn ?_
          refine e_cond rfl ?_ ?_
          · intro hc2
            rw [if_pos (shape_bad hc2)]
            refine Qs<|Qp<|(Qa)<|Qn<|Qr ?_
            first | rw [formL_none (fun j h => hf0_1 j h (by omega))] | skip
            exact ⟨_, rfl, .tmp rfl⟩
          · intro hc2
            rw [if_neg (shape_good hc2)]
            refine Qk<|Qs<|Qs<|Qp<|(Qf 3)<|(QV 3 0)<|(QC hT.2.1)<|(Qm)<|Qn<|Qb ?_
            refine QzK [(76, _), (77, _)] [(0, _), (1, _)] (fun kk E m => ∃ (i : Nat), kk = l.length - i ∧ E = [(78, ii i)] ∧ m = [] ∧ (i ≤ l.length) ∧ (∀ j (h : j < l.length), j < i → l[j].form = 0)) ⟨0, rfl, rfl, rfl, by omega, fun _ _ h => absurd h (Nat.not_lt_zero _)⟩ ⟨rfl, rfl, rfl, trivial⟩ ⟨rfl, rfl, trivial⟩ ?_
            rintro kk E m ⟨i, rfl, rfl, rfl, hf0_0, hf0_1⟩
            simp only [catE, catL]
            refine Qs<|Qp<|(Ql)<|Qn<|Qs ?_
            refine e_cond rfl ?_ ?_
            · intro hc3
              have hc3 : i < l.length := by have := of_decide_eq_true hc3; omega
              obtain ⟨c1, ys1, hcs1, hl1⟩ := hT.at (show i < l.length by omega)
              have hin1 := List.getElem_mem (show i < l.length by omega)
              refine Qk<|Qs<|Qb<|Qs<|Qp ?_
              refine e_atV hT.2.1 (Uu 22) (Uz 24) rfl rfl (by omega) rfl ?_
              refine e_loadVS hT.2.1 seenG (Uu 24) rfl (Uz 24) rfl (by decide) (by have := hT.2.1.len; omega) hcs1 rfl ?_
              refine e_as (show _ = Value.agg (tC l[i] c1) from rfl) ?_
              refine (QH 2) fun r3=>?_
              refine e_storeA (i := 2) (Uz 24) rfl rfl (arrv_size _ _) (cells_one ⟨fun _ => rfl, fun _ => rfl, fun _ => rfl, fun _ => shows_oneC hl1.2.1, trivial⟩) rfl cells_sz (.inl rfl) ?_
              refine Qn<|Qs<|Qp<|(QD 2) ?_
              refine e_call rfl (Un 25) (hrec l[i] c1 ys1 hin1 hl1) rfl rfl ?_
              refine (Qa)<|Qn<|Qs<|Qp<|(Qm)<|(QN)<|Qn ?_
              refine e_cond rfl ?_ ?_
              · intro hc4
                have hne := of_decide_eq_true hc4
                rw [formL_at (i := i) (by assumption) (fun j hj => hf0_1 j (by omega) hj) (by omega)]
                refine Qs<|Qp<|(Qm)<|(Qa)<|Qn<|Qr ?_
                first | rw [formL_none (fun j h => hf0_1 j h (by omega))] | skip
                exact ⟨_, rfl, .tmp rfl⟩
              · intro hc4
                have hz9 : l[i].form = 0 := by have := of_decide_eq_false hc4; omega
                refine Qk<|Qp<|(Q2 1)<|(Qm)<|Qn ?_
                refine QzL ⟨i + 1, rfl, rfl, rfl, by omega, fun j h hj => by by_cases e : j = i; (subst e; exact hz9); exact hf0_1 j h (by omega)⟩ ⟨rfl, rfl, rfl, trivial⟩ ⟨rfl, rfl, trivial⟩ ?_
                omega
            · intro hc3
              have hc3 := of_decide_eq_false hc3
              have hz0 : i = l.length := by omega
              refine Qe<|Qs<|Qp<|(Qa)<|Qn<|Qr ?_
              first | rw [formL_none (fun j h => hf0_1 j h (by omega))] | skip
              exact ⟨_, rfl, .tmp rfl⟩
end Go.Proofs.Ytnkelhmfpepehaa
namespace Go.Proofs.Ytnkelhmfpepehaa
open Go Go.RowKit
theorem samet_fn {G : Mem} (t : TT) : ∀ (u : TT) (c c2 : Value) (ys ys2 : List Value), TL G t.args c ys → TL G u.args c2 ys2 → Fn Try.prog G 12 #[.agg (tC t c), .agg (tC u c2)] (.bool (t.eqb u)) := by
  refine TT.ind (p := fun t => ∀ (u : TT) (c c2 : Value) (ys ys2 : List Value), TL G t.args c ys → TL G u.args c2 ys2 → Fn Try.prog G 12 #[.agg (tC t c), .agg (tC u c2)] (.bool (t.eqb u))) (fun t ih u c c2 ys ys2 hT hU => ?_) t
  exact samet_rec t u c c2 ys ys2 hT hU fun a b c c2 ys ys2 ha hA hB => ih a ha b c c2 ys ys2 hA hB
theorem weigh_fn {G : Mem} (t : TT) : ∀ (d : Nat) (c : Value) (ys : List Value), d ≤ 1 → TL G t.args c ys → Fn Try.prog G 24 #[.agg (tC t c), ii d] (ii (t.wgh d)) := by
  have key : ∀ (n : Nat) (t : TT) (d : Nat) (c : Value) (ys : List Value), t.deep ≤ n → d ≤ 41 → TL G t.args c ys → Fn Try.prog G 24 #[.agg (tC t c), ii d] (ii (t.wgh d)) := by
    intro n
    induction n with
    | zero => intro t d c ys h; have := t.deep_eq; omega
    | succ n ih =>
      intro t d c ys h hd hT
      exact weigh_rec t c ys d hd hT fun h40 a c ys ha hA => ih a (d + 1) c ys (by have := deep_arg ha; omega) (by omega) hA
  exact fun d c ys hd hT => key t.deep t d c ys (Nat.le_refl _) (by omega) hT
theorem shape_fn {G : Mem} (t : TT) : ∀ (c : Value) (ys : List Value), TL G t.args c ys → Fn Try.prog G 25 #[.agg (tC t c)] (ii t.form) := by
  refine TT.ind (p := fun t => ∀ (c : Value) (ys : List Value), TL G t.args c ys → Fn Try.prog G 25 #[.agg (tC t c)] (ii t.form)) (fun t ih c ys hT => ?_) t
  exact shape_rec t c ys hT fun a c ys ha hA => ih a ha c ys hA
variable {G : Mem}
set_option maxHeartbeats 400000 in
theorem tfault_fn (t : TT) (c : Value) (xs : List Value) (hT : TL G t.args c xs) : Fn Try.prog G 11 #[.agg (tC t c)] (ii (chkT t)) := by
  have hco := shows_oneC hT.2.1
  refine Qf1 Try.func11 ?_
  refine Qs<|Qp<|(Qh 0) fun r1=>(Qa)<|Qn<|Qs<|Qs<|Qp<|(QD 0) ?_
  refine e_call rfl (Un 24) (weigh_fn t 1 c xs (by decide) hT) rfl rfl ?_
  refine (QG) ?_
  refine e_as (congrArg Value.bool (wgh_fits t)) ?_
  refine Qn ?_
  refine e_cond rfl ?_ ?_
  · intro hc0
    rw [show chkT t = 1 by unfold chkT; rw [if_neg (by simpa using hc0)]]
    refine Qs<|Qp<|(Qa)<|Qn<|Qr ?_
    exact ⟨_, rfl, .tmp rfl⟩
  · intro hc0
    rw [show chkT t = t.form by unfold chkT; rw [if_pos (by simpa using hc0)]]
    refine Qk<|Qs<|Qp<|(QD 0) ?_
    refine e_call rfl (Un 25) (shape_fn t c xs hT) rfl rfl ?_
    refine (Qa)<|Qn<|Qr ?_
    exact ⟨_, rfl, .tmp rfl⟩
end Go.Proofs.Ytnkelhmfpepehaa
namespace Go.Proofs.Ytnkelhmfpepehaa
open Go Go.RowKit
variable {G : Mem}
set_option maxHeartbeats 400000 in
theorem termChecks_fn (t u : TT) (c c2 : Value) (xs xs2 : List Value) (hT : TL G t.args c xs) (hU : TL G u.args c2 xs2) : Fn Try.prog G 3 #[.agg (tC t c), .agg (tC u c2)] (.bool true) := by
  have hco := shows_oneC hT.2.1
  have hco2 := shows_oneC hU.2.1
  refine Qf1 Try.func3 ?_
  refine Qs<|Qp<|(Qh 0) fun r1=>(Qh 1) fun r2=>(Qa)<|Qn<|Qs<|(Qg)<|(QD 0) ?_
  refine e_call rfl (Un 9) (tcheck_fn t c xs hT) rfl rfl ?_
  refine (QD 0)<|(QD 1) ?_
  refine e_call rfl (Un 10) (same_fn t u c c2 xs xs2 hT hU) rfl rfl ?_
  refine (Qa)<|(Qa)<|Qn<|Qs<|(Qg)<|(QD 0) ?_
  refine e_call rfl (Un 11) (tfault_fn t c xs hT) rfl rfl ?_
  refine (QD 0)<|(QD 1) ?_
  refine e_call rfl (Un 12) (samet_fn t u c c2 xs xs2 hT hU) rfl rfl ?_
  refine (Qa)<|(Qa)<|Qn<|Qs<|Qp<|(Qm)<|(Qm)<|(Qc)<|(Qar)<|(Qm)<|(Qy)<|(Qm)<|(Qy)<|(Qm)<|(Qy) ?_
  refine e_eqB (Uu 4) rfl rfl rfl ?_
  refine (Qar)<|(QT)<|(Qa)<|Qn<|Qr ?_
  exact ⟨_, rfl, .tmp rfl⟩
end Go.Proofs.Ytnkelhmfpepehaa
