import Derived.Test.YtnkelhmfpepehaaKx0
import Derived.Laws.BytesArg
import Derived.Laws.MakeOwn
import Derived.Laws.AppendOwn
import Derived.Laws.Concat
import Derived.Laws.Strings
import Derived.Laws.CopyRow
import Derived.Lib.AppendZeros
import Derived.ProofKit
import Derived.OpenShut
import Derived.Carry
import Derived.SizedLaws
import Derived.Lib.Bytealg
namespace Go.Proofs.Ytnkelhmfpepehaa
open Go Go.RowKit
abbrev Env := List (Nat × Value)
def lk : Env → Nat → Option Value
  | [], _ => none
  | (s, v) :: r, t => bif Nat.beq s t then some v else lk r t
def rd (E : Env) : Operand → Option Value
  | .tmp t => lk E t
  | .const v => some v
  | .global g => some (.pointer (some ⟨g, 0, none⟩))
  | .func f => some (.func (.func f) #[] #[])
def rdl (E : Env) : List Operand → Option (List Value)
  | [] => some []
  | x :: r => match rd E x, rdl E r with
    | some v, some vs => some (v :: vs)
    | _, _ => none
def sub : Env → Env → Prop
  | [], _ => True
  | (t, v) :: r, E => lk E t = some v ∧ sub r E
structure Fits (n : Nat) (E : Env) (a : Act) : Prop where
  size : a.tmps.size = n
  defers : a.defers = []
  slots : ∀ t v, lk E t = some v → a.tmps[t]? = some v
theorem Fits.rd {n : Nat} {E : Env} {a : Act} (h : Fits n E a) {x : Operand} {v : Value} (hx : Ytnkelhmfpepehaa.rd E x = some v) : a.eval x = v := by
  cases x with
  | tmp t =>
    have := h.slots t v hx
    simp [Act.eval, Array.getD_eq_getD_getElem?, this]
  | const c => simpa [Ytnkelhmfpepehaa.rd, Act.eval] using hx
  | global g => simpa [Ytnkelhmfpepehaa.rd, Act.eval] using hx
  | func f => simpa [Ytnkelhmfpepehaa.rd, Act.eval] using hx
theorem Fits.rdl {n : Nat} {E : Env} {a : Act} (h : Fits n E a) : ∀ {l : List Operand} {vs : List Value}, Ytnkelhmfpepehaa.rdl E l = some vs → l.map a.eval = vs
  | [], vs, hl => by simpa [Ytnkelhmfpepehaa.rdl] using hl
  | x :: l, vs, hl => by
    unfold Ytnkelhmfpepehaa.rdl at hl
    split at hl
    · rename_i v ws h1 h2
      simp at hl
      subst hl
      rw [List.map_cons, h.rd h1, Fits.rdl h h2]
    · cases hl
theorem Fits.args {n : Nat} {E : Env} {a : Act} (h : Fits n E a) {l : Array Operand} {vs : List Value} (hl : Ytnkelhmfpepehaa.rdl E l.toList = some vs) : l.map a.eval = vs.toArray := by
  have := h.rdl hl
  apply Array.ext'
  simpa using this
theorem beq_ne {s t : Nat} (h : ¬ s = t) : Nat.beq s t = false := by
  cases hb : Nat.beq s t with
  | false => rfl
  | true => exact absurd (Nat.eq_of_beq_eq_true hb) h
theorem lk_cons (s : Nat) (v : Value) (E : Env) (t : Nat) : lk ((s, v) :: E) t = if s = t then some v else lk E t := by
  show (bif Nat.beq s t then some v else lk E t) = _
  by_cases h : s = t
  · subst h; simp
  · simp [beq_ne h, h]
theorem Fits.put {n : Nat} {E : Env} {a : Act} (h : Fits n E a) {d : Nat} (hd : Nat.blt d n = true) (v : Value) : Fits n ((d, v) :: E) (a.put (some d) v) := by
  have hd' : d < n := by simpa using hd
  refine ⟨by simpa [Act.put] using h.size, by simpa [Act.put] using h.defers, fun t u ht => ?_⟩
  rw [lk_cons] at ht
  simp only [Act.put]
  split at ht
  · rename_i e; subst e
    rw [Array.getElem?_setIfInBounds_self_of_lt (by rw [h.size]; exact hd')]; exact ht
  · rename_i e
    rw [Array.getElem?_setIfInBounds_ne e]; exact h.slots t u ht
theorem sub_lk : ∀ {E E' : Env}, sub E E' → ∀ t v, lk E t = some v → lk E' t = some v
  | [], _, _, _, _, h => by simp [lk] at h
  | (s, u) :: E, E', ⟨h1, h2⟩, t, v, h => by
    rw [lk_cons] at h
    split at h
    · rename_i e; subst e; rw [h1]; exact h
    · exact sub_lk h2 t v h
theorem Fits.sub {n : Nat} {E E' : Env} {a : Act} (h : Fits n E' a) (hs : Ytnkelhmfpepehaa.sub E E') : Fits n E a := ⟨h.size, h.defers, fun t v ht => h.slots t v (sub_lk hs t v ht)⟩
abbrev Mm := List (Nat × Option Blk)
def lkM : Mm → Nat → Option Blk
  | [], _ => none
  | (s, v) :: r, t => bif Nat.beq s t then v else lkM r t
theorem lkM_cons (s : Nat) (v : Option Blk) (M : Mm) (t : Nat) : lkM ((s, v) :: M) t = if s = t then v else lkM M t := by
  show (bif Nat.beq s t then v else lkM M t) = _
  by_cases h : s = t
  · subst h; simp
  · simp [beq_ne h, h]
structure FitsM (M : Mm) (m : Mem) : Prop where
  has : ∀ i x, lkM M i = some x → x ∈ m
  apart : ∀ i j x y, lkM M i = some x → lkM M j = some y → i ≠ j → x.b ≠ y.b
def subL : Mm → Mm → Prop
  | [], _ => True
  | (t, v) :: r, M => lkM M t = v ∧ subL r M
theorem subL_lk : ∀ {M M' : Mm}, subL M M' → ∀ t v, lkM M t = some v → lkM M' t = some v
  | [], _, _, _, _, h => by simp [lkM] at h
  | (s, u) :: M, M', ⟨h1, h2⟩, t, v, h => by
    rw [lkM_cons] at h
    split at h
    · rename_i e; subst e; rw [h1]; exact h
    · exact subL_lk h2 t v h
theorem FitsM.sub {M M' : Mm} {m : Mem} (h : FitsM M' m) (hs : subL M M') : FitsM M m :=
  ⟨fun i x hx => h.has i x (subL_lk hs i x hx), fun i j x y hx hy => h.apart i j x y (subL_lk hs i x hx) (subL_lk hs j y hy)⟩
theorem FitsM.nil (m : Mem) : FitsM [] m := ⟨fun _ _ h => by simp [lkM] at h, fun _ _ _ _ h => by simp [lkM] at h⟩
theorem FitsM.alloc {M : Mm} {m : Mem} (h : FitsM M m) (i : Nat) (x : Blk) (hx : ∀ y ∈ m, y.b ≠ x.b) : FitsM ((i, some x) :: M) (m ++ [x]) := by
  refine ⟨fun j y hy => ?_, fun j k y z hy hz hne => ?_⟩
  · rw [lkM_cons] at hy
    split at hy
    · cases hy; simp
    · exact List.mem_append_left _ (h.has j y hy)
  · rw [lkM_cons] at hy hz
    split at hy
    · split at hz
      · rename_i e1 e2; exact absurd (e1.symm.trans e2) hne
      · cases hy; exact fun e => hx z (h.has k z hz) e.symm
    · split at hz
      · cases hz; exact hx y (h.has j y hy)
      · exact h.apart j k y z hy hz hne
theorem FitsM.store {M : Mm} {m : Mem} (h : FitsM M m) {i : Nat} {x : Blk} (hx : lkM M i = some x) {k : Nat} (hk : m[k]? = some x) (c' : Array Value) : FitsM ((i, some ⟨x.b, c', x.t⟩) :: M) (m.set k ⟨x.b, c', x.t⟩) := by
  have hlt : k < m.length := (List.getElem?_eq_some_iff.1 hk).1
  have hkx : m[k] = x := (List.getElem?_eq_some_iff.1 hk).2
  refine ⟨fun j y hy => ?_, fun j l y z hy hz hne => ?_⟩
  · rw [lkM_cons] at hy
    split at hy
    · cases hy; exact List.mem_set hlt _
    · rename_i hne
      have hm := h.has j y hy
      have hb : y.b ≠ x.b := h.apart j i y x hy hx (fun e => hne e.symm)
      obtain ⟨l, hl, rfl⟩ := List.getElem_of_mem hm
      have hkl : k ≠ l := fun e => by subst e; rw [hkx] at hb; exact hb rfl
      have : (m.set k ⟨x.b, c', x.t⟩)[l]? = some m[l] := by
        rw [List.getElem?_set_ne hkl, List.getElem?_eq_getElem hl]
      exact List.mem_of_getElem? this
  · rw [lkM_cons] at hy hz
    split at hy
    · split at hz
      · rename_i e1 e2; exact absurd (e1.symm.trans e2) hne
      · rename_i e2; cases hy; exact h.apart i l x z hx hz (fun e => e2 e)
    · split at hz
      · rename_i e1 _; cases hz; exact h.apart j i y x hy hx (fun e => e1 e.symm)
      · exact h.apart j l y z hy hz hne
theorem FitsM.at {M : Mm} {m : Mem} (h : FitsM M m) {i : Nat} {x : Blk} (hx : lkM M i = some x) : ∃ k : Nat, m[k]? = some x := List.getElem?_of_mem (h.has i x hx)
def okX (M : Mm) (i : Nat) : List Nat → List Nat → Prop
  | [], [] => True
  | j :: js, x :: xs => Nat.beq j i = false ∧ (lkM M j).map (·.b) = some x ∧ okX M i js xs
  | _, _ => False
theorem okX_not {M : Mm} {m : Mem} (hM : FitsM M m) {i : Nat} {z : Blk} (hi : lkM M i = some z) : ∀ {js xs : List Nat}, okX M i js xs → z.b ∉ xs
  | [], [], _ => by simp
  | j :: js, x :: xs, ⟨h1, h2, h3⟩ => fun hm => by
    rcases List.mem_cons.1 hm with e | e
    · cases hj : lkM M j with
      | none => simp [hj] at h2
      | some y =>
        simp [hj] at h2
        exact hM.apart j i y z hj hi (fun e' => by subst e'; simp at h1) (h2.trans e.symm)
    · exact okX_not hM hi h3 e
  | [], _ :: _, h => h.elim
  | _ :: _, [], h => h.elim
def okXL (M : Mm) (i : Nat) (js : List Nat) (R : Reg) : Prop := match R.L with
  | none => okX M i js R.X
  | some l => okX M i js R.X ∧ ∃ b, (lkM M i).map (·.b) = some b ∧ b ∈ l
theorem okXL_not {M : Mm} {m : Mem} {R : Reg} (hM : FitsM M m) {i : Nat} {z : Blk} (hi : lkM M i = some z) {js : List Nat} (h : okXL M i js R) : z.b ∉ R.X ∧ inL R.L z.b := by
  unfold okXL at h
  cases hL : R.L with
  | none => rw [hL] at h; exact ⟨okX_not hM hi h, trivial⟩
  | some l =>
    rw [hL] at h
    obtain ⟨h1, b, h2, h3⟩ := h
    rw [hi] at h2
    simp only [Option.map_some, Option.some.injEq] at h2
    exact ⟨okX_not hM hi h1, by rw [h2]; exact h3⟩
def EK (n : Nat) (K : Env → Mm → Prop) : Act → Mem → Prop := fun a m => ∃ E M, Fits n E a ∧ FitsM M m ∧ K E M
def EQ (n : Nat) (Q : Exit → Env → Mm → Prop) : Exit → Act → Mem → Prop := fun e a m => ∃ E M, Fits n E a ∧ FitsM M m ∧ Q e E M
def OpsE (P : Program) (G : Mem) (R : Reg) (ops : Array Oper) (n : Nat) (K : Env → Mm → Prop) (l : List Oper) (E : Env) (M : Mm) : Prop := ∀ (a : Act) (m : Mem), Fits n E a → FitsM M m → opsM P G R ops (EK n K) l a m
def SatE (P : Program) (G : Mem) (c : Code) (n : Nat) (Q : Exit → Env → Mm → Prop) (E : Env) (M : Mm) : Prop := ∀ (a : Act) (m : Mem), Fits n E a → FitsM M m → Sat P G c (EQ n Q) a m
section
variable {P : Program} {G : Mem} {R : Reg} {ops : Array Oper} {n : Nat} {K : Env → Mm → Prop} {Q : Exit → Env → Mm → Prop} {rest : List Oper} {E : Env} {M : Mm} {d : Nat} {ty : TypeId} {pos : String} {aft : Array Edge}
variable {T T' : TypeId} {x y : Operand}
theorem e_nil (h : K E M) : OpsE P G R ops n K [] E M := fun _ _ ha hM => ⟨E, M, ha, hM, h⟩
theorem e_plain {id : Nat} (h : OpsE P G noReg ops n (Q .normal) ops.toList E M) : SatE P G (.region id ops false) n Q E M := fun a m ha hM => sat_plain noReg (h a m ha hM)
theorem e_draw {id : Nat} (hm : P.follows .mixedOrders = true) (hok : orderOk noReg ops (List.range ops.size) = true) (h : OpsE P G noReg ops n (Q .normal) ops.toList E M) : SatE P G (.region id ops true) n Q E M := fun a m ha hM => sat_draw noReg hm hok (h a m ha hM)
theorem e_skip (h : Q .normal E M) : SatE P G .skip n Q E M := fun _ _ ha hM => sat_skip ⟨E, M, ha, hM, h⟩
theorem e_exit {id : Nat} (h : Q (.exit id) E M) : SatE P G (.exit id) n Q E M := fun _ _ ha hM => sat_exit ⟨E, M, ha, hM, h⟩
theorem e_ret (h : Q .ret E M) : SatE P G .ret n Q E M := fun _ _ ha hM => sat_ret ⟨E, M, ha, hM, h⟩
def thenE (next : Env → Mm → Prop) (Q : Exit → Env → Mm → Prop) : Exit → Env → Mm → Prop
  | .normal, a, m => next a m
  | e, a, m => Q e a m
theorem e_seq {c c' : Code} (h : SatE P G c n (thenE (SatE P G c' n Q) Q) E M) : SatE P G (.seq c c') n Q E M := fun a m ha hM =>
  sat_seq (sat_mono (h a m ha hM) fun e a' m' ⟨E', M', h1, h0, h2⟩ => by
    cases e <;> first | exact h2 a' m' h1 h0 | exact ⟨E', M', h1, h0, h2⟩)
theorem e_cond {c : Operand} {x y : Code} {t : Bool} (hc : rd E c = some (.bool t)) (ht : t = true → SatE P G x n Q E M) (hf : t = false → SatE P G y n Q E M) : SatE P G (.cond c x y) n Q E M := fun a m ha hM =>
  sat_cond (ha.rd hc) (fun e => ht e a m ha hM) (fun e => hf e a m ha hM)
def inBlockE (id : Nat) (Q : Exit → Env → Mm → Prop) : Exit → Env → Mm → Prop
  | .exit id', a, m => bif Nat.beq id' id then Q .normal a m else Q (.exit id') a m
  | e, a, m => Q e a m
theorem e_block {id : Nat} {c : Code} (h : SatE P G c n (inBlockE id Q) E M) : SatE P G (.block id c) n Q E M := fun a m ha hM =>
  sat_block (sat_mono (h a m ha hM) fun e a' m' ⟨E', M', h1, h0, h2⟩ => by
    cases e with
    | exit id' =>
      simp only [inBlockE, inBlockM] at h2 ⊢
      by_cases he : id' = id
      · subst he; simp at h2 ⊢; exact ⟨E', M', h1, h0, h2⟩
      · simp [beq_ne he, he] at h2 ⊢; exact ⟨E', M', h1, h0, h2⟩
    | _ => exact ⟨E', M', h1, h0, h2⟩)
theorem e_loop {c : Code} (I : Nat → Env → Mm → Prop) (E0 : Env) (M0 : Mm) (k : Nat) (hs : sub E0 E) (hl : subL M0 M) (h0 : I k E0 M0)
    (round : ∀ k E M, I k E M → SatE P G c n (thenE (fun E' M' => ∃ k' E'' M'', k' < k ∧ sub E'' E' ∧ subL M'' M' ∧ I k' E'' M'') Q) E M) : SatE P G (.loop c) n Q E M := fun a m ha hM =>
  sat_loop (fun k a m => ∃ E M, Fits n E a ∧ FitsM M m ∧ I k E M) (n := k) ⟨E0, M0, ha.sub hs, hM.sub hl, h0⟩ fun k a m ⟨E, M, hE, hM, hI⟩ =>
    sat_mono (round k E M hI a m hE hM) fun e a' m' ⟨E', M', h1, h0, h2⟩ => by
      cases e with
      | normal => obtain ⟨k', E'', M'', h3, h4, h6, h5⟩ := h2; exact ⟨k', h3, E'', M'', h1.sub h4, h0.sub h6, h5⟩
      | _ => exact ⟨E', M', h1, h0, h2⟩
theorem e_move {v : Value} (hx : rd E x = some v) (hd : Nat.blt d n = true) (h : OpsE P G R ops n K rest ((d, v) :: E) M) : OpsE P G R ops n K (⟨some d, .move x, ty, pos, aft, none⟩ :: rest) E M :=
  fun _ _ ha hM => st_move (ha.rd hx) (h _ _ (ha.put hd _) hM)
theorem e_assign {v : Value} (hx : rd E x = some v) (hd : Nat.blt d n = true) (h : OpsE P G R ops n K rest ((d, v) :: E) M) : OpsE P G R ops n K (⟨some d, .assign x, ty, pos, aft, none⟩ :: rest) E M :=
  fun _ _ ha hM => st_assign (ha.rd hx) (h _ _ (ha.put hd _) hM)
theorem e_add_i {p q : Nat} (hx : rd E x = some (ii p)) (hy : rd E y = some (ii q)) (hd : Nat.blt d n = true) (hb : p + q < 9223372036854775808) (h : OpsE P G R ops n K rest ((d, ii (p + q)) :: E) M) :
    OpsE P G R ops n K (⟨some d, .binOp .add T x y T', ty, pos, aft, none⟩ :: rest) E M := fun _ _ ha hM => st_add_i (ha.rd hx) (ha.rd hy) hb (h _ _ (ha.put hd _) hM)
theorem e_sub_z {p q : Int} (hx : rd E x = some (.int .i64 p)) (hy : rd E y = some (.int .i64 q)) (hd : Nat.blt d n = true) (h0 : -9223372036854775808 ≤ p - q) (h1 : p - q < 9223372036854775808) (h : OpsE P G R ops n K rest ((d, .int .i64 (p - q)) :: E) M) :
    OpsE P G R ops n K (⟨some d, .binOp .sub T x y T', ty, pos, aft, none⟩ :: rest) E M := fun _ _ ha hM => st_sub_z (ha.rd hx) (ha.rd hy) h0 h1 (h _ _ (ha.put hd _) hM)
theorem e_lt {k : IntKind} {p q : Int} (hx : rd E x = some (.int k p)) (hy : rd E y = some (.int k q)) (hd : Nat.blt d n = true) (h : OpsE P G R ops n K rest ((d, .bool (decide (p < q))) :: E) M) :
    OpsE P G R ops n K (⟨some d, .binOp .lss T x y T', ty, pos, aft, none⟩ :: rest) E M := fun _ _ ha hM => st_lt (ha.rd hx) (ha.rd hy) (h _ _ (ha.put hd _) hM)
theorem e_gt {k : IntKind} {p q : Int} (hx : rd E x = some (.int k p)) (hy : rd E y = some (.int k q)) (hd : Nat.blt d n = true) (h : OpsE P G R ops n K rest ((d, .bool (decide (q < p))) :: E) M) :
    OpsE P G R ops n K (⟨some d, .binOp .gtr T x y T', ty, pos, aft, none⟩ :: rest) E M := fun _ _ ha hM => st_gt (ha.rd hx) (ha.rd hy) (h _ _ (ha.put hd _) hM)
theorem e_ge {k : IntKind} {p q : Int} (hx : rd E x = some (.int k p)) (hy : rd E y = some (.int k q)) (hd : Nat.blt d n = true) (h : OpsE P G R ops n K rest ((d, .bool (decide (q ≤ p))) :: E) M) :
    OpsE P G R ops n K (⟨some d, .binOp .geq T x y T', ty, pos, aft, none⟩ :: rest) E M := fun _ _ ha hM => st_ge (ha.rd hx) (ha.rd hy) (h _ _ (ha.put hd _) hM)
theorem e_eq {k : IntKind} {p q : Int} (hx : rd E x = some (.int k p)) (hy : rd E y = some (.int k q)) (hd : Nat.blt d n = true) (h : OpsE P G R ops n K rest ((d, .bool (decide (p = q))) :: E) M) :
    OpsE P G R ops n K (⟨some d, .binOp .eql T x y T', ty, pos, aft, none⟩ :: rest) E M := fun _ _ ha hM => st_eq (ha.rd hx) (ha.rd hy) (h _ _ (ha.put hd _) hM)
theorem e_ne {k : IntKind} {p q : Int} (hx : rd E x = some (.int k p)) (hy : rd E y = some (.int k q)) (hd : Nat.blt d n = true) (h : OpsE P G R ops n K rest ((d, .bool (decide (p ≠ q))) :: E) M) :
    OpsE P G R ops n K (⟨some d, .binOp .neq T x y T', ty, pos, aft, none⟩ :: rest) E M := fun _ _ ha hM => st_ne (ha.rd hx) (ha.rd hy) (h _ _ (ha.put hd _) hM)
theorem e_not {b : Bool} (hx : rd E x = some (.bool b)) (hd : Nat.blt d n = true) (h : OpsE P G R ops n K rest ((d, .bool (!b)) :: E) M) : OpsE P G R ops n K (⟨some d, .unOp .not T x, ty, pos, aft, none⟩ :: rest) E M :=
  fun _ _ ha hM => st_not (ha.rd hx) (h _ _ (ha.put hd _) hM)
theorem e_alloc (i : Nat) {z : Value} (hz : (P.info? T).bind (·.zero) = some z) (hd : Nat.blt d n = true) (h : ∀ r, OpsE P G R ops n K rest ((d, ptr r) :: E) ((i, some ⟨r, z.cells, T⟩) :: M)) :
    OpsE P G R ops n K (⟨some d, .alloc T, ty, pos, aft, none⟩ :: rest) E M := fun _ _ ha hM => st_alloc hz fun r hr => h r _ _ (ha.put hd _) (hM.alloc i ⟨r, z.cells, T⟩ hr)
theorem e_box (i : Nat) {v : Value} (hx : rd E x = some v) (hd : Nat.blt d n = true) (h : ∀ r, OpsE P G R ops n K rest ((d, ptr r) :: E) ((i, some ⟨r, v.cells, T⟩) :: M)) :
    OpsE P G R ops n K (⟨some d, .box T x, ty, pos, aft, none⟩ :: rest) E M := fun _ _ ha hM => st_box (ha.rd hx) fun r hr => h r _ _ (ha.put hd _) (hM.alloc i ⟨r, v.cells, T⟩ hr)
theorem e_load1 {b o i : Nat} {c : Array Value} {t : TypeId} {v : Value} {td : TypeDesc} (hT : P.underlying T = some td) (hn : rowLike td = false) (hx : rd E x = some (.pointer (some ⟨b, o, none⟩)))
    (hm : lkM M i = some ⟨b, c, t⟩) (hc : c[o]? = some v) (hd : Nat.blt d n = true) (hX : ∃ js, okXL M i js R) (h : OpsE P G R ops n K rest ((d, v) :: E) M) : OpsE P G R ops n K (⟨some d, .load T x, ty, pos, aft, none⟩ :: rest) E M :=
  fun _ _ ha hM => by
    obtain ⟨k, hk⟩ := hM.at hm
    exact st_load1 hT hn (ha.rd hx) hk (by obtain ⟨js, hjs⟩ := hX; exact okXL_not hM hm hjs) hc (h _ _ (ha.put hd _) hM)
theorem e_loadA {b i l : Nat} {c : Array Value} {t : TypeId} {td : TypeDesc} (hT : P.underlying T = some td) (hn : rowLike td = true) (hs : (P.info? T).map (·.size) = some l)
    (hx : rd E x = some (.pointer (some ⟨b, 0, none⟩))) (hm : lkM M i = some ⟨b, c, t⟩) (hl : c.size = l) (hd : Nat.blt d n = true) (hX : ∃ js, okXL M i js R) (h : OpsE P G R ops n K rest ((d, .agg c) :: E) M) : OpsE P G R ops n K (⟨some d, .load T x, ty, pos, aft, none⟩ :: rest) E M :=
  fun _ _ ha hM => by
    obtain ⟨k, hk⟩ := hM.at hm
    exact st_loadA hT hn (hl ▸ hs) (ha.rd hx) hk (by obtain ⟨js, hjs⟩ := hX; exact okXL_not hM hm hjs) (h _ _ (ha.put hd _) hM)
theorem e_storeA {b i l : Nat} {c c' : Array Value} {t : TypeId} (hs : (P.info? T).map (·.size) = some l) (hx : rd E x = some (.pointer (some ⟨b, 0, none⟩))) (hy : rd E y = some (.agg c')) (hl : c'.size = l)
    (hv : ∀ v ∈ c', v.oneCell' = true) (hm : lkM M i = some ⟨b, c, t⟩) (ho : c'.size = c.size) (hX : R.X = [] ∨ b ∈ R.X) (h : OpsE P G R ops n K rest E ((i, some ⟨b, c', t⟩) :: M)) : OpsE P G R ops n K (⟨none, .store T x y, ty, pos, aft, none⟩ :: rest) E M :=
  fun _ _ ha hM => by
    obtain ⟨j, hj⟩ := hM.at hm
    exact st_storeA (hl ▸ hs) (ha.rd hx) (ha.rd hy) hv hj hX ho (h _ _ ha (hM.store hm hj _))
def rdp (E : Env) : List (Nat × Operand) → Option (List (Nat × Value))
  | [] => some []
  | (i, x) :: r => match rd E x, rdp E r with
    | some v, some vs => some ((i, v) :: vs)
    | _, _ => none
theorem Fits.rdp {a : Act} (h : Fits n E a) : ∀ {l : List (Nat × Operand)} {vs : List (Nat × Value)}, Ytnkelhmfpepehaa.rdp E l = some vs → l.map (fun p => (p.1, a.eval p.2)) = vs
  | [], vs, hl => by simpa [Ytnkelhmfpepehaa.rdp] using hl
  | (i, x) :: l, vs, hl => by
    unfold Ytnkelhmfpepehaa.rdp at hl
    split at hl
    · rename_i v ws h1 h2
      simp at hl
      subst hl
      rw [List.map_cons, h.rd h1, Fits.rdp h h2]
    · cases hl
theorem e_pickT {p q r : Operand} {t : Bool} {v : Value} (hc : rd E p = some (.bool t)) (ht : t = true) (hv : rd E q = some v) (hd : Nat.blt d n = true) (h : OpsE P G R ops n K rest ((d, v) :: E) M) :
    OpsE P G R ops n K (⟨some d, .pick p q r, ty, pos, aft, none⟩ :: rest) E M := fun _ _ ha hM => st_pick (ha.rd hc) (by rw [ht, if_pos rfl]; exact ha.rd hv) (h _ _ (ha.put hd _) hM)
theorem e_pickF {p q r : Operand} {t : Bool} {v : Value} (hc : rd E p = some (.bool t)) (ht : t = false) (hv : rd E r = some v) (hd : Nat.blt d n = true) (h : OpsE P G R ops n K rest ((d, v) :: E) M) :
    OpsE P G R ops n K (⟨some d, .pick p q r, ty, pos, aft, none⟩ :: rest) E M := fun _ _ ha hM => st_pick (ha.rd hc) (by rw [ht, if_neg (by decide)]; exact ha.rd hv) (h _ _ (ha.put hd _) hM)
theorem Fits.yielded {a : Act} (h : Fits n E a) {g s : Nat} {b : Bool} (hg : (ops[g]?).bind (·.dst) = some s) (hb : lk E s = some (.bool b)) : Go.yielded ops a.tmps g = some b := by
  unfold Go.yielded
  rw [hg]
  simp [h.slots _ _ hb]
theorem e_yes {dd : Option Tmp} {op : Op} {g s : Nat} {want b : Bool} (hg : (ops[g]?).bind (·.dst) = some s) (hb : lk E s = some (.bool b)) (hw : b = want) (h : OpsE P G R ops n K (⟨dd, op, ty, pos, aft, none⟩ :: rest) E M) :
    OpsE P G R ops n K (⟨dd, op, ty, pos, aft, some (g, want)⟩ :: rest) E M := fun a m ha hM => st_yes (by rw [← hw]; exact ha.yielded hg hb) (h a m ha hM)
theorem e_no {op : Op} {g s : Nat} {want b : Bool} (hg : (ops[g]?).bind (·.dst) = some s) (hb : lk E s = some (.bool b)) (hw : b ≠ want) (hd : Nat.blt d n = true) (h : OpsE P G R ops n K rest ((d, undef) :: E) M) :
    OpsE P G R ops n K (⟨some d, op, ty, pos, aft, some (g, want)⟩ :: rest) E M := fun _ _ ha hM => st_no (ha.yielded hg hb) hw (h _ _ (ha.put hd _) hM)
theorem e_eqB {p q : Bool} (hT : P.underlying T = some .bool) (hx : rd E x = some (.bool p)) (hy : rd E y = some (.bool q)) (hd : Nat.blt d n = true) (h : OpsE P G R ops n K rest ((d, .bool (p == q)) :: E) M) :
    OpsE P G R ops n K (⟨some d, .binOp .eql T x y T', ty, pos, aft, none⟩ :: rest) E M := fun _ _ ha hM => st_eqB hT (ha.rd hx) (ha.rd hy) (h _ _ (ha.put hd _) hM)
theorem e_as {l : List Oper} {s : Nat} {v v' : Value} (hv : v = v') (h : OpsE P G R ops n K l ((s, v') :: E) M) : OpsE P G R ops n K l ((s, v) :: E) M := by rw [hv]; exact h
theorem e_call {f : FuncId} {args : Array Operand} {tys : Array TypeId} {vs : List Value} {v : Value} (hargs : rdl E args.toList = some vs) (he : enters P f = true) (hF : Fn P G f vs.toArray v) (hd : Nat.blt d n = true) (hR : callOk R = true)
    (h : OpsE P G R ops n K rest ((d, v) :: E) M) : OpsE P G R ops n K (⟨some d, .call ⟨.value (.func f), args, tys⟩, ty, pos, aft, none⟩ :: rest) E M :=
  fun _ _ ha hM => st_call hR (ha.args hargs) he hF (h _ _ (ha.put hd _) hM)
def Res (P : Program) (E : Env) (M : Mm) : ResultVar → Value → Prop
  | .tmp t, v => lk E t = some v
  | .cell t T, v => ∃ (b i l : Nat) (c : Array Value) (t' : TypeId) (td : TypeDesc), lk E t = some (ptr b) ∧ lkM M i = some ⟨b, c, t'⟩ ∧ P.underlying T = some td ∧ rowLike td = true ∧ (P.info? T).map (·.size) = some l ∧ c.size = l ∧ v = .agg c
theorem Res.tmp {t : Nat} {v : Value} (h : lk E t = some v) : Res P E M (.tmp t) v := h
def resv (tmps : Array Value) : ResultVar → Sem Value
  | .tmp t => pure (tmps.getD t undef)
  | .cell c t => do loadVar t (← asAddr (tmps.getD c undef))
theorem results_eq (fn : Func) (tmps : Array Value) : results fn tmps = (do
  let vs ← fn.results.mapM (resv tmps)
  pure (if h : vs.size = 1 then vs[0] else .tuple vs)) := by
  unfold results
  congr 1
theorem res_run {a : Act} {m : Mem} (ha : Fits n E a) (hM : FitsM M m) {w : World} (hw : MemIn m w) {r : ResultVar} {v : Value} (h : Res P E M r v) : (resv a.tmps r).run P w = .ok v w := by
  cases r with
  | tmp t =>
    have h : lk E t = some v := h
    simp [resv, Array.getD_eq_getD_getElem?, ha.slots _ _ h]
  | cell t T =>
    obtain ⟨b, i, l, c, t', td, h, hm, hT, hn, hs, hl, rfl⟩ := h
    have hs := hl ▸ hs
    have hin := (hw _ (hM.has i _ hm)).read
    have := ha.slots _ _ h
    simp [resv, Array.getD_eq_getD_getElem?, this, ptr, asAddr, run_loadAll hin hT hn hs]
def End1 (P : Program) (fn : Func) (v : Value) : Exit → Env → Mm → Prop
  | .normal, E, M | .ret, E, M => ∃ r, fn.results = #[r] ∧ Res P E M r v
  | _, _, _ => False
theorem mapM1 {r : ResultVar} (f : ResultVar → Sem Value) : Array.mapM f #[r] = (do let v ← f r; pure #[v]) := by
  rw [Array.mapM_eq_mapM_toList]; simp
theorem fn1 {f : FuncId} {fn : Func} {c : Code} {args : Array Value} {v : Value} (hf : P.funcs[f]? = some fn) (hb : fn.body = some c) (hn : fn.ntmps = n) (ha : args.size ≤ n) (E : Env) (hE : ∀ t v, lk E t = some v → args[t]? = some v)
    (h : SatE P G c n (End1 P fn v) E []) : Fn P G f args v :=
  fn_of hf hb (sat_mono (h _ [] ⟨by simp [hn]; omega, rfl, fun t v ht => by
    have := hE t v ht
    have hlt := (Array.getElem?_eq_some_iff.1 this).1
    rw [Array.getElem?_append_left hlt]; exact this⟩ (FitsM.nil _)) fun e a m ⟨E', M', h1, h0, h2⟩ => by
      have key : (∃ r, fn.results = #[r] ∧ Res P E' M' r v) → a.defers = [] ∧ ∀ w, MemIn m w → (results fn a.tmps).run P w = .ok v w := fun ⟨r, hr, hR⟩ => ⟨h1.defers, fun w hw => by
        have := res_run h1 h0 hw hR
        rw [results_eq, hr, mapM1]
        simp [this]⟩
      cases e <;> first | exact key h2 | exact h2.elim)
def argE : List Value → Nat → Env
  | [], _ => []
  | v :: r, i => (i, v) :: argE r (i + 1)
theorem argE_lt : ∀ (l : List Value) (i t : Nat) (v : Value), lk (argE l i) t = some v → i ≤ t ∧ l[t - i]? = some v
  | [], _, _, _, h => by simp [argE, lk] at h
  | x :: l, i, t, v, h => by
    unfold argE at h
    rw [lk_cons] at h
    split at h
    · rename_i e; subst e; simpa using h
    · have := argE_lt l (i + 1) t v h
      refine ⟨by omega, ?_⟩
      have e : t - i = (t - (i + 1)) + 1 := by omega
      rw [e]; simpa using this.2
theorem argE_ok (l : List Value) : ∀ t v, lk (argE l 0) t = some v → l.toArray[t]? = some v := fun t v h => by
  have := (argE_lt l 0 t v h).2
  simpa using this
end
end Go.Proofs.Ytnkelhmfpepehaa
namespace Go.Proofs.Ytnkelhmfpepehaa
open Go Go.RowKit
variable {P : Program} {G : Mem} {R : Reg} {ops : Array Oper} {K : Act → Mem → Prop} {rest : List Oper} {a : Act} {m : Mem} {d : Option Tmp} {ty : TypeId} {pos : String} {aft : Array Edge}
variable {T T' : TypeId} {x y : Operand}
theorem add_off (b o j : Nat) : (⟨b, o, none⟩ : Addr).add j = ⟨b, o + j, none⟩ := by
  unfold Addr.add; split
  · rename_i h0; subst h0; rfl
  · simp
theorem run_loadCellsAt {w : World} {z : Blk} (hin : RIn w z) (o l : Nat) (ho : o + l ≤ z.c.size) : ∀ (n i : Nat) (acc : Array Value), i + n = l →
    (loadCellsFrom ⟨z.b, o, none⟩ i n acc).run P w = .ok (acc ++ z.c.extract (o + i) (o + l)) w
  | 0, i, acc, h => by
    have : i = l := by omega
    subst this
    simp [loadCellsFrom]
    omega
  | n + 1, i, acc, h => by
    have hi : o + i < z.c.size := by omega
    have hcell : w.cell? ((⟨z.b, o, none⟩ : Addr).add i) = some z.c[o + i] := by
      rw [add_off, hin.2 (o + i) hi]; simp [hi]
    unfold loadCellsFrom
    simp only [Sem.run_bind, run_load, hcell, Result.andThen_ok]
    rw [run_loadCellsAt hin o l ho n (i + 1) (acc.push z.c[o + i]) (by omega)]
    congr 1
    apply Array.ext
    · simp; omega
    · intro j h1 h2
      by_cases hj : j < acc.size
      · have hj2 : j < acc.size + 1 := by omega
        simp [hj, hj2, Array.getElem_push]
      · by_cases hj' : j = acc.size
        · subst hj'; simp
        · have : ¬ j < acc.size + 1 := by omega
          simp [Array.getElem_append, hj, this]
          congr 1; omega
theorem run_loadPart {w : World} {z : Blk} {td : TypeDesc} {o l : Nat} (hin : RIn w z) (hT : P.underlying T = some td) (hn : rowLike td = true) (hs : (P.info? T).map (·.size) = some l) (ho : o + l ≤ z.c.size) :
    (loadVar T ⟨z.b, o, none⟩).run P w = .ok (.agg (z.c.extract o (o + l))) w := by
  cases hi : P.info? T with
  | none => simp [hi] at hs
  | some i =>
    have hsz : i.size = l := by simpa [hi] using hs
    have := run_loadCellsAt (P := P) hin o l ho l 0 #[] (by omega)
    simp only [loadVar, loadCells, sizeOf, typeInfo]
    simp [run_isAgg hT, hn, hi, hsz, this]
theorem st_field {b o f sz : Nat} {fs : Array Field} {fd : Field} (hT : P.underlying T = some (.struct fs)) (hf : fs[f]? = some fd) (hs : (P.info? fd.type).map (·.size) = some (sz + 1)) (hx : a.eval x = .pointer (some ⟨b, o, none⟩))
    (h : opsM P G R ops K rest (a.put d (.pointer (some ⟨b, o + fd.offset, none⟩))) m) : opsM P G R ops K (⟨d, .fieldAddr T x f, ty, pos, aft, none⟩ :: rest) a m :=
  st_quiet (v := .pointer (some ⟨b, o + fd.offset, none⟩)) rfl rfl (fun w => by
    cases hi : P.info? fd.type with
    | none => simp [hi] at hs
    | some i =>
      have hsz : i.size = sz + 1 := by simpa [hi] using hs
      simp only [execOp, Instr.fieldAt, hx, underlying, program, Instr.sureAddr, fieldPlace, sizeOf, typeInfo]
      simp [Sem.run, hT, hf, hi, hsz, add_off]) h
end Go.Proofs.Ytnkelhmfpepehaa
namespace Go.Proofs.Ytnkelhmfpepehaa
end Go.Proofs.Ytnkelhmfpepehaa
namespace Go.Proofs.Ytnkelhmfpepehaa
end Go.Proofs.Ytnkelhmfpepehaa
namespace Go.Proofs.Ytnkelhmfpepehaa
end Go.Proofs.Ytnkelhmfpepehaa
namespace Go.Proofs.Ytnkelhmfpepehaa
end Go.Proofs.Ytnkelhmfpepehaa
namespace Go.Proofs.Ytnkelhmfpepehaa
open Go Go.RowKit
variable {P : Program} {G : Mem} {R : Reg} {ops : Array Oper} {n : Nat} {K : Env → Mm → Prop} {rest : List Oper} {E : Env} {M : Mm} {d : Nat} {ty : TypeId} {pos : String} {aft : Array Edge}
variable {T T' : TypeId} {x y : Operand}
end Go.Proofs.Ytnkelhmfpepehaa
namespace Go.Proofs.Ytnkelhmfpepehaa
open Go Go.RowKit
variable {P : Program} {G : Mem} {R : Reg} {ops : Array Oper} {K : Act → Mem → Prop} {rest : List Oper} {a : Act} {m : Mem} {d : Option Tmp} {ty : TypeId} {pos : String} {aft : Array Edge}
variable {T T' : TypeId} {x y : Operand}
end Go.Proofs.Ytnkelhmfpepehaa
namespace Go.Proofs.Ytnkelhmfpepehaa
open Go Go.RowKit
variable {P : Program} {G : Mem} {R : Reg} {ops : Array Oper} {n : Nat} {K : Env → Mm → Prop} {rest : List Oper} {E : Env} {M : Mm} {d : Nat} {ty : TypeId} {pos : String} {aft : Array Edge}
variable {T T' : TypeId} {x y : Operand}
theorem e_fld (o' : Nat) {b o f sz : Nat} {fs : Array Field} {fd : Field} (hT : P.underlying T = some (.struct fs)) (hf : fs[f]? = some fd) (hs : (P.info? fd.type).map (·.size) = some (sz + 1)) (hx : rd E x = some (.pointer (some ⟨b, o, none⟩)))
    (ho : o + fd.offset = o') (hd : Nat.blt d n = true) (h : OpsE P G R ops n K rest ((d, .pointer (some ⟨b, o', none⟩)) :: E) M) : OpsE P G R ops n K (⟨some d, .fieldAddr T x f, ty, pos, aft, none⟩ :: rest) E M :=
  fun _ _ ha hM => st_field hT hf hs (ha.rd hx) (by rw [ho]; exact h _ _ (ha.put hd _) hM)
end Go.Proofs.Ytnkelhmfpepehaa
namespace Go.Proofs.Ytnkelhmfpepehaa
open Go Go.RowKit
variable {P : Program} {G : Mem} {R : Reg} {ops : Array Oper} {K : Act → Mem → Prop} {rest : List Oper} {a : Act} {m : Mem} {d : Option Tmp} {ty : TypeId} {pos : String} {aft : Array Edge}
variable {T T' : TypeId} {x y : Operand}
theorem st_buildSl {zv : Value} {len z : Nat} {e : TypeId} {parts : Array (Nat × Operand)} {pv : List (Nat × Value)} {c : Array Value} (hT : P.underlying T = some (.slice e)) (hs : (P.info? e).map (·.size) = some z) (hz : (P.info? e).bind (·.zero) = some zv)
    (h0 : len * z ≠ 0) (h1 : len * z ≤ 16777216) (hp : parts.toList.map (fun p => (p.1, a.eval p.2)) = pv) (hf : Instr.fill (fun i => some (i * z, z)) ((Array.range (len * z)).map (zv.cells[· % zv.cells.size]!)) pv = some c)
    (h : ∀ r, (∀ x ∈ m, x.b ≠ r) → opsM P G R ops K rest (a.put d (.slice (some ⟨r, 0, none⟩) len len)) (m ++ [⟨r, c, e⟩])) : opsM P G R ops K (⟨d, .buildSlice T len parts, ty, pos, aft, none⟩ :: rest) a m :=
  .inr ⟨rfl, c, e, fun r => .slice (some ⟨r, 0, none⟩) len len, fun w => by
    cases hi : P.info? e with
    | none => simp [hi] at hz
    | some j =>
      have hz' : j.zero = some zv := by simpa [hi] using hz
      have hsz : j.size = z := by simpa [hi] using hs
      have hp' : (parts.map fun (i, x) => (i, a.eval x)).toList = pv := by rw [← hp]; simp
      have h2 : ¬ len * z > 2 ^ 24 := by omega
      simp only [execOp, Instr.buildSlice, zeroValue, typeInfo, underlying, program, sizeOf, newRow, newObj]
      simp only [hp']
      simp [Sem.run, hT, hi, hz', hsz, h0, h2, hf], h⟩
theorem st_indexSl {b o j len cap z : Nat} {k : IntKind} {e : TypeId} (hT : P.underlying T = some (.slice e)) (hs : (P.info? e).map (·.size) = some (z + 1)) (hx : a.eval x = .slice (some ⟨b, o, none⟩) len cap) (hy : a.eval y = .int k (j : Int)) (hj : j < len)
    (h : opsM P G R ops K rest (a.put d (.pointer (some ⟨b, o + j * (z + 1), none⟩))) m) : opsM P G R ops K (⟨d, .indexAddr T x y, ty, pos, aft, none⟩ :: rest) a m :=
  st_quiet (v := .pointer (some ⟨b, o + j * (z + 1), none⟩)) rfl rfl (fun w => by
    cases hi : P.info? e with
    | none => simp [hi] at hs
    | some i =>
      have hsz : i.size = z + 1 := by simpa [hi] using hs
      have h0 : (0 : Int) ≤ j ∧ (j : Int) < len := by omega
      simp only [execOp, Instr.indexAt, hx, hy, asIntOf, underlying, program, sizeOf, typeInfo]
      simp [Sem.run, hT, hi, hsz, add_off, hj]) h
end Go.Proofs.Ytnkelhmfpepehaa
namespace Go.Proofs.Ytnkelhmfpepehaa
open Go Go.RowKit
variable {P : Program} {G : Mem} {R : Reg} {ops : Array Oper} {n : Nat} {K : Env → Mm → Prop} {rest : List Oper} {E : Env} {M : Mm} {d : Nat} {ty : TypeId} {pos : String} {aft : Array Edge}
variable {T T' : TypeId} {x y : Operand}
theorem e_buildSl (i : Nat) {zv : Value} {len z : Nat} {e : TypeId} {parts : Array (Nat × Operand)} {pv : List (Nat × Value)} (c : Array Value) (hT : P.underlying T = some (.slice e)) (hs : (P.info? e).map (·.size) = some z) (hz : (P.info? e).bind (·.zero) = some zv)
    (h0 : len * z ≠ 0) (h1 : len * z ≤ 16777216) (hp : rdp E parts.toList = some pv) (hf : Instr.fill (fun i => some (i * z, z)) ((Array.range (len * z)).map (zv.cells[· % zv.cells.size]!)) pv = some c) (hd : Nat.blt d n = true)
    (h : ∀ r, OpsE P G R ops n K rest ((d, .slice (some ⟨r, 0, none⟩) len len) :: E) ((i, some ⟨r, c, e⟩) :: M)) : OpsE P G R ops n K (⟨some d, .buildSlice T len parts, ty, pos, aft, none⟩ :: rest) E M :=
  fun _ _ ha hM => st_buildSl hT hs hz h0 h1 (ha.rdp hp) hf fun r hr => h r _ _ (ha.put hd _) (hM.alloc i ⟨r, c, e⟩ hr)
theorem e_atSl (o' : Nat) {b o j len cap z : Nat} {k : IntKind} {e : TypeId} (hT : P.underlying T = some (.slice e)) (hs : (P.info? e).map (·.size) = some (z + 1)) (hx : rd E x = some (.slice (some ⟨b, o, none⟩) len cap)) (hy : rd E y = some (.int k (j : Int))) (hj : j < len) (ho : o + j * (z + 1) = o')
    (hd : Nat.blt d n = true) (h : OpsE P G R ops n K rest ((d, .pointer (some ⟨b, o', none⟩)) :: E) M) : OpsE P G R ops n K (⟨some d, .indexAddr T x y, ty, pos, aft, none⟩ :: rest) E M :=
  fun _ _ ha hM => st_indexSl hT hs (ha.rd hx) (ha.rd hy) hj (by rw [ho]; exact h _ _ (ha.put hd _) hM)
end Go.Proofs.Ytnkelhmfpepehaa
namespace Go.Proofs.Ytnkelhmfpepehaa
open Go Go.RowKit
variable {P : Program} {G : Mem} {R : Reg} {ops : Array Oper} {K : Act → Mem → Prop} {rest : List Oper} {a : Act} {m : Mem} {d : Option Tmp} {ty : TypeId} {pos : String} {aft : Array Edge}
variable {T T' : TypeId} {x y : Operand}
def bstr (l : List Nat) : ByteArray := ⟨(l.map UInt8.ofNat).toArray⟩
abbrev sv (l : List Nat) : Value := .string (bstr l)
theorem bstr_size (l : List Nat) : (bstr l).size = l.length := by simp [bstr, ByteArray.size]
end Go.Proofs.Ytnkelhmfpepehaa
namespace Go.Proofs.Ytnkelhmfpepehaa
open Go Go.RowKit
variable {P : Program} {G : Mem} {R : Reg} {ops : Array Oper} {K : Act → Mem → Prop} {rest : List Oper} {a : Act} {m : Mem} {d : Option Tmp} {ty : TypeId} {pos : String} {aft : Array Edge}
variable {T T' : TypeId} {x y : Operand}
def Shows (B : Mem) (z : Nat) (v : Value) (n : Nat) (xs : List Value) : Prop :=
  (n = 0 ∧ xs = [] ∧ ∃ oa cap, v = .slice oa 0 cap ∧ (oa = none → cap = 0)) ∨ ∃ b o cap c t, v = .slice (some ⟨b, o, none⟩) n cap ∧ n ≤ cap ∧ (⟨b, c, t⟩ : Blk) ∈ B ∧ xs.length = n * z ∧ o + n * z ≤ c.size ∧ ∀ j u, xs[j]? = some u → c[o + j]? = some u
def slAddr (v : Value) (j : Nat) : Value := match v with
  | .slice (some ⟨b, o, s⟩) _ _ => .pointer (some ⟨b, o + j, s⟩)
  | _ => undef
theorem Shows.len {B : Mem} {z n : Nat} {v : Value} {xs : List Value} (h : Shows B z v n xs) : xs.length = n * z := by
  rcases h with ⟨rfl, rfl, _⟩ | ⟨b, o, cap, c, t, _, _, _, h, _⟩
  · simp
  · exact h
theorem Shows.mono {B B' : Mem} {z n : Nat} {v : Value} {xs : List Value} (h : Shows B z v n xs) (hs : ∀ x ∈ B, x ∈ B') : Shows B' z v n xs := by
  rcases h with h | ⟨b, o, cap, c, t, h1, h2, h3, h4⟩
  · exact .inl h
  · exact .inr ⟨b, o, cap, c, t, h1, h2, hs _ h3, h4⟩
def Seen (G : Mem) (R : Reg) (m B : Mem) : Prop := ∀ z ∈ B, z ∈ G ∨ (z ∈ m ∧ z.b ∉ R.X ∧ inL R.L z.b)
theorem Seen.rin {B : Mem} (h : Seen G R m B) {w : World} (hG : MemR G w) (hm : vis R m w) {z : Blk} (hz : z ∈ B) : RIn w z := by
  rcases h z hz with h1 | ⟨h1, h2⟩
  · exact hG z h1
  · exact (hm z h1 h2).read
theorem st_value {b : Builtin} {args : Array Operand} {tys : Array TypeId} {v : Value} (hc : cls R ⟨d, .call ⟨.builtin b, args, tys⟩, ty, pos, aft, none⟩ = 0) (_hR : callOk R = true) (hr : ∀ w, (execOp a.eval ⟨d, .call ⟨.builtin b, args, tys⟩, ty, pos, aft, none⟩).run P w = .ok (.value v) w) (h : opsM P G R ops K rest (a.put d v) m) :
    opsM P G R ops K (⟨d, .call ⟨.builtin b, args, tys⟩, ty, pos, aft, none⟩ :: rest) a m :=
  .inr ⟨rfl, by rw [hc]; exact ⟨v, hr, h⟩⟩
theorem st_lenS {e : TypeId} {v : Value} {B : Mem} {z n : Nat} {xs : List Value} (hR : callOk R = true) (hT : P.underlying T = some (.slice e)) (hx : a.eval x = v) (hv : Shows B z v n xs) (h : opsM P G R ops K rest (a.put d (ii n)) m) :
    opsM P G R ops K (⟨d, .call ⟨.builtin .len, #[x], #[T]⟩, ty, pos, aft, none⟩ :: rest) a m :=
  st_value rfl hR (fun w => by
    have : (Builtin.len_ #[T] ty #[v]).run P w = .ok (ii n) w := by
      rcases hv with ⟨rfl, _, oa, cap, rfl, _⟩ | ⟨b, o, cap, c, t, rfl, _⟩ <;> simp [Builtin.len_, run_underlying hT, goInt]
    simp only [execOp, resolve, invoke, builtin, Sem.run_bind, Sem.run_pure, Result.andThen_ok, List.map_toArray, List.map_cons, List.map_nil, hx, this]) h
theorem st_atV {e : TypeId} {k : IntKind} {v : Value} {B : Mem} {z n j : Nat} {xs : List Value} (hT : P.underlying T = some (.slice e)) (hs : (P.info? e).map (·.size) = some z) (hx : a.eval x = v) (hy : a.eval y = .int k (j : Int)) (hv : Shows B z v n xs) (hj : j < n)
    (h : opsM P G R ops K rest (a.put d (slAddr v (j * z))) m) : opsM P G R ops K (⟨d, .indexAddr T x y, ty, pos, aft, none⟩ :: rest) a m :=
  st_quiet (v := slAddr v (j * z)) rfl rfl (fun w => by
    rcases hv with ⟨rfl, _⟩ | ⟨b, o, cap, c, t, rfl, _⟩
    · omega
    · cases hi : P.info? e with
      | none => simp [hi] at hs
      | some i =>
        have hsz : i.size = z := by simpa [hi] using hs
        have h0 : (0 : Int) ≤ j ∧ (j : Int) < n := by omega
        simp only [execOp, Instr.indexAt, hx, hy, asIntOf, underlying, program, sizeOf, typeInfo]
        simp [Sem.run, hT, hi, hsz, add_off, hj, slAddr]) h
end Go.Proofs.Ytnkelhmfpepehaa
namespace Go.Proofs.Ytnkelhmfpepehaa
open Go Go.RowKit
variable {P : Program} {G : Mem} {R : Reg} {ops : Array Oper} {K : Act → Mem → Prop} {rest : List Oper} {a : Act} {m : Mem} {d : Option Tmp} {ty : TypeId} {pos : String} {aft : Array Edge}
variable {T T' : TypeId} {x y : Operand}
end Go.Proofs.Ytnkelhmfpepehaa
namespace Go.Proofs.Ytnkelhmfpepehaa
open Go Go.RowKit
section
variable {P : Program} {G : Mem} {R : Reg} {ops : Array Oper} {n : Nat} {K : Env → Mm → Prop} {rest : List Oper} {E : Env} {M : Mm} {d : Nat} {ty : TypeId} {pos : String} {aft : Array Edge}
variable {T T' : TypeId} {x y : Operand}
def SeenE (G : Mem) (R : Reg) (M : Mm) (B : Mem) : Prop := ∀ z ∈ B, z ∈ G ∨ ∃ i, lkM M i = some z ∧ ∃ js, okXL M i js R
theorem SeenE.seen {B : Mem} (h : SeenE G R M B) {m : Mem} (hM : FitsM M m) : Seen G R m B := fun z hz => by
  rcases h z hz with h1 | ⟨i, h1, js, h2⟩
  · exact .inl h1
  · exact .inr ⟨hM.has i z h1, okXL_not hM h1 h2⟩
theorem seenG : SeenE G R M G := fun _ hz => .inl hz
theorem e_lenV {e : TypeId} {v : Value} {B : Mem} {z k : Nat} {xs : List Value} (hv : Shows B z v k xs) (hT : P.underlying T = some (.slice e)) (hx : rd E x = some v) (hd : Nat.blt d n = true) (hR : callOk R = true) (h : OpsE P G R ops n K rest ((d, ii k) :: E) M) :
    OpsE P G R ops n K (⟨some d, .call ⟨.builtin .len, #[x], #[T]⟩, ty, pos, aft, none⟩ :: rest) E M := fun _ _ ha hM => st_lenS hR hT (ha.rd hx) hv (h _ _ (ha.put hd _) hM)
theorem e_atV {e : TypeId} {k : IntKind} {v : Value} {B : Mem} {z l j : Nat} {xs : List Value} (hv : Shows B z v l xs) (hT : P.underlying T = some (.slice e)) (hs : (P.info? e).map (·.size) = some z) (hx : rd E x = some v) (hy : rd E y = some (.int k (j : Int))) (hj : j < l) (hd : Nat.blt d n = true)
    (h : OpsE P G R ops n K rest ((d, slAddr v (j * z)) :: E) M) : OpsE P G R ops n K (⟨some d, .indexAddr T x y, ty, pos, aft, none⟩ :: rest) E M := fun _ _ ha hM => st_atV hT hs (ha.rd hx) (ha.rd hy) hv hj (h _ _ (ha.put hd _) hM)
theorem FitsM.change {m m' : Mem} (hM : FitsM M m) (i : Nat) {oz : Option Blk} (h1 : ∀ j x, j ≠ i → lkM M j = some x → x ∈ m') (h2 : ∀ z, oz = some z → z ∈ m' ∧ ∀ j x, j ≠ i → lkM M j = some x → x.b ≠ z.b) : FitsM ((i, oz) :: M) m' := by
  refine ⟨fun j x hx => ?_, fun j k x z hx hz hne => ?_⟩
  · rw [lkM_cons] at hx
    split at hx
    · exact (h2 x hx).1
    · rename_i hne; exact h1 j x (fun e => hne e.symm) hx
  · rw [lkM_cons] at hx hz
    split at hx
    · split at hz
      · rename_i e1 e2; exact absurd (e1.symm.trans e2) hne
      · rename_i e2; exact fun e => (h2 x hx).2 k z (fun e' => e2 e'.symm) hz e.symm
    · split at hz
      · rename_i e1 _; exact (h2 z hz).2 j x (fun e' => e1 e'.symm) hx
      · exact hM.apart j k x z hx hz hne
end
section
variable {P : Program} {G : Mem} {n : Nat}
end
end Go.Proofs.Ytnkelhmfpepehaa
namespace Go.Proofs.Ytnkelhmfpepehaa
open Go Go.RowKit
def arrv (n : Nat) (F : Nat → Value) : Array Value := ((List.range n).map F).toArray
theorem arrv_size (n : Nat) (F : Nat → Value) : (arrv n F).size = n := by simp [arrv]
theorem arrv_get {n j : Nat} {F : Nat → Value} (h : j < n) : (arrv n F)[j]? = some (F j) := by simp [arrv, h]
section
variable {P : Program} {G : Mem} {R : Reg} {ops : Array Oper} {K : Act → Mem → Prop} {rest : List Oper} {a : Act} {m : Mem} {d : Option Tmp} {ty : TypeId} {pos : String} {aft : Array Edge}
variable {T T' : TypeId} {x y : Operand}
end
section
variable {P : Program} {G : Mem} {R : Reg} {ops : Array Oper} {n : Nat} {K : Env → Mm → Prop} {rest : List Oper} {E : Env} {M : Mm} {d : Nat} {ty : TypeId} {pos : String} {aft : Array Edge}
variable {T T' : TypeId} {x y : Operand}
end
end Go.Proofs.Ytnkelhmfpepehaa
namespace Go.Proofs.Ytnkelhmfpepehaa
open Go Go.RowKit
abbrev Part := Nat × (Nat → Value)
def catF : List Part → Nat → Value
  | [], _ => .bool false
  | p :: ps, i => if i < p.1 then p.2 i else catF ps (i - p.1)
def catA0 : List Part → Nat → Option (Nat × Part)
  | [], _ => none
  | p :: _, 0 => some (0, p)
  | p :: ps, k + 1 => match catA0 ps k with
    | none => none
    | some q => some (p.1 + q.1, q.2)
def catGo : List Part → Nat → Nat → Option (Nat × Part)
  | [], _, _ => none
  | p :: _, 0, a => some (a, p)
  | p :: ps, k + 1, a => catGo ps k (a + p.1)
abbrev catAt (ps : List Part) (k : Nat) : Option (Nat × Part) := catGo ps k 0
theorem catGo_eq : ∀ (ps : List Part) (k a : Nat), catGo ps k a = (catA0 ps k).map fun q => (a + q.1, q.2)
  | [], _, _ => rfl
  | _ :: _, 0, _ => rfl
  | p :: ps, k + 1, a => by
    rw [catGo, catA0, catGo_eq ps k]
    cases catA0 ps k with
    | none => rfl
    | some q => simp [Nat.add_assoc]
theorem catAt_old {ps : List Part} {k : Nat} {q : Nat × Part} (h : catAt ps k = some q) : catA0 ps k = some q := by
  unfold catAt at h
  rw [catGo_eq] at h
  cases hc : catA0 ps k with
  | none => rw [hc] at h; cases h
  | some x =>
    rw [hc] at h
    simp at h
    rw [← h]
def catOk : List Part → Prop
  | [] => True
  | p :: ps => (∀ i, (p.2 i).oneCell' = true) ∧ catOk ps
abbrev pV (v : Value) : Part := (1, fun _ => v)
abbrev cells (N : Nat) (ps : List Part) : Array Value := arrv N (catF ps)
theorem cat_part0 : ∀ {ps : List Part} {k o l : Nat} {F : Nat → Value}, catA0 ps k = some (o, l, F) → ∀ t, t < l → catF ps (o + t) = F t
  | [], _, _, _, _, h, _, _ => by simp [catA0] at h
  | p :: ps, 0, o, l, F, h, t, ht => by
    simp only [catA0, Option.some.injEq, Prod.mk.injEq] at h
    obtain ⟨rfl, rfl⟩ := h
    simp [catF, ht]
  | p :: ps, k + 1, o, l, F, h, t, ht => by
    simp only [catA0] at h
    cases hq : catA0 ps k with
    | none => simp [hq] at h
    | some q =>
      obtain ⟨o', l', F'⟩ := q
      simp only [hq, Option.some.injEq, Prod.mk.injEq] at h
      obtain ⟨rfl, rfl, rfl⟩ := h
      have := cat_part0 hq t ht
      simp only [catF]
      rw [if_neg (by omega), show p.1 + o' + t - p.1 = o' + t by omega, this]
theorem cat_part {ps : List Part} {k o l : Nat} {F : Nat → Value} (h : catAt ps k = some (o, l, F)) : ∀ t, t < l → catF ps (o + t) = F t := cat_part0 (catAt_old h)
theorem cat_one : ∀ {ps : List Part}, catOk ps → ∀ i, (catF ps i).oneCell' = true
  | [], _, _ => rfl
  | p :: ps, h, i => by
    simp only [catF]
    split
    · exact h.1 _
    · exact cat_one h.2 _
theorem cells_one {N : Nat} {ps : List Part} (h : catOk ps) : ∀ v ∈ cells N ps, v.oneCell' = true := fun v hv => by
  simp [cells, arrv] at hv
  obtain ⟨i, _, rfl⟩ := hv
  exact cat_one h i
theorem cells_sz {N : Nat} {ps qs : List Part} : (cells N ps).size = (cells N qs).size := by rw [arrv_size, arrv_size]
section
variable {P : Program} {G : Mem} {R : Reg} {ops : Array Oper} {n : Nat} {K : Env → Mm → Prop} {rest : List Oper} {E : Env} {M : Mm} {d : Nat} {ty : TypeId} {pos : String} {aft : Array Edge}
variable {T T' : TypeId} {x y : Operand}
theorem e_ldV1 (k : Nat) {b i o N : Nat} {v : Value} {ps : List Part} {t : TypeId} {td : TypeDesc} (hT : P.underlying T = some td) (hn : rowLike td = false)
    (hx : rd E x = some (.pointer (some ⟨b, o, none⟩))) (hm : lkM M i = some ⟨b, cells N ps, t⟩) (hk : catAt ps k = some (o, pV v)) (hN : o < N) (hd : Nat.blt d n = true) (hX : ∃ js, okXL M i js R) (h : OpsE P G R ops n K rest ((d, v) :: E) M) :
    OpsE P G R ops n K (⟨some d, .load T x, ty, pos, aft, none⟩ :: rest) E M :=
  e_load1 (v := v) hT hn hx hm (by have := cat_part hk 0 (by decide); rw [Nat.add_zero] at this; rw [cells, arrv_get hN, this]) hd hX h
end
section
variable {P : Program} {G : Mem} {R : Reg} {ops : Array Oper} {n : Nat} {K : Env → Mm → Prop} {rest : List Oper} {E : Env} {M : Mm} {d : Nat} {ty : TypeId} {pos : String} {aft : Array Edge}
theorem e_no2 {op : Op} {g s : Nat} {want : Bool} (hg : (ops[g]?).bind (·.dst) = some s) (hb : lk E s = some undef) (hd : Nat.blt d n = true) (h : OpsE P G R ops n K rest ((d, undef) :: E) M) :
    OpsE P G R ops n K (⟨some d, op, ty, pos, aft, some (g, want)⟩ :: rest) E M := fun a m ha hM => .inl ⟨by
      have hy : Go.yielded ops a.tmps g = none := by
        unfold Go.yielded
        rw [hg]
        simp [ha.slots _ _ hb, undef]
      simp [Region.wanted, hy], h _ _ (ha.put hd _) hM⟩
end
end Go.Proofs.Ytnkelhmfpepehaa
namespace Go.Proofs.Ytnkelhmfpepehaa
open Go Go.RowKit
section
variable {P : Program} {G : Mem} {R : Reg} {ops : Array Oper} {K : Act → Mem → Prop} {rest : List Oper} {a : Act} {m : Mem} {d : Option Tmp} {ty : TypeId} {pos : String} {aft : Array Edge}
variable {T T' : TypeId} {x y : Operand}
end
section
variable {P : Program} {G : Mem} {R : Reg} {ops : Array Oper} {n : Nat} {K : Env → Mm → Prop} {rest : List Oper} {E : Env} {M : Mm} {d : Nat} {ty : TypeId} {pos : String} {aft : Array Edge}
variable {T T' : TypeId} {x y : Operand}
end
section
variable {P : Program}
end
section
variable {P : Program} {G : Mem} {R : Reg} {ops : Array Oper} {n : Nat} {K : Env → Mm → Prop} {rest : List Oper} {E : Env} {M : Mm} {d : Nat} {ty : TypeId} {pos : String} {aft : Array Edge}
variable {T T' : TypeId} {x y : Operand}
end
end Go.Proofs.Ytnkelhmfpepehaa
namespace Go.Proofs.Ytnkelhmfpepehaa
open Go Go.RowKit
section
variable {P : Program} {G : Mem} {R : Reg} {ops : Array Oper} {K : Act → Mem → Prop} {rest : List Oper} {a : Act} {m : Mem} {d : Option Tmp} {ty : TypeId} {pos : String} {aft : Array Edge}
variable {T T' : TypeId} {x y : Operand}
end
section
variable {P : Program} {G : Mem} {R : Reg} {ops : Array Oper} {n : Nat} {K : Env → Mm → Prop} {rest : List Oper} {E : Env} {M : Mm} {d : Nat} {ty : TypeId} {pos : String} {aft : Array Edge}
variable {T T' : TypeId} {x y : Operand}
end
end Go.Proofs.Ytnkelhmfpepehaa
namespace Go.Proofs.Ytnkelhmfpepehaa
open Go Go.RowKit
def catE : Env → Env → Env
  | [], F => F
  | x :: E, F => x :: catE E F
def catL : Mm → Mm → Mm
  | [], F => F
  | x :: E, F => x :: catL E F
section
variable {P : Program} {G : Mem} {R : Reg} {ops : Array Oper} {n : Nat} {K : Env → Mm → Prop} {Q : Exit → Env → Mm → Prop} {rest : List Oper} {E : Env} {M : Mm} {d : Nat} {ty : TypeId} {pos : String} {aft : Array Edge}
variable {T T' : TypeId} {x y : Operand}
theorem e_loopK {c : Code} (Ek : Env) (Mk : Mm) (I : Nat → Env → Mm → Prop) (E0 : Env) (M0 : Mm) (k : Nat) (hs : sub (catE E0 Ek) E) (hl : subL (catL M0 Mk) M) (h0 : I k E0 M0)
    (round : ∀ k E M, I k E M → SatE P G c n (thenE (fun E' M' => ∃ k' E'' M'', k' < k ∧ sub (catE E'' Ek) E' ∧ subL (catL M'' Mk) M' ∧ I k' E'' M'') Q) (catE E Ek) (catL M Mk)) : SatE P G (.loop c) n Q E M :=
  e_loop (fun k E M => ∃ E1 M1, E = catE E1 Ek ∧ M = catL M1 Mk ∧ I k E1 M1) (catE E0 Ek) (catL M0 Mk) k hs hl ⟨_, _, rfl, rfl, h0⟩ fun k E M ⟨E1, M1, e1, e2, hI⟩ => by
    subst e1 e2
    intro a m ha hM
    refine sat_mono (round k E1 M1 hI a m ha hM) fun e a' m' ⟨E', M', h1, h2, h3⟩ => ⟨E', M', h1, h2, ?_⟩
    cases e with
    | normal =>
      obtain ⟨k', E'', M'', q1, q2, q3, q4⟩ := h3
      exact ⟨k', _, _, q1, q2, q3, _, _, rfl, rfl, q4⟩
    | _ => exact h3
theorem e_sub_in {p q : Nat} (hx : rd E x = some (ii p)) (hy : rd E y = some (ii q)) (hd : Nat.blt d n = true) (hb : p < 9223372036854775808) (hq : q ≤ p) (h : OpsE P G R ops n K rest ((d, ii (p - q)) :: E) M) :
    OpsE P G R ops n K (⟨some d, .binOp .sub T x y T', ty, pos, aft, none⟩ :: rest) E M := e_sub_z hx hy hd (by omega) (by omega) (by rw [show (p : Int) - (q : Int) = ((p - q : Nat) : Int) by omega]; exact h)
end
end Go.Proofs.Ytnkelhmfpepehaa
namespace Go.Proofs.Ytnkelhmfpepehaa
open Go Go.RowKit
section
variable {P : Program} {G : Mem} {R : Reg} {ops : Array Oper} {K : Act → Mem → Prop} {rest : List Oper} {a : Act} {m : Mem} {d : Option Tmp} {ty : TypeId} {pos : String} {aft : Array Edge}
variable {T T' : TypeId} {x y : Operand}
end
section
variable {P : Program} {G : Mem} {R : Reg} {ops : Array Oper} {n : Nat} {K : Env → Mm → Prop} {rest : List Oper} {E : Env} {M : Mm} {d : Nat} {ty : TypeId} {pos : String} {aft : Array Edge}
variable {T T' : TypeId} {x y : Operand}
theorem e_callS {g' : Mem} {fo : Operand} {f : FuncId} {args : Array Operand} {tys : Array TypeId} {vs cap : List Value} {v : Value} (hf : rd E fo = some (.func (.func f) #[] cap.toArray)) (hargs : rdl E args.toList = some vs) (he : enters P f = true) (hg : SeenE G R M g')
    (hF : Fn P g' f (vs ++ cap).toArray v) (hd : Nat.blt d n = true) (hR : callOk R = true) (h : OpsE P G R ops n K rest ((d, v) :: E) M) : OpsE P G R ops n K (⟨some d, .call ⟨.value fo, args, tys⟩, ty, pos, aft, none⟩ :: rest) E M :=
  fun _ _ ha hM => st_callV hR (ha.rd hf) (ha.args hargs) he (fun w hG hm => by
    have := hF w (fun z hz => (hg.seen hM).rin hG hm hz)
    simpa using this) (h _ _ (ha.put hd _) hM)
end
end Go.Proofs.Ytnkelhmfpepehaa
namespace Go.Proofs.Ytnkelhmfpepehaa
open Go Go.RowKit
section
variable {P : Program}
end
end Go.Proofs.Ytnkelhmfpepehaa
namespace Go.Proofs.Ytnkelhmfpepehaa
open Go Go.RowKit
section
variable {P : Program} {G : Mem} {R : Reg} {ops : Array Oper} {K : Act → Mem → Prop} {rest : List Oper} {a : Act} {m : Mem} {d : Option Tmp} {ty : TypeId} {pos : String} {aft : Array Edge}
variable {T T' : TypeId} {x y : Operand}
end
variable {P : Program} {G : Mem} {R : Reg} {ops : Array Oper} {n : Nat} {K : Env → Mm → Prop} {rest : List Oper} {E : Env} {M : Mm} {d : Nat} {ty : TypeId} {pos : String} {aft : Array Edge}
variable {T T' : TypeId} {x y : Operand}
end Go.Proofs.Ytnkelhmfpepehaa
namespace Go.Proofs.Ytnkelhmfpepehaa
open Go Go.RowKit
section
variable {P : Program} {G : Mem} {n : Nat}
end
section
variable {P : Program} {G : Mem} {R : Reg} {ops : Array Oper} {K : Act → Mem → Prop} {rest : List Oper} {a : Act} {m : Mem} {d : Option Tmp} {ty : TypeId} {pos : String} {aft : Array Edge}
variable {T T' : TypeId} {x y : Operand}
theorem Shows.cells {z n o : Nat} {c : Array Value} {xs : List Value} {j l : Nat} (hl : xs.length = n * z) (ho : o + n * z ≤ c.size) (hc : ∀ j u, xs[j]? = some u → c[o + j]? = some u) (hj : j + l ≤ xs.length) : c.extract (o + j) (o + j + l) = ((xs.drop j).take l).toArray := by
  apply Array.ext_getElem?
  intro i
  by_cases hi : i < l
  · have h1 : (xs.drop j)[i]? = xs[j + i]? := List.getElem?_drop
    have h2 : xs[j + i]? = some xs[j + i] := List.getElem?_eq_getElem (by omega)
    have h3 := hc (j + i) _ h2
    have hL : (c.extract (o + j) (o + j + l))[i]? = some xs[j + i] := by rw [Array.getElem?_extract, if_pos (by omega), show o + j + i = o + (j + i) by omega, h3]
    have hR : ((xs.drop j).take l).toArray[i]? = some xs[j + i] := by rw [List.getElem?_toArray, List.getElem?_take_of_lt hi, h1, h2]
    rw [hL, hR]
  · rw [Array.getElem?_eq_none (by simp; omega), Array.getElem?_eq_none (by simp; omega)]
theorem st_loadVS {td : TypeDesc} {v : Value} {B : Mem} {n j l z : Nat} {xs : List Value} (hB : Seen G R m B) (hT : P.underlying T = some td) (hn : rowLike td = true) (hs : (P.info? T).map (·.size) = some l) (hx : a.eval x = slAddr v j) (hv : Shows B z v n xs) (hl : 0 < l) (hj : j + l ≤ xs.length)
    (h : opsM P G R ops K rest (a.put d (.agg ((xs.drop j).take l).toArray)) m) : opsM P G R ops K (⟨d, .load T x, ty, pos, aft, none⟩ :: rest) a m :=
  .inr ⟨rfl, .agg ((xs.drop j).take l).toArray, fun w hG hm => .inl (by
    rcases hv with ⟨_, rfl, _⟩ | ⟨b, o, cap, c, t, rfl, _, hb, hlx, ho, hc⟩
    · simp at hj; omega
    · have hin := hB.rin hG hm hb
      have e := Shows.cells hlx ho hc hj
      have hsz : o + j + l ≤ c.size := by omega
      simp only [execOp, Instr.loadAt, hx, slAddr, Instr.sureAddr]
      simp [run_loadPart hin hT hn hs hsz, e]), h⟩
end
section
variable {P : Program} {G : Mem} {R : Reg} {ops : Array Oper} {n : Nat} {K : Env → Mm → Prop} {rest : List Oper} {E : Env} {M : Mm} {d : Nat} {ty : TypeId} {pos : String} {aft : Array Edge}
variable {T T' : TypeId} {x y : Operand}
theorem e_loadVS {td : TypeDesc} {v : Value} {B : Mem} {k j l z : Nat} {xs cs : List Value} (hv : Shows B z v k xs) (hB : SeenE G R M B) (hT : P.underlying T = some td) (hn : rowLike td = true) (hs : (P.info? T).map (·.size) = some l) (hx : rd E x = some (slAddr v j)) (hl : 0 < l) (hj : j + l ≤ xs.length) (hc : (xs.drop j).take l = cs) (hd : Nat.blt d n = true)
    (h : OpsE P G R ops n K rest ((d, .agg cs.toArray) :: E) M) : OpsE P G R ops n K (⟨some d, .load T x, ty, pos, aft, none⟩ :: rest) E M := fun _ _ ha hM => st_loadVS (hB.seen hM) hT hn hs (ha.rd hx) hv hl hj (by rw [hc]; exact h _ _ (ha.put hd _) hM)
end
end Go.Proofs.Ytnkelhmfpepehaa
namespace Go.Proofs.Ytnkelhmfpepehaa
open Go Go.RowKit
section
variable {P : Program} {G : Mem} {R : Reg} {ops : Array Oper} {K : Act → Mem → Prop} {rest : List Oper} {a : Act} {m : Mem} {d : Option Tmp} {ty : TypeId} {pos : String} {aft : Array Edge}
variable {T T' : TypeId} {x y : Operand}
end
section
variable {P : Program} {G : Mem} {R : Reg} {ops : Array Oper} {n : Nat} {K : Env → Mm → Prop} {rest : List Oper} {E : Env} {M : Mm} {d : Nat} {ty : TypeId} {pos : String} {aft : Array Edge}
variable {T T' : TypeId} {x y : Operand}
end
section
variable {P : Program}
end
end Go.Proofs.Ytnkelhmfpepehaa
namespace Go.Proofs.Ytnkelhmfpepehaa
end Go.Proofs.Ytnkelhmfpepehaa
namespace Go.Proofs.Ytnkelhmfpepehaa
end Go.Proofs.Ytnkelhmfpepehaa
namespace Go.Proofs.Ytnkelhmfpepehaa
open Go Go.RowKit
end Go.Proofs.Ytnkelhmfpepehaa
namespace Go.Proofs.Ytnkelhmfpepehaa
open Go Go.RowKit
end Go.Proofs.Ytnkelhmfpepehaa
namespace Go.Proofs.Ytnkelhmfpepehaa
open Go Go.RowKit
end Go.Proofs.Ytnkelhmfpepehaa
namespace Go.Proofs.Ytnkelhmfpepehaa
open Go Go.RowKit
end Go.Proofs.Ytnkelhmfpepehaa
namespace Go.Proofs.Ytnkelhmfpepehaa
open Go Go.RowKit
end Go.Proofs.Ytnkelhmfpepehaa
namespace Go.Proofs.Ytnkelhmfpepehaa
open Go Go.RowKit
section
variable {P : Program} {G : Mem} {R : Reg} {ops : Array Oper} {K : Act → Mem → Prop} {rest : List Oper} {a : Act} {m : Mem} {d : Option Tmp} {ty : TypeId} {pos : String} {aft : Array Edge}
variable {T T' : TypeId} {x y : Operand}
end
section
variable {P : Program} {G : Mem} {R : Reg} {ops : Array Oper} {n : Nat} {K : Env → Mm → Prop} {rest : List Oper} {E : Env} {M : Mm} {d : Nat} {ty : TypeId} {pos : String} {aft : Array Edge}
variable {T T' : TypeId} {x y : Operand}
end
end Go.Proofs.Ytnkelhmfpepehaa
namespace Go.Proofs.Ytnkelhmfpepehaa
open Go Go.RowKit
section
variable {P : Program} {G : Mem} {R : Reg} {ops : Array Oper} {n : Nat} {K : Env → Mm → Prop} {Q : Exit → Env → Mm → Prop} {rest : List Oper} {E : Env} {M : Mm} {d : Nat} {ty : TypeId} {pos : String} {aft : Array Edge}
variable {T T' : TypeId} {x y : Operand}
theorem okXL_none {i : Nat} (hX : R.X = []) (hL : R.L = none := by rfl) : okXL M i [] R := by
  unfold okXL
  rw [hL]
  show okX M i [] R.X
  rw [hX]
  trivial
theorem seen_cons {z : Blk} (i : Nat) (hi : lkM M i = some z) (hX : R.X = [] := by rfl) (hL : R.L = none := by rfl) : SeenE G R M (z :: G) := fun q hq => by
  rcases List.mem_cons.1 hq with rfl | h
  · exact .inr ⟨i, hi, [], okXL_none hX hL⟩
  · exact .inl h
end
section
variable {P : Program} {G : Mem} {R : Reg} {ops : Array Oper} {n : Nat} {K : Env → Mm → Prop} {Q : Exit → Env → Mm → Prop} {E : Env} {M : Mm}
theorem sub_cat {A B F : Env} (h1 : sub A F) (h2 : sub B F) : sub (catE A B) F := by
  induction A with
  | nil => exact h2
  | cons x A ih => exact ⟨h1.1, ih h1.2⟩
theorem e_join (Fk Fn : Env) (Nk : Mm) {l : List Oper} (_hk : sub Fk E) (_hn : subL Nk M) (h : OpsE P G R ops n (fun E' M' => sub Fk E' ∧ sub Fn E' ∧ subL Nk M') l E M) (hK : K (catE Fn Fk) Nk) : OpsE P G R ops n K l E M :=
  fun a m ha hM => opsM_mono (fun _ _ ⟨_, _, h1, h2, h3, h4, h5⟩ => ⟨_, _, h1.sub (sub_cat h4 h3), h2.sub h5, hK⟩) l (h a m ha hM)
def joinQ (Fk Fn : Env) (Nk : Mm) (Q : Exit → Env → Mm → Prop) : Exit → Env → Mm → Prop
  | .normal, E', M' => sub Fk E' ∧ sub Fn E' ∧ subL Nk M'
  | e, E', M' => Q e E' M'
theorem s_join (Fk Fn : Env) (Nk : Mm) {c : Code} (_hk : sub Fk E) (_hn : subL Nk M) (h : SatE P G c n (joinQ Fk Fn Nk Q) E M) (hK : Q .normal (catE Fn Fk) Nk) : SatE P G c n Q E M :=
  fun a m ha hM => sat_mono (h a m ha hM) fun e _ _ ⟨E', M', h1, h2, h3⟩ => by
    cases e with
    | normal => exact ⟨_, _, h1.sub (sub_cat h3.2.1 h3.1), h2.sub h3.2.2, hK⟩
    | _ => exact ⟨E', M', h1, h2, h3⟩
theorem e_case {l : List Oper} {s : Nat} {b : Bool} (ht : b = true → OpsE P G R ops n K l ((s, .bool true) :: E) M) (hf : b = false → OpsE P G R ops n K l ((s, .bool false) :: E) M) : OpsE P G R ops n K l ((s, .bool b) :: E) M := by
  cases b with
  | true => exact ht rfl
  | false => exact hf rfl
theorem bool_fin {b b' : Bool} (h : b = b') : some (Value.bool b) = some (Value.bool b') := by rw [h]
end
section
variable {P : Program} {G : Mem} {n : Nat}
end
end Go.Proofs.Ytnkelhmfpepehaa
namespace Go.Proofs.Ytnkelhmfpepehaa
open Go Go.RowKit
section
variable {P : Program} {G : Mem} {R : Reg} {ops : Array Oper} {K : Act → Mem → Prop} {rest : List Oper} {a : Act} {m : Mem} {d : Option Tmp} {ty : TypeId} {pos : String} {aft : Array Edge}
variable {T T' : TypeId} {x : Operand}
end
section
variable {P : Program} {G : Mem} {R : Reg} {ops : Array Oper} {n : Nat} {K : Env → Mm → Prop} {rest : List Oper} {E : Env} {M : Mm} {d : Nat} {ty : TypeId} {pos : String} {aft : Array Edge}
variable {T T' : TypeId} {x : Operand}
end
section
variable {P : Program} {G : Mem} {R : Reg} {ops : Array Oper} {n : Nat} {K : Env → Mm → Prop} {rest : List Oper} {E : Env} {M : Mm} {d : Nat} {ty : TypeId} {pos : String} {aft : Array Edge}
variable {T T' : TypeId} {x y : Operand}
end
end Go.Proofs.Ytnkelhmfpepehaa
namespace Go.Proofs.Ytnkelhmfpepehaa
open Go Go.RowKit
section
variable {P : Program} {G : Mem} {R : Reg} {ops : Array Oper} {K : Act → Mem → Prop} {rest : List Oper} {a : Act} {m : Mem} {d : Option Tmp} {ty : TypeId} {pos : String} {aft : Array Edge}
variable {T T' : TypeId} {x y : Operand}
end
section
variable {P : Program} {G : Mem} {R : Reg} {ops : Array Oper} {n : Nat} {K : Env → Mm → Prop} {rest : List Oper} {E : Env} {M : Mm} {d : Nat} {ty : TypeId} {pos : String} {aft : Array Edge}
variable {T T' : TypeId} {x y : Operand}
end
end Go.Proofs.Ytnkelhmfpepehaa
namespace Go.Proofs.Ytnkelhmfpepehaa
open Go Go.RowKit
section
variable {P : Program} {G : Mem} {R : Reg} {ops : Array Oper} {K : Act → Mem → Prop} {rest : List Oper} {a : Act} {m : Mem} {d : Option Tmp} {ty T T' : TypeId} {pos : String} {aft : Array Edge} {x y : Operand}
end
section
variable {P : Program} {G : Mem} {R : Reg} {ops : Array Oper} {n : Nat} {K : Env → Mm → Prop} {rest : List Oper} {E : Env} {M : Mm} {d : Nat} {ty : TypeId} {pos : String} {aft : Array Edge}
variable {T T' : TypeId} {x y : Operand}
end
end Go.Proofs.Ytnkelhmfpepehaa
namespace Go.Proofs.Ytnkelhmfpepehaa
open Go Go.RowKit
section
variable {P : Program} {G : Mem} {R : Reg} {ops : Array Oper} {K : Act → Mem → Prop} {rest : List Oper} {a : Act} {m : Mem} {d : Option Tmp} {ty T T' : TypeId} {pos : String} {aft : Array Edge} {x y : Operand}
end
section
variable {P : Program} {G : Mem} {R : Reg} {ops : Array Oper} {K : Act → Mem → Prop} {rest : List Oper} {a : Act} {m : Mem} {d : Option Tmp} {ty T T' : TypeId} {pos : String} {aft : Array Edge} {x y : Operand}
end
def Two (b : Nat) (t : TypeId) (oz : Option Blk) (S : Value → Array Value → Option Blk → Prop) : Value → Mem → Mem → Prop := fun v l1 nw =>
  ∃ c' oz', S v c' oz' ∧ ((l1 = ⟨b, c', t⟩ :: oz'.toList ∧ nw = [] ∧ oz'.toList.map (·.b) = oz.toList.map (·.b)) ∨ ∃ lo, l1 = ⟨b, c', t⟩ :: lo ∧ lo.map (·.b) = oz.toList.map (·.b) ∧ nw = oz'.toList)
section
variable {P : Program} {G : Mem} {R : Reg} {ops : Array Oper} {n : Nat} {K : Env → Mm → Prop} {rest : List Oper} {E : Env} {M : Mm} {d : Nat} {ty T T' : TypeId} {pos : String} {aft : Array Edge} {x y : Operand}
end
section
variable {P : Program} {G : Mem} {n : Nat}
theorem FitsM.single (x : Blk) : FitsM [(0, some x)] [x] := ⟨fun i y hy => by
    rw [lkM_cons] at hy
    split at hy
    · cases hy; simp
    · simp [lkM] at hy, fun i j y z hy hz hne => by
    rw [lkM_cons] at hy hz
    split at hy
    · split at hz
      · rename_i e1 e2; exact absurd (e1.symm.trans e2) hne
      · simp [lkM] at hz
    · simp [lkM] at hy⟩
def TwoEnd (b : Nat) (t : TypeId) (oz : Option Blk) (c' : Array Value) (oz' : Option Blk) (M : Mm) : Prop :=
  lkM M 0 = some ⟨b, c', t⟩ ∧ ((lkM M 1 = oz' ∧ oz'.toList.map (·.b) = oz.toList.map (·.b)) ∨ ∃ k lo, k ≠ 0 ∧ k ≠ 1 ∧ lkM M k = oz' ∧ lkM M 1 = lo ∧ lo.toList.map (·.b) = oz.toList.map (·.b))
theorem FitsM.two {x : Blk} {oz : Option Blk} (h : ∀ z, oz = some z → z.b ≠ x.b) : FitsM [(1, oz), (0, some x)] (x :: oz.toList) :=
  (FitsM.single x).change 1 (fun j y _ hy => by rw [lkM_cons] at hy; split at hy; cases hy; simp; simp [lkM] at hy) fun z hz => ⟨by subst hz; simp, fun j y _ hy => by
    rw [lkM_cons] at hy
    split at hy
    · cases hy; exact fun e => h z hz e.symm
    · simp [lkM] at hy⟩
theorem TwoEnd.post {b : Nat} {t : TypeId} {c0 c' : Array Value} {oz oz' : Option Blk} {M : Mm} {m : Mem} {S : Value → Array Value → Option Blk → Prop} {v : Value} (hM : FitsM M m) (hS : S v c' oz') (h : TwoEnd b t oz c' oz' M) :
    ∃ l1 nw, Two b t oz S v l1 nw ∧ (nw.map (·.b)).Nodup ∧ (∀ x ∈ nw, x.b ∉ (⟨b, c0, t⟩ :: oz.toList).map (·.b)) ∧ ∀ x ∈ l1 ++ nw, x ∈ m := by
  obtain ⟨h0, ⟨h1, hid⟩ | ⟨k, lo, k0, k1, hk, h1, hid⟩⟩ := h
  · refine ⟨⟨b, c', t⟩ :: oz'.toList, [], ⟨c', oz', hS, .inl ⟨rfl, rfl, hid⟩⟩, by simp, by simp, fun x hx => ?_⟩
    rw [List.append_nil] at hx
    rcases List.mem_cons.1 hx with rfl | hx
    · exact hM.has 0 _ h0
    · exact hM.has 1 x (h1.trans (by simpa using hx))
  · refine ⟨⟨b, c', t⟩ :: lo.toList, oz'.toList, ⟨c', oz', hS, .inr ⟨_, rfl, hid, rfl⟩⟩, ?_, fun x hx => ?_, fun x hx => ?_⟩
    · cases oz' <;> simp
    · have e : oz' = some x := by simpa using hx
      have n0 := hM.apart k 0 x _ (hk.trans e) h0 k0
      rw [List.map_cons, ← hid]
      cases lo with
      | none => simpa using n0
      | some q => simpa using ⟨n0, hM.apart k 1 x q (hk.trans e) h1 k1⟩
    · rcases List.mem_append.1 hx with hx | hx
      · rcases List.mem_cons.1 hx with rfl | hx
        · exact hM.has 0 _ h0
        · exact hM.has 1 x (h1.trans (by simpa using hx))
      · exact hM.has k x (hk.trans (by simpa using hx))
end
end Go.Proofs.Ytnkelhmfpepehaa
namespace Go.Proofs.Ytnkelhmfpepehaa
open Go Go.RowKit
abbrev iv (z : Int) : Value := .int .i64 z
end Go.Proofs.Ytnkelhmfpepehaa
namespace Go.Proofs.Ytnkelhmfpepehaa
open Go.ChangeShapes Go.WideShapes Go.ChangeAt Go.RowKit
section
variable {H : Type} {enc : TypeId × Value → H} {P : Program} {n : Nat} {t e : TypeId} {k : IntKind}
end
end Go.Proofs.Ytnkelhmfpepehaa
namespace Go.Proofs.Ytnkelhmfpepehaa
open Go Go.ChangeShapes Go.WideShapes Go.ChangeAt Go.RowKit
section
variable {H : Type} {enc : TypeId × Value → H} {P : Program} {t e : TypeId}
theorem row_of_cell {w : World} {b o : Nat} {u : Value} (h : w.cell? ⟨b, o, none⟩ = some u) : ∃ cs et fr, w.heap[b]? = some (.cells cs et fr) := by
  unfold World.cell? at h
  cases hb : w.heap[b]? with
  | none => simp [hb] at h
  | some ob => cases ob with
    | cells cs t fr => exact ⟨cs, t, fr, rfl⟩
    | _ => simp [hb] at h
theorem str_list (s : ByteArray) : ∃ l : List Nat, (∀ x ∈ l, x < 256) ∧ s = bstr l := by
  refine ⟨s.data.toList.map UInt8.toNat, fun x hx => ?_, ?_⟩
  · obtain ⟨b, _, rfl⟩ := List.mem_map.1 hx
    exact b.toNat_lt
  · unfold bstr
    rw [List.map_map]
    have : s.data.toList.map (UInt8.ofNat ∘ UInt8.toNat) = s.data.toList := by
      conv => rhs; rw [← List.map_id s.data.toList]
      exact List.map_congr_left fun b _ => by simp
    rw [this]
end
end Go.Proofs.Ytnkelhmfpepehaa
namespace Go.Proofs.Ytnkelhmfpepehaa
open Go Go.ChangeShapes Go.WideShapes Go.ChangeAt Go.RowKit
section
variable {P : Program} {t : TypeId}
theorem open_cells {W : World} {b0 : Nat} {v : Value} {ts : List TypeId} {fs : Array Field} (hT : P.underlying t = some (.struct fs)) (hct : P.cellTypes P.depth t = some ts) (hsz : P.cellsOf t = ts.length) (hval : Value.okWide P W .any b0 t v) :
    ∃ cs, v = .agg cs ∧ cs.size = ts.length ∧ ∀ (i : Nat) u, ts[i]? = some u → ∃ x, cs[i]? = some x ∧ Cell.okWide P W .any b0 u x := by
  unfold Value.okWide at hval
  rw [hT] at hval
  obtain ⟨cs, rfl, h1, ts', h2, _, h3⟩ := hval
  have e : ts' = ts := Option.some.inj (h2.symm.trans hct)
  subst e
  refine ⟨cs, rfl, h1.trans hsz, fun i u hi => ?_⟩
  have hlt : i < ts'.length := (List.getElem?_eq_some_iff.1 hi).1
  have hcs : i < cs.size := by omega
  obtain ⟨u', h4, h5⟩ := h3 i cs[i] (Array.getElem?_eq_getElem hcs)
  rw [Nat.mod_eq_of_lt hlt, hi] at h4
  injection h4 with h4
  subst h4
  exact ⟨_, Array.getElem?_eq_getElem hcs, h5⟩
end
end Go.Proofs.Ytnkelhmfpepehaa
namespace Go.Proofs.Ytnkelhmfpepehaa
open Go Go.ChangeShapes Go.WideShapes Go.ChangeAt Go.RowKit
section
variable {H : Type} {enc : TypeId × Value → H} {P : Program} {t e : TypeId}
end
end Go.Proofs.Ytnkelhmfpepehaa
namespace Go.Proofs.Ytnkelhmfpepehaa
open Go Go.ChangeShapes Go.WideShapes Go.ChangeAt Go.RowKit
abbrev Dat := Nat
def repN (P : Program) (G : Mem) : Nat → TypeId → List Value → Prop
  | 0, _, _ => False
  | d + 1, t, cs => match P.underlying t with
    | some (.int k) => ∃ z, cs = [.int k z] ∧ (Lit.int k z).wf = true
    | some .bool => ∃ b, cs = [.bool b]
    | some .string => ∃ l : List Nat, cs = [sv l] ∧ (∀ b ∈ l, b < 256) ∧ l.length ≤ maxLen
    | some (.struct fs) => cs.length = P.cellsOf t ∧ ∀ (i : Nat) f, fs[i]? = some f → repN P G d f.type ((cs.drop f.offset).take (P.cellsOf f.type))
    | some (.array n e) => cs.length = P.cellsOf t ∧ ∀ i, i < n → repN P G d e ((cs.drop (i * P.cellsOf e)).take (P.cellsOf e))
    | some (.slice e) => ∃ v xs n, cs = [v] ∧ n ≤ maxLen ∧ Shows G (P.cellsOf e) v n xs ∧ ∀ i, i < n → repN P G d e ((xs.drop (i * P.cellsOf e)).take (P.cellsOf e))
    | _ => False
abbrev Rep (P : Program) (G : Mem) (t : TypeId) (cs : List Value) (d : Dat) : Prop := repN P G d t cs
section
variable {P : Program} {G : Mem}
theorem repN_mono {G' : Mem} (hs : ∀ x ∈ G, x ∈ G') : ∀ (d : Nat) {t : TypeId} {cs : List Value}, repN P G d t cs → repN P G' d t cs
  | 0, _, _, h => h
  | d + 1, t, cs, h => by
    unfold repN at h ⊢
    cases hu : P.underlying t with
    | none => rw [hu] at h; exact h
    | some td =>
      rw [hu] at h
      cases td with
      | struct fs => exact ⟨h.1, fun i f hf => repN_mono hs d (h.2 i f hf)⟩
      | array n e => exact ⟨h.1, fun i hi => repN_mono hs d (h.2 i hi)⟩
      | slice e =>
        obtain ⟨v, xs, n, h1, h2, h3, h4⟩ := h
        exact ⟨v, xs, n, h1, h2, h3.mono hs, fun i hi => repN_mono hs d (h4 i hi)⟩
      | _ => exact h
def closedT (P : Program) (L : List TypeId) : Bool := L.all fun t => match P.underlying t with
  | some (.int _) | some .bool | some .string => true
  | some (.struct fs) => fs.all fun f => L.contains f.type
  | some (.array _ e) => L.contains e
  | some (.slice e) => L.contains e && decide (0 < P.cellsOf e)
  | _ => false
theorem closed_at {L : List TypeId} (h : closedT P L = true) {t : TypeId} (ht : t ∈ L) : (match P.underlying t with
  | some (.int _) | some .bool | some .string => true
  | some (.struct fs) => fs.all fun f => L.contains f.type
  | some (.array _ e) => L.contains e
  | some (.slice e) => L.contains e && decide (0 < P.cellsOf e)
  | _ => false) = true := (List.all_eq_true.1 h) t ht
theorem rep_all {W : World} {n d : Nat} (T : Nat → TypeId) (C : Nat → List Value) (h : ∀ i, i < n → ∃ G, repN P G d (T i) (C i) ∧ MemR G W) : ∃ G : Mem, MemR G W ∧ ∀ i, i < n → repN P G d (T i) (C i) := by
  induction n with
  | zero => exact ⟨[], by simp [MemR], fun i hi => absurd hi (Nat.not_lt_zero i)⟩
  | succ n ih =>
    obtain ⟨G, h2, h3⟩ := ih fun i hi => h i (by omega)
    obtain ⟨G', h4, h5⟩ := h n (by omega)
    refine ⟨G ++ G', fun x hx => (List.mem_append.1 hx).elim (h2 x) (h5 x), fun i hi => ?_⟩
    by_cases hin : i < n
    · exact repN_mono (fun x hx => List.mem_append_left _ hx) d (h3 i hin)
    · obtain rfl : i = n := by omega
      exact repN_mono (fun x hx => List.mem_append_right _ hx) d h4
variable {H : Type} {enc : TypeId × Value → H}
theorem rep_trod {W : World} {base : Nat} {s : Nat → Bool} {held : Bool} {L : List TypeId} (hL : closedT P L = true) : ∀ (fuel : Nat) (t : TypeId) (cs : List Value) (x : DataW H × List MemPlace), t ∈ L → DataW.trod enc P W base s held fuel t cs = some x → ∃ G, repN P G fuel t cs ∧ MemR G W := by
  intro fuel
  induction fuel with
  | zero => intro t cs x _ h; simp [DataW.trod] at h
  | succ m ih =>
    intro t cs x ht h
    have hc := closed_at hL ht
    cases hu : P.underlying t with
    | none => rw [hu] at hc; cases hc
    | some td =>
      rw [hu] at hc
      cases td with
      | int k =>
        obtain ⟨z, rfl, _, hw⟩ := DataW.trod_int hu h
        exact ⟨[], by unfold repN; rw [hu]; exact ⟨z, rfl, hw⟩, by simp [MemR]⟩
      | bool =>
        obtain ⟨b, rfl, _⟩ := DataW.trod_bool hu h
        exact ⟨[], by unfold repN; rw [hu]; exact ⟨b, rfl⟩, by simp [MemR]⟩
      | string =>
        obtain ⟨b, rfl, _, hm⟩ := DataW.trod_string hu h
        obtain ⟨l, hl, rfl⟩ := str_list b
        exact ⟨[], by unfold repN; rw [hu]; exact ⟨l, rfl, hl, by rw [← bstr_size]; exact hm⟩, by simp [MemR]⟩
      | struct fs =>
        obtain ⟨xs, m', e1, _, hlen, hn, hel⟩ := DataW.trod_struct hu h
        have e1 : m = m' := by omega
        subst e1
        obtain ⟨G, h2, h3⟩ := rep_all (P := P) (W := W) (n := fs.size) (d := m) (fun i => (fs[i]?.map (·.type)).getD 0) (fun i => match fs[i]? with
          | some f => (cs.drop f.offset).take (P.cellsOf f.type)
          | none => []) fun i hi => by
            have hf : fs[i]? = some fs[i] := Array.getElem?_eq_getElem hi
            have := hel i fs[i] hf
            rw [List.getElem?_eq_getElem (by omega)] at this
            have hmem : fs[i].type ∈ L := by
              have := (Array.all_eq_true.1 hc) i hi
              simpa using this
            simp only [hf, Option.map_some, Option.getD_some]
            exact ih _ _ _ hmem this
        refine ⟨G, ?_, h2⟩
        unfold repN
        rw [hu]
        refine ⟨hlen, fun i f hf => ?_⟩
        have := h3 i (Array.getElem?_eq_some_iff.1 hf).1
        simp only [hf, Option.map_some, Option.getD_some] at this
        exact this
      | array n e =>
        obtain ⟨xs, m', e1, _, hlen, hn, hel⟩ := DataW.trod_array hu h
        have e1 : m = m' := by omega
        subst e1
        have hmem : e ∈ L := by simpa using hc
        obtain ⟨G, h2, h3⟩ := rep_all (P := P) (W := W) (n := n) (d := m) (fun _ => e) (fun i => (cs.drop (i * P.cellsOf e)).take (P.cellsOf e)) fun i hi => by
          have := hel i hi
          rw [List.getElem?_eq_getElem (by omega)] at this
          exact ih _ _ _ hmem this
        refine ⟨G, ?_, h2⟩
        unfold repN
        rw [hu]
        exact ⟨hlen, h3⟩
      | slice e =>
        have hc : (L.contains e && decide (0 < P.cellsOf e)) = true := hc
        rw [Bool.and_eq_true, decide_eq_true_eq] at hc
        have hmem : e ∈ L := by simpa using hc.1
        have hz := hc.2
        rcases DataW.trod_slice hu h with ⟨rfl, _⟩ | ⟨a, len, cap, elems, rest, m', e1, rfl, _, hb, hl, hm, hlen, hel, _, _⟩
        · exact ⟨[], by unfold repN; rw [hu]; exact ⟨_, [], 0, rfl, by simp [maxLen], .inl ⟨rfl, rfl, none, 0, rfl, fun _ => rfl⟩, fun i hi => absurd hi (Nat.not_lt_zero i)⟩, by simp [MemR]⟩
        have e1 : m = m' := by omega
        subst e1
        obtain ⟨z, hze⟩ : ∃ z, z = P.cellsOf e := ⟨_, rfl⟩
        rw [← hze] at hz hel
        have hE : ∀ i, i < len → ∃ ci y, W.cells? base (a.add (i * z)) z = some ci ∧ DataW.trod enc P W base s held m e ci = some y := fun i hi => by
          have := hel i hi
          rw [List.getElem?_eq_getElem (by omega)] at this
          cases hcc : W.cells? base (a.add (i * z)) z with
          | none => rw [hcc] at this; cases this
          | some ci => rw [hcc] at this; exact ⟨ci, _, rfl, this⟩
        by_cases h0 : len = 0
        · subst h0
          exact ⟨[], by unfold repN; rw [hu]; exact ⟨_, [], 0, rfl, by simp [maxLen], .inl ⟨rfl, rfl, some a, cap, rfl, fun h => by cases h⟩, fun i hi => absurd hi (Nat.not_lt_zero i)⟩, by simp [MemR]⟩
        obtain ⟨c0, y0, hc0, _⟩ := hE 0 (by omega)
        obtain ⟨b, off, spot⟩ := a
        have hg0 := (World.cells?_some hc0).2.2 0 hz
        have hl0 := (World.cells?_some hc0).2.1
        rw [List.getElem?_eq_getElem (by omega)] at hg0
        have hspot : spot = none := by simpa [Addr.add] using World.cell?_spot hg0
        subst hspot
        obtain ⟨cs0, et, fr, hbk⟩ := row_of_cell (b := b) (o := off) (by simpa [Addr.add] using hg0)
        have hcl : ∀ o, W.cell? ⟨b, o, none⟩ = cs0[o]? := fun o => by simp [World.cell?, hbk]
        have hadd : ∀ i r, (Addr.add (Addr.add ⟨b, off, none⟩ (i * z)) r) = ⟨b, off + (i * z + r), none⟩ := fun i r => by
          rw [Go.WideShapes.add_plain, Go.WideShapes.add_plain, Nat.add_assoc]
        have hcell : ∀ i, i < len → ∀ ci, W.cells? base (Addr.add ⟨b, off, none⟩ (i * z)) z = some ci → ∀ r, r < z → cs0[off + (i * z + r)]? = ci[r]? := fun i _ ci hci r hr => by
          rw [← hcl, ← hadd i r]
          exact (World.cells?_some hci).2.2 r hr
        have hbound : off + len * z ≤ cs0.size := by
          obtain ⟨ci, y, hci, _⟩ := hE (len - 1) (by omega)
          have h1 := hcell (len - 1) (by omega) ci hci (z - 1) (by omega)
          rw [List.getElem?_eq_getElem (by have := (World.cells?_some hci).2.1; omega)] at h1
          have h2 := (Array.getElem?_eq_some_iff.1 h1).1
          have h3 : (len - 1) * z + z = len * z := by rw [← Nat.succ_mul]; congr 1; omega
          omega
        obtain ⟨xs, hxs⟩ : ∃ xs, xs = (cs0.toList.drop off).take (len * z) := ⟨_, rfl⟩
        have hxl : xs.length = len * z := by rw [hxs]; simp; omega
        have hxj : ∀ j, j < len * z → xs[j]? = cs0[off + j]? := fun j hj => by rw [hxs, List.getElem?_take_of_lt hj, List.getElem?_drop]; simp
        obtain ⟨G, h2, h3⟩ := rep_all (P := P) (W := W) (n := len) (d := m) (fun _ => e) (fun i => (xs.drop (i * z)).take z) fun i hi => by
          obtain ⟨ci, y, hci, hy⟩ := hE i hi
          have hcl2 := (World.cells?_some hci).2.1
          have hle : i * z + z ≤ len * z := by rw [← Nat.succ_mul]; exact Nat.mul_le_mul_right _ hi
          have : (xs.drop (i * z)).take z = ci := by
            apply List.ext_getElem?
            intro r
            by_cases hr : r < z
            · rw [List.getElem?_take_of_lt hr, List.getElem?_drop, hxj _ (by omega)]
              exact hcell i hi ci hci r hr
            · rw [List.getElem?_eq_none (by rw [List.length_take]; omega), List.getElem?_eq_none (by omega)]
          rw [this]
          exact ih _ _ _ hmem hy
        refine ⟨⟨b, cs0, et⟩ :: G, ?_, fun x hx => ?_⟩
        · unfold repN
          rw [hu]
          refine ⟨_, xs, len, rfl, by omega, .inr ⟨b, off, cap, cs0, et, rfl, by omega, List.mem_cons_self, by rw [← hze]; exact hxl, by rw [← hze]; exact hbound, fun j u hj => ?_⟩, fun i hi => ?_⟩
          · rw [← hxj j (by rw [← hxl]; exact (List.getElem?_eq_some_iff.1 hj).1)]; exact hj
          · rw [← hze]
            exact repN_mono (fun x hx => List.mem_cons_of_mem _ hx) m (h3 i hi)
        · rcases List.mem_cons.1 hx with rfl | hx
          · exact ⟨(Array.getElem?_eq_some_iff.1 hbk).1, fun o _ => hcl o⟩
          · exact h2 x hx
      | _ => cases hc
theorem rep_open {W : World} {base : Nat} {s : Nat → Bool} {held : Bool} {t : TypeId} {v : Value} {d : DataW H} {ps : List MemPlace} (L : List TypeId) (hL : closedT P L = true) (ht : t ∈ L) (hd : DataW.Trod enc P W base s held t v d ps) : ∃ x G, Rep P G t v.cells.toList x ∧ MemR G W := by
  obtain ⟨fuel, hf⟩ := hd
  exact ⟨fuel, rep_trod hL fuel t _ _ ht hf⟩
end
end Go.Proofs.Ytnkelhmfpepehaa
namespace Go.Proofs.Ytnkelhmfpepehaa
open Go Go.ChangeShapes Go.WideShapes Go.ChangeAt Go.RowKit
structure RawT where
  a : Int
  b : Int
  c : Int
  t : List Nat
section
variable {P : Program} {G : Mem}
theorem rep_int {t : TypeId} {cs : List Value} {d : Dat} {k : IntKind} (hu : P.underlying t = some (.int k)) (h : Rep P G t cs d) : ∃ z, cs = [.int k z] ∧ (Lit.int k z).wf = true := by
  cases d with
  | zero => exact h.elim
  | succ d => unfold Rep repN at h; rw [hu] at h; exact h
end
section
variable {P : Program} {H : Type} {enc : TypeId × Value → H}
end
end Go.Proofs.Ytnkelhmfpepehaa
namespace Go.Proofs.Ytnkelhmfpepehaa
open Go Go.ChangeShapes Go.WideShapes Go.ChangeAt Go.RowKit
section
variable {P : Program} {G : Mem}
end
section
variable {P : Program} {H : Type} {enc : TypeId × Value → H}
end
end Go.Proofs.Ytnkelhmfpepehaa
namespace Go.Proofs.Ytnkelhmfpepehaa
open Go Go.RowKit
end Go.Proofs.Ytnkelhmfpepehaa
namespace Go.Proofs.Ytnkelhmfpepehaa
open Go Go.RowKit
end Go.Proofs.Ytnkelhmfpepehaa
namespace Go.Proofs.Ytnkelhmfpepehaa
open Go Go.RowKit
end Go.Proofs.Ytnkelhmfpepehaa
namespace Go.Proofs.Ytnkelhmfpepehaa
open Go Go.RowKit
theorem or_true2 {p q : Prop} [Decidable p] [Decidable q] (h : (decide p || decide q) = true) : p ∨ q := by
  rw [Bool.or_eq_true, decide_eq_true_iff, decide_eq_true_iff] at h; exact h
theorem or_false2 {p q : Prop} [Decidable p] [Decidable q] (h : (decide p || decide q) = false) : ¬ (p ∨ q) := fun x => by
  rw [Bool.or_eq_false_iff, decide_eq_false_iff_not, decide_eq_false_iff_not] at h
  exact x.elim h.1 h.2
theorem shows_oneC {B : Mem} {z n : Nat} {v : Value} {xs : List Value} (h : Shows B z v n xs) : v.oneCell' = true := by
  rcases h with ⟨_, _, oa, c, rfl, _⟩ | ⟨b, o, c, cs, t, rfl, _⟩ <;> rfl
end Go.Proofs.Ytnkelhmfpepehaa
namespace Go.Proofs.Ytnkelhmfpepehaa
open Go Go.RowKit
end Go.Proofs.Ytnkelhmfpepehaa
namespace Go.Proofs.Ytnkelhmfpepehaa
open Go Go.ChangeShapes Go.WideShapes Go.ChangeAt Go.RowKit
structure TT where
  kind : Int
  id : Int
  other : Int
  args : List TT
theorem TT.ind {p : TT → Prop} (h : ∀ t : TT, (∀ a ∈ t.args, p a) → p t) (t : TT) : p t :=
  TT.rec (motive_1 := p) (motive_2 := fun l => ∀ a ∈ l, p a) (fun k i o l hl => h ⟨k, i, o, l⟩ hl) (by simp) (fun a l h1 h2 b hb => by rcases List.mem_cons.1 hb with rfl | hb; exact h1; exact h2 b hb) t
def TT.nodes : TT → Nat
  | ⟨_, _, _, l⟩ => 1 + (l.map TT.nodes).sum
abbrev nodesL (l : List TT) : Nat := (l.map TT.nodes).sum
theorem TT.nodes_eq (t : TT) : t.nodes = 1 + nodesL t.args := by cases t; rw [TT.nodes]
def mx : List Nat → Nat
  | [] => 0
  | x :: l => max x (mx l)
def TT.deep : TT → Nat
  | ⟨_, _, _, l⟩ => 1 + mx (l.map TT.deep)
abbrev deepL (l : List TT) : Nat := mx (l.map TT.deep)
theorem TT.deep_eq (t : TT) : t.deep = 1 + deepL t.args := by cases t; rw [TT.deep]
theorem mx_le {l : List Nat} {n : Nat} : mx l ≤ n ↔ ∀ x ∈ l, x ≤ n := by
  induction l with
  | nil => simp [mx]
  | cons x l ih => rw [mx, Nat.max_le, ih]; simp
theorem deepL_le {l : List TT} {n : Nat} : deepL l ≤ n ↔ ∀ t ∈ l, t.deep ≤ n := by
  unfold deepL; rw [mx_le]; simp
theorem deep_arg {t a : TT} (h : a ∈ t.args) : a.deep < t.deep := by
  have := (deepL_le.1 (Nat.le_refl (deepL t.args))) a h
  rw [TT.deep_eq t]; omega
def TV (G : Mem) : TT → Value → Prop
  | ⟨k, i, o, l⟩, v => ∃ c xs, v = .agg #[iv k, iv i, iv o, c] ∧ l.length ≤ maxLen ∧ Shows G 4 c l.length xs ∧ ∀ a, a ∈ l → ∀ j, l[j]? = some a → TV G a (.agg ((xs.drop (j * 4)).take 4).toArray)
abbrev tC (t : TT) (c : Value) : Array Value := cells 4 [pV (iv t.kind), pV (iv t.id), pV (iv t.other), pV c]
def TL (G : Mem) (l : List TT) (c : Value) (xs : List Value) : Prop := l.length ≤ maxLen ∧ Shows G 4 c l.length xs ∧ ∀ j (h : j < l.length), TV G l[j] (.agg ((xs.drop (j * 4)).take 4).toArray)
theorem TV_iff {G : Mem} {t : TT} {v : Value} : TV G t v ↔ ∃ c xs, v = .agg #[iv t.kind, iv t.id, iv t.other, c] ∧ TL G t.args c xs := by
  cases t
  rw [TV]
  constructor
  · rintro ⟨c, xs, e, h1, h2, h3⟩
    exact ⟨c, xs, e, h1, h2, fun j hj => h3 _ (List.getElem_mem hj) j (List.getElem?_eq_getElem hj)⟩
  · rintro ⟨c, xs, e, h1, h2, h3⟩
    refine ⟨c, xs, e, h1, h2, fun a _ j hj => ?_⟩
    obtain ⟨hj', rfl⟩ := List.getElem?_eq_some_iff.1 hj
    exact h3 j hj'
theorem TV.mono {G G' : Mem} (hs : ∀ x ∈ G, x ∈ G') {t : TT} : ∀ {v : Value}, TV G t v → TV G' t v := by
  refine TT.ind (p := fun t => ∀ {v : Value}, TV G t v → TV G' t v) (fun t ih v h => ?_) t
  obtain ⟨c, xs, e, h1, h2, h3⟩ := TV_iff.1 h
  exact TV_iff.2 ⟨c, xs, e, h1, h2.mono hs, fun j hj => ih _ (List.getElem_mem hj) (h3 j hj)⟩
theorem TL.mono {G G' : Mem} (hs : ∀ x ∈ G, x ∈ G') {l : List TT} {c : Value} {xs : List Value} (h : TL G l c xs) : TL G' l c xs :=
  ⟨h.1, h.2.1.mono hs, fun j hj => (h.2.2 j hj).mono hs⟩
theorem TL.at {G : Mem} {l : List TT} {c : Value} {xs : List Value} (h : TL G l c xs) {j : Nat} (hj : j < l.length) : ∃ c' ys, (xs.drop (j * 4)).take 4 = [iv l[j].kind, iv l[j].id, iv l[j].other, c'] ∧ TL G l[j].args c' ys := by
  obtain ⟨c', ys, e, hl⟩ := TV_iff.1 (h.2.2 j hj)
  refine ⟨c', ys, ?_, hl⟩
  have := congrArg (fun v => match v with | .agg a => a.toList | _ => []) e
  simpa using this
def roomL (l : List TT) (r d : Nat) : Int := if nodesL l ≤ r ∧ deepL l ≤ d then ((r - nodesL l : Nat) : Int) else -1
theorem nodesL_take {l : List TT} {i : Nat} (h : i < l.length) : nodesL (l.take (i + 1)) = nodesL (l.take i) + l[i].nodes := by
  unfold nodesL
  rw [List.take_succ_eq_append_getElem h, List.map_append, List.sum_append]
  simp
theorem nodesL_le (l : List TT) (i : Nat) : nodesL (l.take i) ≤ nodesL l := by
  have : nodesL l = nodesL (l.take i) + nodesL (l.drop i) := by
    unfold nodesL; rw [← List.sum_append, ← List.map_append, List.take_append_drop]
  omega
theorem room_full {l : List TT} {r d i : Nat} (hi : i < l.length) (h : nodesL (l.take i) = r ∨ d = 0) : roomL l r d = -1 := by
  unfold roomL
  rw [if_neg]
  rintro ⟨h1, h2⟩
  have hn := nodesL_take hi
  have hl := nodesL_le l (i + 1)
  have hd := deepL_le.1 h2 l[i] (List.getElem_mem hi)
  have e1 := l[i].nodes_eq
  have e2 := l[i].deep_eq
  omega
theorem room_bad {l : List TT} {r d i : Nat} (hi : i < l.length) (hr : nodesL (l.take i) < r) (hd : 0 < d) (h : roomL l[i].args (r - nodesL (l.take i) - 1) (d - 1) < 0) : roomL l r d = -1 := by
  unfold roomL at h ⊢
  rw [if_neg]
  rintro ⟨h1, h2⟩
  have hn := nodesL_take hi
  have hl := nodesL_le l (i + 1)
  have hd := deepL_le.1 h2 l[i] (List.getElem_mem hi)
  have e1 := l[i].nodes_eq
  have e2 := l[i].deep_eq
  rw [if_pos ⟨by omega, by omega⟩] at h
  omega
theorem room_next {l : List TT} {r d i : Nat} (hi : i < l.length) (hr : nodesL (l.take i) < r) (hd : 0 < d) (h : ¬ roomL l[i].args (r - nodesL (l.take i) - 1) (d - 1) < 0) :
    roomL l[i].args (r - nodesL (l.take i) - 1) (d - 1) = ((r - nodesL (l.take (i + 1)) : Nat) : Int) ∧ nodesL (l.take (i + 1)) ≤ r ∧ l[i].deep ≤ d := by
  have hn := nodesL_take hi
  have e1 := l[i].nodes_eq
  have e2 := l[i].deep_eq
  unfold roomL at h ⊢
  by_cases hc : nodesL l[i].args ≤ r - nodesL (l.take i) - 1 ∧ deepL l[i].args ≤ d - 1
  · rw [if_pos hc]
    exact ⟨by congr 1; omega, by omega, by omega⟩
  · rw [if_neg hc] at h; omega
theorem room_end {l : List TT} {r d : Nat} (h1 : nodesL (l.take l.length) ≤ r) (h2 : ∀ j (h : j < l.length), l[j].deep ≤ d) : roomL l r d = ((r - nodesL (l.take l.length) : Nat) : Int) := by
  unfold roomL
  rw [List.take_length] at h1 ⊢
  rw [if_pos ⟨h1, deepL_le.2 fun t ht => by obtain ⟨j, hj, rfl⟩ := List.mem_iff_getElem.1 ht; exact h2 j hj⟩]
def fitsL (l : List TT) : Bool := decide (nodesL l ≤ 300) && decide (deepL l ≤ 40)
theorem room_fits (l : List TT) : decide ((0 : Int) ≤ roomL l 300 40) = fitsL l := by
  unfold roomL fitsL
  by_cases h : nodesL l ≤ 300 ∧ deepL l ≤ 40
  · rw [if_pos h, decide_eq_true h.1, decide_eq_true h.2]; simp
  · rw [if_neg h]
    by_cases h1 : nodesL l ≤ 300
    · rw [decide_eq_false (fun h2 => h ⟨h1, h2⟩)]; simp
    · rw [decide_eq_false h1]; simp
def wdt (k : Int) : Nat := if k = 5 then 1 else if k = 4 ∨ k = 6 then 2 else if k = 7 then 3 else 0
def numB (k i o : Int) : Bool := if k = 3 then decide (0 ≤ i) && decide (i ≤ o) else if k = 1 ∨ k = 2 ∨ k = 6 then decide (0 ≤ i) && decide (o = 0) else decide (i = 0) && decide (o = 0)
theorem wdt_ways (k : Int) : (k = 5 ∧ wdt k = 1) ∨ (k ≠ 5 ∧ (k = 4 ∨ k = 6) ∧ wdt k = 2) ∨ (k = 7 ∧ wdt k = 3) ∨ ((k ≠ 5 ∧ k ≠ 4 ∧ k ≠ 6 ∧ k ≠ 7) ∧ wdt k = 0) := by
  unfold wdt; repeat' split
  all_goals omega
theorem num_ways (k i o : Int) : (k = 3 ∧ numB k i o = (decide (0 ≤ i) && decide (i ≤ o))) ∨ ((k = 1 ∨ k = 2 ∨ k = 6) ∧ numB k i o = (decide (0 ≤ i) && decide (o = 0))) ∨ ((k ≠ 3 ∧ k ≠ 1 ∧ k ≠ 2 ∧ k ≠ 6) ∧ numB k i o = (decide (i = 0) && decide (o = 0))) := by
  unfold numB; repeat' split
  · exact .inl ⟨by assumption, rfl⟩
  · exact .inr (.inl ⟨by assumption, rfl⟩)
  · exact .inr (.inr ⟨by omega, rfl⟩)
def fst1 : List Nat → Nat
  | [] => 0
  | x :: l => if x = 0 then fst1 l else x
def TT.form : TT → Nat
  | ⟨k, i, o, l⟩ => if k < 1 ∨ 7 < k then 2 else if l.length ≠ wdt k ∨ numB k i o = false then 3 else fst1 (l.map TT.form)
abbrev formL (l : List TT) : Nat := fst1 (l.map TT.form)
theorem form_eq (t : TT) : t.form = if t.kind < 1 ∨ 7 < t.kind then 2 else if t.args.length ≠ wdt t.kind ∨ numB t.kind t.id t.other = false then 3 else formL t.args := by cases t; rw [TT.form]
theorem fst1_at : ∀ {l : List Nat} {i : Nat} (hi : i < l.length), (∀ j (h : j < i), l[j] = 0) → l[i] ≠ 0 → fst1 l = l[i]
  | x :: l, 0, _, _, h => by rw [fst1, if_neg (show ¬ x = 0 from h)]; rfl
  | x :: l, i + 1, hi, h0, h => by
    rw [fst1, if_pos (show x = 0 from h0 0 (by omega))]
    exact fst1_at (by simpa using hi) (fun j hj => h0 (j + 1) (by omega)) h
theorem fst1_none : ∀ {l : List Nat}, (∀ j (h : j < l.length), l[j] = 0) → fst1 l = 0
  | [], _ => rfl
  | x :: l, h => by rw [fst1, if_pos (show x = 0 from h 0 (by simp))]; exact fst1_none fun j hj => h (j + 1) (by simpa using hj)
theorem formL_at {l : List TT} {i : Nat} (hi : i < l.length) (h0 : ∀ j (h : j < i), (l[j]'(by omega)).form = 0) (h : l[i].form ≠ 0) : formL l = l[i].form := by
  unfold formL
  rw [fst1_at (i := i) (by simpa using hi) (fun j hj => by simpa using h0 j hj) (by simpa using h)]; simp
theorem formL_none {l : List TT} (h : ∀ j (h : j < l.length), l[j].form = 0) : formL l = 0 := fst1_none fun j hj => by simpa using h j (by simpa using hj)
def wsum : List Nat → Nat → Nat
  | [], n => n
  | x :: l, n => if 1048576 < n + x then n + x else wsum l (n + x)
def TT.wgh : TT → Nat → Nat
  | ⟨_, _, _, l⟩, d => if 40 < d then 1048576 else wsum (l.map fun a => a.wgh (d + 1)) 1
abbrev wghL (l : List TT) (d : Nat) : List Nat := l.map fun a => a.wgh d
theorem wgh_eq (t : TT) (d : Nat) : t.wgh d = if 40 < d then 1048576 else wsum (wghL t.args (d + 1)) 1 := by cases t; rw [TT.wgh]
theorem wsum_le {l : List Nat} {b : Nat} : ∀ {n : Nat}, n ≤ 1048576 → (∀ x ∈ l, x ≤ b) → wsum l n ≤ 1048576 + b := by
  induction l with
  | nil => intro n h _; rw [wsum]; omega
  | cons x l ih =>
    intro n h hb
    have hx := hb x (by simp)
    rw [wsum]
    split
    · omega
    · exact ih (by omega) fun y hy => hb y (by simp [hy])
theorem wgh_le (t : TT) : ∀ d, t.wgh d ≤ 1048576 * (1 + (41 - d)) := by
  refine TT.ind (p := fun t => ∀ d, t.wgh d ≤ 1048576 * (1 + (41 - d))) (fun t ih d => ?_) t
  rw [wgh_eq]
  split
  · omega
  · have := wsum_le (l := wghL t.args (d + 1)) (b := 1048576 * (1 + (41 - (d + 1)))) (n := 1) (by omega) fun x hx => by
      obtain ⟨a, ha, rfl⟩ := List.mem_map.1 hx
      exact ih a ha (d + 1)
    omega
theorem wsum_small {l : List Nat} : ∀ {n : Nat}, n + l.sum ≤ 1048576 → wsum l n = n + l.sum := by
  induction l with
  | nil => intro n _; rfl
  | cons x l ih =>
    intro n h
    rw [List.sum_cons] at h ⊢
    rw [wsum, if_neg (by omega), ih (by omega)]; omega
theorem wsum_back {l : List Nat} : ∀ {n : Nat}, wsum l n ≤ 1048576 → wsum l n = n + l.sum := by
  induction l with
  | nil => intro n _; rfl
  | cons x l ih =>
    intro n h
    rw [wsum] at h ⊢
    split at h
    · omega
    · rename_i hc
      rw [if_neg hc, ih h, List.sum_cons]; omega
theorem le_sum {l : List Nat} {x : Nat} (h : x ∈ l) : x ≤ l.sum := by
  induction l with
  | nil => cases h
  | cons y l ih =>
    rw [List.sum_cons]
    rcases List.mem_cons.1 h with rfl | h
    · omega
    · have := ih h; omega
theorem wgh_ok (t : TT) : ∀ d, d + t.deep ≤ 41 → t.nodes ≤ 300 → t.wgh d = t.nodes := by
  refine TT.ind (p := fun t => ∀ d, d + t.deep ≤ 41 → t.nodes ≤ 300 → t.wgh d = t.nodes) (fun t ih d h1 h2 => ?_) t
  rw [TT.deep_eq] at h1
  rw [TT.nodes_eq] at h2 ⊢
  have e : wghL t.args (d + 1) = t.args.map TT.nodes := List.map_congr_left fun a ha => ih a ha (d + 1) (by have := deepL_le.1 (Nat.le_refl _) a ha; omega) (by have := le_sum (List.mem_map_of_mem (f := TT.nodes) ha); unfold nodesL at h2; omega)
  rw [wgh_eq, if_neg (by omega), e, wsum_small (by unfold nodesL at h2; omega)]
theorem wgh_back (t : TT) : ∀ d, t.wgh d ≤ 300 → d + t.deep ≤ 41 ∧ t.nodes = t.wgh d := by
  refine TT.ind (p := fun t => ∀ d, t.wgh d ≤ 300 → d + t.deep ≤ 41 ∧ t.nodes = t.wgh d) (fun t ih d h => ?_) t
  rw [wgh_eq] at h ⊢
  split at h
  · omega
  · rename_i hd
    rw [if_neg hd]
    have e := wsum_back (l := wghL t.args (d + 1)) (n := 1) (by omega)
    rw [e] at h ⊢
    have hx : ∀ a ∈ t.args, a.wgh (d + 1) ≤ 300 := fun a ha => by have := le_sum (List.mem_map_of_mem (f := fun a => TT.wgh a (d + 1)) ha); unfold wghL at h; omega
    have en : nodesL t.args = (wghL t.args (d + 1)).sum := by
      unfold nodesL wghL
      rw [List.map_congr_left fun a ha => (ih a ha (d + 1) (hx a ha)).2]
    refine ⟨?_, by rw [TT.nodes_eq, en]⟩
    rw [TT.deep_eq]
    have : deepL t.args ≤ 40 - d := deepL_le.2 fun a ha => by have := (ih a ha (d + 1) (hx a ha)).1; omega
    omega
theorem wgh_fits (t : TT) : decide ((300 : Int) < (t.wgh 1 : Int)) = !fitsL [t] := by
  have e1 : nodesL [t] = t.nodes := by simp [nodesL]
  have e2 : deepL [t] = t.deep := by simp [deepL, mx]
  unfold fitsL
  rw [e1, e2]
  by_cases h : t.wgh 1 ≤ 300
  · have := wgh_back t 1 h
    rw [decide_eq_false (by omega), decide_eq_true (show t.nodes ≤ 300 by omega), decide_eq_true (show t.deep ≤ 40 by omega)]; rfl
  · rw [decide_eq_true (by omega)]
    by_cases h1 : t.nodes ≤ 300
    · by_cases h2 : t.deep ≤ 40
      · have := wgh_ok t 1 (by omega) h1
        omega
      · rw [decide_eq_false h2]; simp
    · rw [decide_eq_false h1]; rfl
def allB : List (TT → Bool) → List TT → Bool
  | [], [] => true
  | f :: l, u :: m => f u && allB l m
  | _, _ => false
def TT.eqb : TT → TT → Bool
  | ⟨k, i, o, l⟩, u => decide (k = u.kind) && decide (i = u.id) && decide (o = u.other) && allB (l.map fun a => fun x => a.eqb x) u.args
theorem allB_iff : ∀ {l m : List TT}, (∀ a ∈ l, ∀ u : TT, a.eqb u = true ↔ a = u) → (allB (l.map fun a => fun x => a.eqb x) m = true ↔ l = m)
  | [], [], _ => by simp [allB]
  | [], _ :: _, _ => by simp [allB]
  | _ :: _, [], _ => by simp [allB]
  | a :: l, b :: m, h => by
    rw [List.map_cons, allB, Bool.and_eq_true, h a (by simp), allB_iff fun x hx => h x (by simp [hx]), List.cons.injEq]
theorem eqb_iff (t : TT) : ∀ u : TT, t.eqb u = true ↔ t = u := by
  refine TT.ind (p := fun t => ∀ u, t.eqb u = true ↔ t = u) (fun t ih u => ?_) t
  obtain ⟨k, i, o, l⟩ := t
  rw [TT.eqb]
  simp only [Bool.and_eq_true, decide_eq_true_eq]
  rw [allB_iff ih]
  cases u
  simp only [TT.mk.injEq, and_assoc]
theorem eqb_self (t : TT) : t.eqb t = true := (eqb_iff t t).2 rfl
def eqbL (l m : List TT) : Bool := decide (l.length = m.length) && (List.range l.length).all (fun j => (l.getD j ⟨0, 0, 0, []⟩).eqb (m.getD j ⟨0, 0, 0, []⟩))
theorem eqbL_iff (l m : List TT) : eqbL l m = true ↔ l = m := by
  unfold eqbL
  simp only [Bool.and_eq_true, decide_eq_true_eq, List.all_eq_true, List.mem_range]
  constructor
  · rintro ⟨h1, h2⟩
    refine List.ext_getElem h1 fun j hj hj' => ?_
    have := h2 j hj
    rw [List.getD_eq_getElem?_getD, List.getElem?_eq_getElem hj, List.getD_eq_getElem?_getD, List.getElem?_eq_getElem hj'] at this
    exact (eqb_iff _ _).1 this
  · rintro rfl
    exact ⟨rfl, fun j _ => eqb_self _⟩
theorem eqbL_all {l m : List TT} (h : l.length = m.length) (h2 : ∀ j (h1 : j < l.length) (h2 : j < m.length), l[j].eqb m[j] = true) : eqbL l m = true :=
  (eqbL_iff l m).2 (List.ext_getElem h fun j h1 h3 => (eqb_iff _ _).1 (h2 j h1 h3))
theorem eqbL_len {l m : List TT} (h : l.length ≠ m.length) : eqbL l m = false := by
  cases e : eqbL l m with
  | false => rfl
  | true => exact absurd (congrArg List.length ((eqbL_iff l m).1 e)) h
theorem eqbL_at {l m : List TT} {j : Nat} (h1 : j < l.length) (h2 : j < m.length) (h : l[j].eqb m[j] = false) : eqbL l m = false := by
  cases e : eqbL l m with
  | false => rfl
  | true =>
    have := (eqbL_iff l m).1 e
    subst this
    rw [eqb_self] at h; cases h
theorem eqb_parts (t u : TT) : t.eqb u = (decide (t.kind = u.kind) && decide (t.id = u.id) && decide (t.other = u.other) && eqbL t.args u.args) := by
  cases e : t.eqb u with
  | true =>
    have := (eqb_iff t u).1 e
    subst this
    rw [(eqbL_iff _ _).2 rfl]; simp
  | false =>
    by_cases h1 : t.kind = u.kind
    · by_cases h2 : t.id = u.id
      · by_cases h3 : t.other = u.other
        · cases h4 : eqbL t.args u.args with
          | false => simp
          | true =>
            have := (eqbL_iff _ _).1 h4
            have : t = u := by cases t; cases u; simp only [TT.mk.injEq] at *; exact ⟨h1, h2, h3, this⟩
            subst this
            rw [eqb_self] at e; cases e
        · rw [decide_eq_false h3]; simp
      · rw [decide_eq_false h2]; simp
    · rw [decide_eq_false h1]; simp
theorem parts_ne {t u : TT} {l q : List TT} (h : (decide (t.kind ≠ u.kind) || (decide (t.id ≠ u.id) || (decide (t.other ≠ u.other) || decide ((l.length : Int) ≠ (q.length : Int))))) = true) : (decide (t.kind = u.kind) && decide (t.id = u.id) && decide (t.other = u.other) && eqbL l q) = false := by
  by_cases h1 : t.kind = u.kind
  · by_cases h2 : t.id = u.id
    · by_cases h3 : t.other = u.other
      · simp only [h1, h2, h3, ne_eq, not_true_eq_false, decide_false, Bool.false_or, decide_eq_true_eq] at h
        rw [eqbL_len (by omega)]; simp
      · rw [decide_eq_false h3]; simp
    · rw [decide_eq_false h2]; simp
  · rw [decide_eq_false h1]; simp
theorem parts_eq {t u : TT} {l q : List TT} (h : (decide (t.kind ≠ u.kind) || (decide (t.id ≠ u.id) || (decide (t.other ≠ u.other) || decide ((l.length : Int) ≠ (q.length : Int))))) = false) : t.kind = u.kind ∧ t.id = u.id ∧ t.other = u.other ∧ l.length = q.length := by
  simp only [Bool.or_eq_false_iff, decide_eq_false_iff_not, ne_eq, Decidable.not_not] at h
  exact ⟨h.1, h.2.1, h.2.2.1, by omega⟩
theorem wsum_step {l : List TT} {w k d i : Nat} (h : w = wsum (wghL (l.drop i) d) k) (hi : i < l.length) : w = if 1048576 < k + l[i].wgh d then k + l[i].wgh d else wsum (wghL (l.drop (i + 1)) d) (k + l[i].wgh d) := by
  rw [h]
  unfold wghL
  rw [List.drop_eq_getElem_cons hi, List.map_cons, wsum]
theorem fill_tC {Z : Array Value} (hZ : Z.size = 4) {t : TT} {c : Value} : Instr.fill (fun i => some (i * 4, 4)) Z [(0, .agg (tC t c))] = some (tC t c) := by
  obtain ⟨p, q, r, s, rfl⟩ : ∃ p q r s, Z = #[p, q, r, s] := by
    rcases Z with ⟨_ | ⟨p, _ | ⟨q, _ | ⟨r, _ | ⟨s, _ | ⟨s2, l⟩⟩⟩⟩⟩⟩
    · simp at hZ
    · simp at hZ
    · simp at hZ
    · simp at hZ
    · exact ⟨p, q, r, s, rfl⟩
    · simp at hZ
  rfl
theorem shape_ok3 {t : TT} {n : Nat} (h : t.kind = 3) : (decide ((n : Int) = (wdt t.kind : Int)) && decide (0 ≤ t.id) && decide (0 ≤ t.other) && decide (t.id ≤ t.other)) = (decide ((n : Int) = (wdt t.kind : Int)) && numB t.kind t.id t.other) := by
  rw [numB, if_pos h]
  by_cases h1 : 0 ≤ t.id
  · by_cases h2 : t.id ≤ t.other
    · rw [decide_eq_true h1, decide_eq_true h2, decide_eq_true (show 0 ≤ t.other by omega)]; simp
    · rw [decide_eq_false h2]; simp
  · rw [decide_eq_false h1]; simp
theorem shape_okn {t : TT} {n : Nat} (h : ¬ t.kind = 3) : (decide ((n : Int) = (wdt t.kind : Int)) && decide (0 ≤ t.id) && decide (0 ≤ t.other) && decide (t.other = 0) && (decide (t.id = 0) || decide (t.kind = 1) || decide (t.kind = 2) || decide (t.kind = 6))) = (decide ((n : Int) = (wdt t.kind : Int)) && numB t.kind t.id t.other) := by
  rw [numB, if_neg h]
  by_cases h2 : t.other = 0
  · by_cases h3 : t.kind = 1 ∨ t.kind = 2 ∨ t.kind = 6
    · rw [if_pos h3, h2]
      have : (decide (t.id = 0) || decide (t.kind = 1) || decide (t.kind = 2) || decide (t.kind = 6)) = true := by
        rcases h3 with h3 | h3 | h3 <;> rw [h3] <;> simp
      rw [this]; simp
    · rw [if_neg h3, h2]
      have : (decide (t.id = 0) || decide (t.kind = 1) || decide (t.kind = 2) || decide (t.kind = 6)) = decide (t.id = 0) := by
        rw [decide_eq_false (fun h => h3 (.inl h)), decide_eq_false (fun h => h3 (.inr (.inl h))), decide_eq_false (fun h => h3 (.inr (.inr h)))]; simp
      rw [this]
      by_cases h4 : t.id = 0
      · rw [h4]; simp
      · rw [decide_eq_false h4]; simp
  · rw [decide_eq_false h2]; simp
theorem shape_bad {t : TT} {n : Nat} (h : (!(decide ((n : Int) = (wdt t.kind : Int)) && numB t.kind t.id t.other)) = true) : n ≠ wdt t.kind ∨ numB t.kind t.id t.other = false := by
  cases hn : numB t.kind t.id t.other with
  | false => exact .inr rfl
  | true =>
    rw [hn] at h
    left
    intro e
    simp [e] at h
theorem shape_good {t : TT} {n : Nat} (h : (!(decide ((n : Int) = (wdt t.kind : Int)) && numB t.kind t.id t.other)) = false) : ¬ (n ≠ wdt t.kind ∨ numB t.kind t.id t.other = false) := by
  cases hn : numB t.kind t.id t.other with
  | false => rw [hn] at h; simp at h
  | true =>
    rw [hn] at h
    have h8 : (n : Int) = (wdt t.kind : Int) := by simpa using h
    rintro (h7 | h7)
    · exact h7 (by omega)
    · cases h7
def chkT (t : TT) : Nat := if fitsL [t] = true then t.form else 1
theorem tl_one {G : Mem} {t : TT} {c : Value} {xs : List Value} {r : Nat} {ty : TypeId} (hT : TL G t.args c xs) (hm : (⟨r, tC t c, ty⟩ : Blk) ∈ G) : TL G [t] (.slice (some ⟨r, 0, none⟩) 1 1) [iv t.kind, iv t.id, iv t.other, c] :=
  ⟨by simp [maxLen], .inr ⟨r, 0, 1, _, ty, rfl, by simp, hm, rfl, by rw [arrv_size]; simp, fun j u hu => by
    rw [Nat.zero_add, ← hu]
    match j, hu with
    | 0, _ => rfl
    | 1, _ => rfl
    | 2, _ => rfl
    | 3, _ => rfl⟩, fun j hj => by
    have : j = 0 := by simpa using hj
    subst this
    exact TV_iff.2 ⟨c, xs, rfl, hT⟩⟩
theorem rep_terms {P : Program} {G : Mem} {t sl ti : TypeId} {f0 f1 f2 f3 : Field} (ht : P.underlying t = some (.struct #[f0, f1, f2, f3])) (hc : P.cellsOf t = 4) (hsl : P.underlying sl = some (.slice t)) (hti : P.underlying ti = some (.int .i64))
    (o0 : f0.offset = 0) (o1 : f1.offset = 1) (o2 : f2.offset = 2) (o3 : f3.offset = 3) (u0 : f0.type = ti) (u1 : f1.type = ti) (u2 : f2.type = ti) (u3 : f3.type = sl) (c0 : P.cellsOf ti = 1) (c3 : P.cellsOf sl = 1) :
    ∀ (d : Nat) (cs : List Value), Rep P G t cs d → ∃ T : TT, TV G T (.agg cs.toArray) := by
  intro d
  induction d using Nat.strongRecOn with
  | _ d ih =>
  intro cs h
  cases d with
  | zero => exact h.elim
  | succ d =>
    unfold Rep repN at h
    rw [ht] at h
    obtain ⟨hl, he⟩ := h
    rw [hc] at hl
    match cs, hl with
    | [w0, w1, w2, w3], _ =>
      have e0 := he 0 f0 rfl
      have e1 := he 1 f1 rfl
      have e2 := he 2 f2 rfl
      have e3 := he 3 f3 rfl
      rw [o0, u0, c0] at e0
      rw [o1, u1, c0] at e1
      rw [o2, u2, c0] at e2
      rw [o3, u3, c3] at e3
      obtain ⟨za, h0, _⟩ := rep_int hti e0
      obtain ⟨zb, h1, _⟩ := rep_int hti e1
      obtain ⟨zc, h2, _⟩ := rep_int hti e2
      cases d with
      | zero => exact e3.elim
      | succ d =>
        unfold repN at e3
        rw [hsl] at e3
        obtain ⟨c, xs, n, h3, hn, hv, hE⟩ := e3
        rw [hc] at hv hE
        have hE2 : ∀ i : Nat, ∃ T : TT, i < n → TV G T (.agg ((xs.drop (i * 4)).take 4).toArray) := fun i => by
          by_cases hi : i < n
          · obtain ⟨T, hT⟩ := ih d (by omega) _ (hE i hi)
            exact ⟨T, fun _ => hT⟩
          · exact ⟨⟨0, 0, 0, []⟩, fun h => absurd h hi⟩
        obtain ⟨f, hf⟩ := Classical.axiomOfChoice hE2
        simp at h0 h1 h2 h3
        refine ⟨⟨za, zb, zc, (List.range n).map f⟩, TV_iff.2 ⟨c, xs, by rw [h0, h1, h2, h3], by simpa using hn, by simpa using hv, fun j hj => ?_⟩⟩
        have hj' : j < n := by simpa using hj
        simpa using hf j hj'
section
variable {P : Program} {H : Type} {enc : TypeId × Value → H}
theorem open_term {W : World} {b0 bs : Nat} {s : Nat → Bool} {held : Bool} {t sl ti : TypeId} {v : Value} {d : DataW H} {ms : List MemPlace} {f0 f1 f2 f3 : Field} {cts : List TypeId} (L : List TypeId) (hL : closedT P L = true) (htL : t ∈ L) (ht : P.underlying t = some (.struct #[f0, f1, f2, f3])) (hct : P.cellTypes P.depth t = some cts) (hc' : P.cellsOf t = cts.length) (hc : P.cellsOf t = 4)
    (o0 : f0.offset = 0) (o1 : f1.offset = 1) (o2 : f2.offset = 2) (o3 : f3.offset = 3) (u0 : f0.type = ti) (u1 : f1.type = ti) (u2 : f2.type = ti) (u3 : f3.type = sl) (hti : P.underlying ti = some (.int .i64)) (hsl : P.underlying sl = some (.slice t)) (c0 : P.cellsOf ti = 1) (c3 : P.cellsOf sl = 1) (hval : Value.okWide P W .any b0 t v) (hd : DataW.Trod enc P W bs s held t v d ms) :
    ∃ (G : Mem) (T : TT) (c : Value) (xs : List Value), v = .agg (tC T c) ∧ MemR G W ∧ TL G T.args c xs := by
  obtain ⟨x, G, hx, hG⟩ := rep_open L hL htL hd
  obtain ⟨cs, rfl, _, _⟩ := open_cells ht hct hc' hval
  obtain ⟨T, hT⟩ := rep_terms ht hc hsl hti o0 o1 o2 o3 u0 u1 u2 u3 c0 c3 x _ hx
  obtain ⟨c, xs, e, hl⟩ := TV_iff.1 hT
  refine ⟨G, T, c, xs, ?_, hG, hl⟩
  have e2 : (Value.agg cs.toList.toArray) = .agg (tC T c) := e
  have e3 : cs.toList.toArray = cs := by simp
  rw [e3] at e2; exact e2
end
end Go.Proofs.Ytnkelhmfpepehaa
namespace Go.Proofs.Ytnkelhmfpepehaa
open Go Go.ChangeShapes Go.WideShapes Go.ChangeAt Go.RowKit
section
variable {H : Type} {enc : TypeId × Value → H} {P : Program} {w : World} {base : Nat} {spare : Nat → Bool} {held : Bool}
end
theorem memR_two {W : World} {m m2 : Mem} (h : MemR m W) (hm : MemR m2 W) : MemR (m ++ m2) W := fun y hy => (List.mem_append.1 hy).elim (h y) (hm y)
end Go.Proofs.Ytnkelhmfpepehaa
