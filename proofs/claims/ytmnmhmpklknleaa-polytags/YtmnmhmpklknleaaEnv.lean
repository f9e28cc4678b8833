/-
  The same rules over a list of the slots that are known: what a slot holds is looked up, by computation.
-/
import Derived.Test.YtmnmhmpklknleaaOps
namespace Go.Proofs.Ytmnmhmpklknleaa
open Go Go.RowKit

abbrev Env := List (Nat × Value)

def lk : Env → Nat → Option Value
  | [], _ => none
  | (s, v) :: r, t => bif Nat.beq s t then some v else lk r t

def rd (E : Env) : Operand → Option Value
  | .tmp t => lk E t
  | .const v => some v
  | .global g => some (.pointer (some ⟨g, 0, none⟩))
  | .func f => some (.func (.func f) #[] #[])

def rdl (E : Env) : List Operand → Option (List Value)
  | [] => some []
  | x :: r => match rd E x, rdl E r with
    | some v, some vs => some (v :: vs)
    | _, _ => none

/-- Every entry of the first is in the second. -/
def sub : Env → Env → Prop
  | [], _ => True
  | (t, v) :: r, E => lk E t = some v ∧ sub r E

structure Fits (n : Nat) (E : Env) (a : Act) : Prop where
  size : a.tmps.size = n
  defers : a.defers = []
  slots : ∀ t v, lk E t = some v → a.tmps[t]? = some v

theorem Fits.rd {n : Nat} {E : Env} {a : Act} (h : Fits n E a) {x : Operand} {v : Value} (hx : Ytmnmhmpklknleaa.rd E x = some v) : a.eval x = v := by
  cases x with
  | tmp t =>
    have := h.slots t v hx
    simp [Act.eval, Array.getD_eq_getD_getElem?, this]
  | const c => simpa [Ytmnmhmpklknleaa.rd, Act.eval] using hx
  | global g => simpa [Ytmnmhmpklknleaa.rd, Act.eval] using hx
  | func f => simpa [Ytmnmhmpklknleaa.rd, Act.eval] using hx

theorem Fits.rdl {n : Nat} {E : Env} {a : Act} (h : Fits n E a) : ∀ {l : List Operand} {vs : List Value}, Ytmnmhmpklknleaa.rdl E l = some vs → l.map a.eval = vs
  | [], vs, hl => by simpa [Ytmnmhmpklknleaa.rdl] using hl
  | x :: l, vs, hl => by
    unfold Ytmnmhmpklknleaa.rdl at hl
    split at hl
    · rename_i v ws h1 h2
      simp at hl
      subst hl
      rw [List.map_cons, h.rd h1, Fits.rdl h h2]
    · cases hl

theorem Fits.args {n : Nat} {E : Env} {a : Act} (h : Fits n E a) {l : Array Operand} {vs : List Value} (hl : Ytmnmhmpklknleaa.rdl E l.toList = some vs) : l.map a.eval = vs.toArray := by
  have := h.rdl hl
  apply Array.ext'
  simpa using this

theorem beq_ne {s t : Nat} (h : ¬ s = t) : Nat.beq s t = false := by
  cases hb : Nat.beq s t with
  | false => rfl
  | true => exact absurd (Nat.eq_of_beq_eq_true hb) h

theorem lk_cons (s : Nat) (v : Value) (E : Env) (t : Nat) : lk ((s, v) :: E) t = if s = t then some v else lk E t := by
  show (bif Nat.beq s t then some v else lk E t) = _
  by_cases h : s = t
  · subst h; simp
  · simp [beq_ne h, h]

theorem Fits.put {n : Nat} {E : Env} {a : Act} (h : Fits n E a) {d : Nat} (hd : Nat.blt d n = true) (v : Value) : Fits n ((d, v) :: E) (a.put (some d) v) := by
  have hd' : d < n := by simpa using hd
  refine ⟨by simpa [Act.put] using h.size, by simpa [Act.put] using h.defers, fun t u ht => ?_⟩
  rw [lk_cons] at ht
  simp only [Act.put]
  split at ht
  · rename_i e; subst e
    rw [Array.getElem?_setIfInBounds_self_of_lt (by rw [h.size]; exact hd')]; exact ht
  · rename_i e
    rw [Array.getElem?_setIfInBounds_ne e]; exact h.slots t u ht

theorem sub_lk : ∀ {E E' : Env}, sub E E' → ∀ t v, lk E t = some v → lk E' t = some v
  | [], _, _, _, _, h => by simp [lk] at h
  | (s, u) :: E, E', ⟨h1, h2⟩, t, v, h => by
    rw [lk_cons] at h
    split at h
    · rename_i e; subst e; rw [h1]; exact h
    · exact sub_lk h2 t v h

theorem Fits.sub {n : Nat} {E E' : Env} {a : Act} (h : Fits n E' a) (hs : Ytmnmhmpklknleaa.sub E E') : Fits n E a := ⟨h.size, h.defers, fun t v ht => h.slots t v (sub_lk hs t v ht)⟩

/-- The call's own blocks, by labels. -/
abbrev Mm := List (Nat × Option Blk)
def lkM : Mm → Nat → Option Blk
  | [], _ => none
  | (s, v) :: r, t => bif Nat.beq s t then v else lkM r t
theorem lkM_cons (s : Nat) (v : Option Blk) (M : Mm) (t : Nat) : lkM ((s, v) :: M) t = if s = t then v else lkM M t := by
  show (bif Nat.beq s t then v else lkM M t) = _
  by_cases h : s = t
  · subst h; simp
  · simp [beq_ne h, h]
structure FitsM (M : Mm) (m : Mem) : Prop where
  has : ∀ i x, lkM M i = some x → x ∈ m
  apart : ∀ i j x y, lkM M i = some x → lkM M j = some y → i ≠ j → x.b ≠ y.b
/-- Every entry of the first is in the second. -/
def subL : Mm → Mm → Prop
  | [], _ => True
  | (t, v) :: r, M => lkM M t = v ∧ subL r M
theorem subL_lk : ∀ {M M' : Mm}, subL M M' → ∀ t v, lkM M t = some v → lkM M' t = some v
  | [], _, _, _, _, h => by simp [lkM] at h
  | (s, u) :: M, M', ⟨h1, h2⟩, t, v, h => by
    rw [lkM_cons] at h
    split at h
    · rename_i e; subst e; rw [h1]; exact h
    · exact subL_lk h2 t v h
theorem FitsM.sub {M M' : Mm} {m : Mem} (h : FitsM M' m) (hs : subL M M') : FitsM M m :=
  ⟨fun i x hx => h.has i x (subL_lk hs i x hx), fun i j x y hx hy => h.apart i j x y (subL_lk hs i x hx) (subL_lk hs j y hy)⟩
theorem FitsM.nil (m : Mem) : FitsM [] m := ⟨fun _ _ h => by simp [lkM] at h, fun _ _ _ _ h => by simp [lkM] at h⟩
theorem FitsM.alloc {M : Mm} {m : Mem} (h : FitsM M m) (i : Nat) (x : Blk) (hx : ∀ y ∈ m, y.b ≠ x.b) : FitsM ((i, some x) :: M) (m ++ [x]) := by
  refine ⟨fun j y hy => ?_, fun j k y z hy hz hne => ?_⟩
  · rw [lkM_cons] at hy
    split at hy
    · cases hy; simp
    · exact List.mem_append_left _ (h.has j y hy)
  · rw [lkM_cons] at hy hz
    split at hy
    · split at hz
      · rename_i e1 e2; exact absurd (e1.symm.trans e2) hne
      · cases hy; exact fun e => hx z (h.has k z hz) e.symm
    · split at hz
      · cases hz; exact hx y (h.has j y hy)
      · exact h.apart j k y z hy hz hne
theorem FitsM.store {M : Mm} {m : Mem} (h : FitsM M m) {i : Nat} {x : Blk} (hx : lkM M i = some x) {k : Nat} (hk : m[k]? = some x) (c' : Array Value) : FitsM ((i, some ⟨x.b, c', x.t⟩) :: M) (m.set k ⟨x.b, c', x.t⟩) := by
  have hlt : k < m.length := (List.getElem?_eq_some_iff.1 hk).1
  have hkx : m[k] = x := (List.getElem?_eq_some_iff.1 hk).2
  refine ⟨fun j y hy => ?_, fun j l y z hy hz hne => ?_⟩
  · rw [lkM_cons] at hy
    split at hy
    · cases hy; exact List.mem_set hlt _
    · rename_i hne
      have hm := h.has j y hy
      have hb : y.b ≠ x.b := h.apart j i y x hy hx (fun e => hne e.symm)
      obtain ⟨l, hl, rfl⟩ := List.getElem_of_mem hm
      have hkl : k ≠ l := fun e => by subst e; rw [hkx] at hb; exact hb rfl
      have : (m.set k ⟨x.b, c', x.t⟩)[l]? = some m[l] := by
        rw [List.getElem?_set_ne hkl, List.getElem?_eq_getElem hl]
      exact List.mem_of_getElem? this
  · rw [lkM_cons] at hy hz
    split at hy
    · split at hz
      · rename_i e1 e2; exact absurd (e1.symm.trans e2) hne
      · rename_i e2; cases hy; exact h.apart i l x z hx hz (fun e => e2 e)
    · split at hz
      · rename_i e1 _; cases hz; exact h.apart j i y x hy hx (fun e => e1 e.symm)
      · exact h.apart j l y z hy hz hne
theorem FitsM.at {M : Mm} {m : Mem} (h : FitsM M m) {i : Nat} {x : Blk} (hx : lkM M i = some x) : ∃ k : Nat, m[k]? = some x := List.getElem?_of_mem (h.has i x hx)

/-- The block i is none of X (whose labels are js). -/
def okX (M : Mm) (i : Nat) : List Nat → List Nat → Prop
  | [], [] => True
  | j :: js, x :: xs => Nat.beq j i = false ∧ (lkM M j).map (·.b) = some x ∧ okX M i js xs
  | _, _ => False
theorem okX_not {M : Mm} {m : Mem} (hM : FitsM M m) {i : Nat} {z : Blk} (hi : lkM M i = some z) : ∀ {js xs : List Nat}, okX M i js xs → z.b ∉ xs
  | [], [], _ => by simp
  | j :: js, x :: xs, ⟨h1, h2, h3⟩ => fun hm => by
    rcases List.mem_cons.1 hm with e | e
    · cases hj : lkM M j with
      | none => simp [hj] at h2
      | some y =>
        simp [hj] at h2
        exact hM.apart j i y z hj hi (fun e' => by subst e'; simp at h1) (h2.trans e.symm)
    · exact okX_not hM hi h3 e
  | [], _ :: _, h => h.elim
  | _ :: _, [], h => h.elim

def EK (n : Nat) (K : Env → Mm → Prop) : Act → Mem → Prop := fun a m => ∃ E M, Fits n E a ∧ FitsM M m ∧ K E M
def EQ (n : Nat) (Q : Exit → Env → Mm → Prop) : Exit → Act → Mem → Prop := fun e a m => ∃ E M, Fits n E a ∧ FitsM M m ∧ Q e E M

def OpsE (P : Program) (G : Mem) (R : Reg) (ops : Array Oper) (n : Nat) (K : Env → Mm → Prop) (l : List Oper) (E : Env) (M : Mm) : Prop := ∀ (a : Act) (m : Mem), Fits n E a → FitsM M m → opsM P G R ops (EK n K) l a m
def SatE (P : Program) (G : Mem) (c : Code) (n : Nat) (Q : Exit → Env → Mm → Prop) (E : Env) (M : Mm) : Prop := ∀ (a : Act) (m : Mem), Fits n E a → FitsM M m → Sat P G c (EQ n Q) a m

section
variable {P : Program} {G : Mem} {R : Reg} {ops : Array Oper} {n : Nat} {K : Env → Mm → Prop} {Q : Exit → Env → Mm → Prop} {rest : List Oper} {E : Env} {M : Mm} {d : Nat} {ty : TypeId} {pos : String} {aft : Array Edge}
variable {T T' : TypeId} {x y : Operand}

/-! ### Code -/
theorem e_nil (h : K E M) : OpsE P G R ops n K [] E M := fun _ _ ha hM => ⟨E, M, ha, hM, h⟩

theorem e_plainR (R : Reg) {id : Nat} (h : OpsE P G R ops n (Q .normal) ops.toList E M) : SatE P G (.region id ops false) n Q E M := fun a m ha hM => sat_plain R (h a m ha hM)
theorem e_plain {id : Nat} (h : OpsE P G noReg ops n (Q .normal) ops.toList E M) : SatE P G (.region id ops false) n Q E M := fun a m ha hM => sat_plain noReg (h a m ha hM)
theorem e_drawR (R : Reg) {id : Nat} (hm : P.follows .mixedOrders = true) (hok : orderOk R ops (List.range ops.size) = true) (h : OpsE P G R ops n (Q .normal) ops.toList E M) : SatE P G (.region id ops true) n Q E M := fun a m ha hM => sat_draw R hm hok (h a m ha hM)
theorem e_draw {id : Nat} (hm : P.follows .mixedOrders = true) (hok : orderOk noReg ops (List.range ops.size) = true) (h : OpsE P G noReg ops n (Q .normal) ops.toList E M) : SatE P G (.region id ops true) n Q E M := fun a m ha hM => sat_draw noReg hm hok (h a m ha hM)
theorem e_order (R : Reg) (ord : List Nat) {id : Nat} (hm : P.follows .mixedOrders = true) (hok : orderOk R ops ord = true) (h : OpsE P G R ops n (Q .normal) (ord.map (opOf ops)) E M) : SatE P G (.region id ops true) n Q E M := fun a m ha hM => sat_order R ord hm hok (h a m ha hM)
theorem e_skip (h : Q .normal E M) : SatE P G .skip n Q E M := fun _ _ ha hM => sat_skip ⟨E, M, ha, hM, h⟩
theorem e_exit {id : Nat} (h : Q (.exit id) E M) : SatE P G (.exit id) n Q E M := fun _ _ ha hM => sat_exit ⟨E, M, ha, hM, h⟩
theorem e_ret (h : Q .ret E M) : SatE P G .ret n Q E M := fun _ _ ha hM => sat_ret ⟨E, M, ha, hM, h⟩

def thenE (next : Env → Mm → Prop) (Q : Exit → Env → Mm → Prop) : Exit → Env → Mm → Prop
  | .normal, a, m => next a m
  | e, a, m => Q e a m

theorem e_seq {c c' : Code} (h : SatE P G c n (thenE (SatE P G c' n Q) Q) E M) : SatE P G (.seq c c') n Q E M := fun a m ha hM =>
  sat_seq (sat_mono (h a m ha hM) fun e a' m' ⟨E', M', h1, h0, h2⟩ => by
    cases e <;> first | exact h2 a' m' h1 h0 | exact ⟨E', M', h1, h0, h2⟩)

theorem e_cond {c : Operand} {x y : Code} {t : Bool} (hc : rd E c = some (.bool t)) (ht : t = true → SatE P G x n Q E M) (hf : t = false → SatE P G y n Q E M) : SatE P G (.cond c x y) n Q E M := fun a m ha hM =>
  sat_cond (ha.rd hc) (fun e => ht e a m ha hM) (fun e => hf e a m ha hM)

def inBlockE (id : Nat) (Q : Exit → Env → Mm → Prop) : Exit → Env → Mm → Prop
  | .exit id', a, m => bif Nat.beq id' id then Q .normal a m else Q (.exit id') a m
  | e, a, m => Q e a m

theorem e_block {id : Nat} {c : Code} (h : SatE P G c n (inBlockE id Q) E M) : SatE P G (.block id c) n Q E M := fun a m ha hM =>
  sat_block (sat_mono (h a m ha hM) fun e a' m' ⟨E', M', h1, h0, h2⟩ => by
    cases e with
    | exit id' =>
      simp only [inBlockE, inBlockM] at h2 ⊢
      by_cases he : id' = id
      · subst he; simp at h2 ⊢; exact ⟨E', M', h1, h0, h2⟩
      · simp [beq_ne he, he] at h2 ⊢; exact ⟨E', M', h1, h0, h2⟩
    | _ => exact ⟨E', M', h1, h0, h2⟩)

theorem e_sub {c : Code} (E' : Env) (M' : Mm) (hs : sub E' E) (hl : subL M' M) (h : SatE P G c n Q E' M') : SatE P G c n Q E M := fun a m ha hM => h a m (ha.sub hs) (hM.sub hl)

/-- A loop: I k holds at each round's head, k is lowered by each round. -/
theorem e_loop {c : Code} (I : Nat → Env → Mm → Prop) (E0 : Env) (M0 : Mm) (k : Nat) (hs : sub E0 E) (hl : subL M0 M) (h0 : I k E0 M0)
    (round : ∀ k E M, I k E M → SatE P G c n (thenE (fun E' M' => ∃ k' E'' M'', k' < k ∧ sub E'' E' ∧ subL M'' M' ∧ I k' E'' M'') Q) E M) : SatE P G (.loop c) n Q E M := fun a m ha hM =>
  sat_loop (fun k a m => ∃ E M, Fits n E a ∧ FitsM M m ∧ I k E M) (n := k) ⟨E0, M0, ha.sub hs, hM.sub hl, h0⟩ fun k a m ⟨E, M, hE, hM, hI⟩ =>
    sat_mono (round k E M hI a m hE hM) fun e a' m' ⟨E', M', h1, h0, h2⟩ => by
      cases e with
      | normal => obtain ⟨k', E'', M'', h3, h4, h6, h5⟩ := h2; exact ⟨k', h3, E'', M'', h1.sub h4, h0.sub h6, h5⟩
      | _ => exact ⟨E', M', h1, h0, h2⟩

/-! ### Operations -/
theorem e_move {v : Value} (hx : rd E x = some v) (hd : Nat.blt d n = true) (h : OpsE P G R ops n K rest ((d, v) :: E) M) : OpsE P G R ops n K (⟨some d, .move x, ty, pos, aft, none⟩ :: rest) E M :=
  fun _ _ ha hM => st_move (ha.rd hx) (h _ _ (ha.put hd _) hM)
theorem e_assign {v : Value} (hx : rd E x = some v) (hd : Nat.blt d n = true) (h : OpsE P G R ops n K rest ((d, v) :: E) M) : OpsE P G R ops n K (⟨some d, .assign x, ty, pos, aft, none⟩ :: rest) E M :=
  fun _ _ ha hM => st_assign (ha.rd hx) (h _ _ (ha.put hd _) hM)
theorem e_extract {i : Nat} {vs : Array Value} {v : Value} (hx : rd E x = some (.tuple vs)) (hv : vs[i]? = some v) (hd : Nat.blt d n = true) (h : OpsE P G R ops n K rest ((d, v) :: E) M) : OpsE P G R ops n K (⟨some d, .extract x i, ty, pos, aft, none⟩ :: rest) E M :=
  fun _ _ ha hM => st_extract (ha.rd hx) hv (h _ _ (ha.put hd _) hM)

theorem e_add_u {p q : Nat} (hx : rd E x = some (u p)) (hy : rd E y = some (u q)) (hd : Nat.blt d n = true) (h : OpsE P G R ops n K rest ((d, u ((p + q) % 18446744073709551616)) :: E) M) :
    OpsE P G R ops n K (⟨some d, .binOp .add T x y T', ty, pos, aft, none⟩ :: rest) E M := fun _ _ ha hM => st_add_u (ha.rd hx) (ha.rd hy) (h _ _ (ha.put hd _) hM)
theorem e_sub_u {p q : Nat} (hx : rd E x = some (u p)) (hy : rd E y = some (u q)) (hd : Nat.blt d n = true) (hq : q ≤ 18446744073709551616) (h : OpsE P G R ops n K rest ((d, u ((p + 18446744073709551616 - q) % 18446744073709551616)) :: E) M) :
    OpsE P G R ops n K (⟨some d, .binOp .sub T x y T', ty, pos, aft, none⟩ :: rest) E M := fun _ _ ha hM => st_sub_u (ha.rd hx) (ha.rd hy) hq (h _ _ (ha.put hd _) hM)
theorem e_mul_u {p q : Nat} (hx : rd E x = some (u p)) (hy : rd E y = some (u q)) (hd : Nat.blt d n = true) (h : OpsE P G R ops n K rest ((d, u ((p * q) % 18446744073709551616)) :: E) M) :
    OpsE P G R ops n K (⟨some d, .binOp .mul T x y T', ty, pos, aft, none⟩ :: rest) E M := fun _ _ ha hM => st_mul_u (ha.rd hx) (ha.rd hy) (h _ _ (ha.put hd _) hM)
theorem e_and_u {p q : Nat} (hx : rd E x = some (u p)) (hy : rd E y = some (u q)) (hd : Nat.blt d n = true) (h : OpsE P G R ops n K rest ((d, u ((p &&& q) % 18446744073709551616)) :: E) M) :
    OpsE P G R ops n K (⟨some d, .binOp .and T x y T', ty, pos, aft, none⟩ :: rest) E M := fun _ _ ha hM => st_and_u (ha.rd hx) (ha.rd hy) (h _ _ (ha.put hd _) hM)
theorem e_or_u {p q : Nat} (hx : rd E x = some (u p)) (hy : rd E y = some (u q)) (hd : Nat.blt d n = true) (h : OpsE P G R ops n K rest ((d, u ((p ||| q) % 18446744073709551616)) :: E) M) :
    OpsE P G R ops n K (⟨some d, .binOp .or T x y T', ty, pos, aft, none⟩ :: rest) E M := fun _ _ ha hM => st_or_u (ha.rd hx) (ha.rd hy) (h _ _ (ha.put hd _) hM)
theorem e_shl_u {k : IntKind} {p s : Nat} (hx : rd E x = some (u p)) (hy : rd E y = some (.int k (s : Int))) (hd : Nat.blt d n = true) (hs : s ≤ 64) (h : OpsE P G R ops n K rest ((d, u ((p * 2 ^ s) % 18446744073709551616)) :: E) M) :
    OpsE P G R ops n K (⟨some d, .binOp .shl T x y T', ty, pos, aft, none⟩ :: rest) E M := fun _ _ ha hM => st_shl_u (ha.rd hx) (ha.rd hy) hs (h _ _ (ha.put hd _) hM)
theorem e_shr_u {k : IntKind} {p s : Nat} (hx : rd E x = some (u p)) (hy : rd E y = some (.int k (s : Int))) (hd : Nat.blt d n = true) (hs : s ≤ 64) (h : OpsE P G R ops n K rest ((d, u (p / 2 ^ s)) :: E) M) :
    OpsE P G R ops n K (⟨some d, .binOp .shr T x y T', ty, pos, aft, none⟩ :: rest) E M := fun _ _ ha hM => st_shr_u (ha.rd hx) (ha.rd hy) hs (h _ _ (ha.put hd _) hM)
theorem e_quo_u {p q : Nat} (hx : rd E x = some (u p)) (hy : rd E y = some (u q)) (hd : Nat.blt d n = true) (hp : p < 18446744073709551616) (hq : 0 < q) (h : OpsE P G R ops n K rest ((d, u (p / q)) :: E) M) :
    OpsE P G R ops n K (⟨some d, .binOp .quo T x y T', ty, pos, aft, none⟩ :: rest) E M := fun _ _ ha hM => st_quo_u (ha.rd hx) (ha.rd hy) hp hq (h _ _ (ha.put hd _) hM)
theorem e_rem_u {p q : Nat} (hx : rd E x = some (u p)) (hy : rd E y = some (u q)) (hd : Nat.blt d n = true) (hq : 0 < q) (h : OpsE P G R ops n K rest ((d, u (p % q)) :: E) M) :
    OpsE P G R ops n K (⟨some d, .binOp .rem T x y T', ty, pos, aft, none⟩ :: rest) E M := fun _ _ ha hM => st_rem_u (ha.rd hx) (ha.rd hy) hq (h _ _ (ha.put hd _) hM)
theorem e_add_i {p q : Nat} (hx : rd E x = some (ii p)) (hy : rd E y = some (ii q)) (hd : Nat.blt d n = true) (hb : p + q < 9223372036854775808) (h : OpsE P G R ops n K rest ((d, ii (p + q)) :: E) M) :
    OpsE P G R ops n K (⟨some d, .binOp .add T x y T', ty, pos, aft, none⟩ :: rest) E M := fun _ _ ha hM => st_add_i (ha.rd hx) (ha.rd hy) hb (h _ _ (ha.put hd _) hM)
theorem e_mul_i {p q : Nat} (hx : rd E x = some (ii p)) (hy : rd E y = some (ii q)) (hd : Nat.blt d n = true) (hb : p * q < 9223372036854775808) (h : OpsE P G R ops n K rest ((d, ii (p * q)) :: E) M) :
    OpsE P G R ops n K (⟨some d, .binOp .mul T x y T', ty, pos, aft, none⟩ :: rest) E M := fun _ _ ha hM => st_mul_i (ha.rd hx) (ha.rd hy) hb (h _ _ (ha.put hd _) hM)
theorem e_quo_i {p q : Nat} (hx : rd E x = some (ii p)) (hy : rd E y = some (ii q)) (hd : Nat.blt d n = true) (hp : p < 9223372036854775808) (hq : 0 < q) (h : OpsE P G R ops n K rest ((d, ii (p / q)) :: E) M) :
    OpsE P G R ops n K (⟨some d, .binOp .quo T x y T', ty, pos, aft, none⟩ :: rest) E M := fun _ _ ha hM => st_quo_i (ha.rd hx) (ha.rd hy) hp hq (h _ _ (ha.put hd _) hM)
theorem e_rem_i {p q : Nat} (hx : rd E x = some (ii p)) (hy : rd E y = some (ii q)) (hd : Nat.blt d n = true) (hq : 0 < q) (h : OpsE P G R ops n K rest ((d, ii (p % q)) :: E) M) :
    OpsE P G R ops n K (⟨some d, .binOp .rem T x y T', ty, pos, aft, none⟩ :: rest) E M := fun _ _ ha hM => st_rem_i (ha.rd hx) (ha.rd hy) hq (h _ _ (ha.put hd _) hM)
theorem e_sub_z {p q : Int} (hx : rd E x = some (.int .i64 p)) (hy : rd E y = some (.int .i64 q)) (hd : Nat.blt d n = true) (h0 : -9223372036854775808 ≤ p - q) (h1 : p - q < 9223372036854775808) (h : OpsE P G R ops n K rest ((d, .int .i64 (p - q)) :: E) M) :
    OpsE P G R ops n K (⟨some d, .binOp .sub T x y T', ty, pos, aft, none⟩ :: rest) E M := fun _ _ ha hM => st_sub_z (ha.rd hx) (ha.rd hy) h0 h1 (h _ _ (ha.put hd _) hM)
theorem e_lt {k : IntKind} {p q : Int} (hx : rd E x = some (.int k p)) (hy : rd E y = some (.int k q)) (hd : Nat.blt d n = true) (h : OpsE P G R ops n K rest ((d, .bool (decide (p < q))) :: E) M) :
    OpsE P G R ops n K (⟨some d, .binOp .lss T x y T', ty, pos, aft, none⟩ :: rest) E M := fun _ _ ha hM => st_lt (ha.rd hx) (ha.rd hy) (h _ _ (ha.put hd _) hM)
theorem e_gt {k : IntKind} {p q : Int} (hx : rd E x = some (.int k p)) (hy : rd E y = some (.int k q)) (hd : Nat.blt d n = true) (h : OpsE P G R ops n K rest ((d, .bool (decide (q < p))) :: E) M) :
    OpsE P G R ops n K (⟨some d, .binOp .gtr T x y T', ty, pos, aft, none⟩ :: rest) E M := fun _ _ ha hM => st_gt (ha.rd hx) (ha.rd hy) (h _ _ (ha.put hd _) hM)
theorem e_ge {k : IntKind} {p q : Int} (hx : rd E x = some (.int k p)) (hy : rd E y = some (.int k q)) (hd : Nat.blt d n = true) (h : OpsE P G R ops n K rest ((d, .bool (decide (q ≤ p))) :: E) M) :
    OpsE P G R ops n K (⟨some d, .binOp .geq T x y T', ty, pos, aft, none⟩ :: rest) E M := fun _ _ ha hM => st_ge (ha.rd hx) (ha.rd hy) (h _ _ (ha.put hd _) hM)
theorem e_eq {k : IntKind} {p q : Int} (hx : rd E x = some (.int k p)) (hy : rd E y = some (.int k q)) (hd : Nat.blt d n = true) (h : OpsE P G R ops n K rest ((d, .bool (decide (p = q))) :: E) M) :
    OpsE P G R ops n K (⟨some d, .binOp .eql T x y T', ty, pos, aft, none⟩ :: rest) E M := fun _ _ ha hM => st_eq (ha.rd hx) (ha.rd hy) (h _ _ (ha.put hd _) hM)
theorem e_ne {k : IntKind} {p q : Int} (hx : rd E x = some (.int k p)) (hy : rd E y = some (.int k q)) (hd : Nat.blt d n = true) (h : OpsE P G R ops n K rest ((d, .bool (decide (p ≠ q))) :: E) M) :
    OpsE P G R ops n K (⟨some d, .binOp .neq T x y T', ty, pos, aft, none⟩ :: rest) E M := fun _ _ ha hM => st_ne (ha.rd hx) (ha.rd hy) (h _ _ (ha.put hd _) hM)
theorem e_not {b : Bool} (hx : rd E x = some (.bool b)) (hd : Nat.blt d n = true) (h : OpsE P G R ops n K rest ((d, .bool (!b)) :: E) M) : OpsE P G R ops n K (⟨some d, .unOp .not T x, ty, pos, aft, none⟩ :: rest) E M :=
  fun _ _ ha hM => st_not (ha.rd hx) (h _ _ (ha.put hd _) hM)
theorem e_neg_u {p : Nat} (hx : rd E x = some (u p)) (hd : Nat.blt d n = true) (hp : p ≤ 18446744073709551616) (h : OpsE P G R ops n K rest ((d, u ((18446744073709551616 - p) % 18446744073709551616)) :: E) M) :
    OpsE P G R ops n K (⟨some d, .unOp .neg T x, ty, pos, aft, none⟩ :: rest) E M := fun _ _ ha hM => st_neg_u (ha.rd hx) hp (h _ _ (ha.put hd _) hM)
theorem e_conv_u {k : IntKind} {dk : TypeDesc} {p : Nat} (hs : P.underlying T = some dk) (ht : P.underlying T' = some (.int .u64)) (hx : rd E x = some (.int k (p : Int))) (hd : Nat.blt d n = true) (hv : kconv R T T' = 1)
    (h : OpsE P G R ops n K rest ((d, u (p % 18446744073709551616)) :: E) M) : OpsE P G R ops n K (⟨some d, .convert T T' x, ty, pos, aft, none⟩ :: rest) E M := fun _ _ ha hM => st_conv_u hv hs ht (ha.rd hx) (h _ _ (ha.put hd _) hM)
theorem e_conv_u8 {k : IntKind} {dk : TypeDesc} {p : Nat} (hs : P.underlying T = some dk) (ht : P.underlying T' = some (.int .u8)) (hx : rd E x = some (.int k (p : Int))) (hd : Nat.blt d n = true) (hv : kconv R T T' = 1)
    (h : OpsE P G R ops n K rest ((d, by8 (p % 256)) :: E) M) : OpsE P G R ops n K (⟨some d, .convert T T' x, ty, pos, aft, none⟩ :: rest) E M := fun _ _ ha hM => st_conv_u8 hv hs ht (ha.rd hx) (h _ _ (ha.put hd _) hM)

theorem e_alloc (i : Nat) {z : Value} (hz : (P.info? T).bind (·.zero) = some z) (hd : Nat.blt d n = true) (h : ∀ r, OpsE P G R ops n K rest ((d, ptr r) :: E) ((i, some ⟨r, z.cells, T⟩) :: M)) :
    OpsE P G R ops n K (⟨some d, .alloc T, ty, pos, aft, none⟩ :: rest) E M := fun _ _ ha hM => st_alloc hz fun r hr => h r _ _ (ha.put hd _) (hM.alloc i ⟨r, z.cells, T⟩ hr)
theorem e_box (i : Nat) {v : Value} (hx : rd E x = some v) (hd : Nat.blt d n = true) (h : ∀ r, OpsE P G R ops n K rest ((d, ptr r) :: E) ((i, some ⟨r, v.cells, T⟩) :: M)) :
    OpsE P G R ops n K (⟨some d, .box T x, ty, pos, aft, none⟩ :: rest) E M := fun _ _ ha hM => st_box (ha.rd hx) fun r hr => h r _ _ (ha.put hd _) (hM.alloc i ⟨r, v.cells, T⟩ hr)
theorem e_load1 {b o i : Nat} {c : Array Value} {t : TypeId} {v : Value} {td : TypeDesc} (hT : P.underlying T = some td) (hn : rowLike td = false) (hx : rd E x = some (.pointer (some ⟨b, o, none⟩)))
    (hm : lkM M i = some ⟨b, c, t⟩) (hc : c[o]? = some v) (hd : Nat.blt d n = true) (hX : ∃ js, okX M i js R.X) (h : OpsE P G R ops n K rest ((d, v) :: E) M) : OpsE P G R ops n K (⟨some d, .load T x, ty, pos, aft, none⟩ :: rest) E M :=
  fun _ _ ha hM => by
    obtain ⟨k, hk⟩ := hM.at hm
    exact st_load1 hT hn (ha.rd hx) hk (by obtain ⟨js, hjs⟩ := hX; exact okX_not hM hm hjs) hc (h _ _ (ha.put hd _) hM)
theorem e_load1g {b o i : Nat} {c : Array Value} {t : TypeId} {v : Value} {td : TypeDesc} (hT : P.underlying T = some td) (hn : rowLike td = false) (hx : rd E x = some (.pointer (some ⟨b, o, none⟩)))
    (hm : G[i]? = some ⟨b, c, t⟩) (hc : c[o]? = some v) (hd : Nat.blt d n = true) (h : OpsE P G R ops n K rest ((d, v) :: E) M) : OpsE P G R ops n K (⟨some d, .load T x, ty, pos, aft, none⟩ :: rest) E M :=
  fun _ _ ha hM => st_load1g hT hn (ha.rd hx) hm hc (h _ _ (ha.put hd _) hM)
theorem e_loadA {b i l : Nat} {c : Array Value} {t : TypeId} {td : TypeDesc} (hT : P.underlying T = some td) (hn : rowLike td = true) (hs : (P.info? T).map (·.size) = some l)
    (hx : rd E x = some (.pointer (some ⟨b, 0, none⟩))) (hm : lkM M i = some ⟨b, c, t⟩) (hl : c.size = l) (hd : Nat.blt d n = true) (hX : ∃ js, okX M i js R.X) (h : OpsE P G R ops n K rest ((d, .agg c) :: E) M) : OpsE P G R ops n K (⟨some d, .load T x, ty, pos, aft, none⟩ :: rest) E M :=
  fun _ _ ha hM => by
    obtain ⟨k, hk⟩ := hM.at hm
    exact st_loadA hT hn (hl ▸ hs) (ha.rd hx) hk (by obtain ⟨js, hjs⟩ := hX; exact okX_not hM hm hjs) (h _ _ (ha.put hd _) hM)
theorem e_loadAg {b i l : Nat} {c : Array Value} {t : TypeId} {td : TypeDesc} (hT : P.underlying T = some td) (hn : rowLike td = true) (hs : (P.info? T).map (·.size) = some l)
    (hx : rd E x = some (.pointer (some ⟨b, 0, none⟩))) (hm : G[i]? = some ⟨b, c, t⟩) (hl : c.size = l) (hd : Nat.blt d n = true) (h : OpsE P G R ops n K rest ((d, .agg c) :: E) M) : OpsE P G R ops n K (⟨some d, .load T x, ty, pos, aft, none⟩ :: rest) E M :=
  fun _ _ ha hM => st_loadAg hT hn (hl ▸ hs) (ha.rd hx) hm (h _ _ (ha.put hd _) hM)
theorem e_storeN {b o i l v : Nat} {k : IntKind} {f : Nat → Nat} {t : TypeId} (hs : (P.info? T).map (·.size) = some 1) (hx : rd E x = some (.pointer (some ⟨b, o, none⟩))) (hy : rd E y = some (.int k (v : Int)))
    (hm : lkM M i = some ⟨b, arr k l f, t⟩) (ho : o < l) (hX : R.X = [] ∨ b ∈ R.X) (h : OpsE P G R ops n K rest E ((i, some ⟨b, arr k l (upd f o v), t⟩) :: M)) : OpsE P G R ops n K (⟨none, .store T x y, ty, pos, aft, none⟩ :: rest) E M :=
  fun _ _ ha hM => by
    obtain ⟨j, hj⟩ := hM.at hm
    exact st_storeN hs (ha.rd hx) (ha.rd hy) hj hX ho (h _ _ ha (hM.store hm hj _))
theorem e_storeA {b i l : Nat} {c c' : Array Value} {t : TypeId} (hs : (P.info? T).map (·.size) = some l) (hx : rd E x = some (.pointer (some ⟨b, 0, none⟩))) (hy : rd E y = some (.agg c')) (hl : c'.size = l)
    (hv : ∀ v ∈ c', v.oneCell' = true) (hm : lkM M i = some ⟨b, c, t⟩) (ho : c'.size = c.size) (hX : R.X = [] ∨ b ∈ R.X) (h : OpsE P G R ops n K rest E ((i, some ⟨b, c', t⟩) :: M)) : OpsE P G R ops n K (⟨none, .store T x y, ty, pos, aft, none⟩ :: rest) E M :=
  fun _ _ ha hM => by
    obtain ⟨j, hj⟩ := hM.at hm
    exact st_storeA (hl ▸ hs) (ha.rd hx) (ha.rd hy) hv hj hX ho (h _ _ ha (hM.store hm hj _))
theorem e_index {b o j l : Nat} {k : IntKind} {e : TypeId} (hT : P.underlying T = some (.array l e)) (hs : (P.info? e).map (·.size) = some 1) (hx : rd E x = some (.pointer (some ⟨b, o, none⟩))) (hy : rd E y = some (.int k (j : Int))) (hj : j < l)
    (hd : Nat.blt d n = true) (h : OpsE P G R ops n K rest ((d, .pointer (some ⟨b, o + j, none⟩)) :: E) M) : OpsE P G R ops n K (⟨some d, .indexAddr T x y, ty, pos, aft, none⟩ :: rest) E M :=
  fun _ _ ha hM => st_index hT hs (ha.rd hx) (ha.rd hy) hj (h _ _ (ha.put hd _) hM)
theorem e_index0 {b j l : Nat} {k : IntKind} {e : TypeId} (hT : P.underlying T = some (.array l e)) (hs : (P.info? e).map (·.size) = some 1) (hx : rd E x = some (.pointer (some ⟨b, 0, none⟩))) (hy : rd E y = some (.int k (j : Int))) (hj : j < l)
    (hd : Nat.blt d n = true) (h : OpsE P G R ops n K rest ((d, .pointer (some ⟨b, j, none⟩)) :: E) M) : OpsE P G R ops n K (⟨some d, .indexAddr T x y, ty, pos, aft, none⟩ :: rest) E M :=
  fun _ _ ha hM => st_index hT hs (ha.rd hx) (ha.rd hy) hj (by rw [Nat.zero_add]; exact h _ _ (ha.put hd _) hM)
theorem e_idx {j l : Nat} {k k' k2 : IntKind} {e : TypeId} {f : Nat → Nat} (hT : P.underlying T = some (.array l e)) (he : P.underlying e = some (.int k')) (hs : (P.info? e).map (·.size) = some 1) (hx : rd E x = some (.agg (arr k l f))) (hy : rd E y = some (.int k2 (j : Int))) (hj : j < l)
    (hd : Nat.blt d n = true) (h : OpsE P G R ops n K rest ((d, .int k (f j : Int)) :: E) M) : OpsE P G R ops n K (⟨some d, .index T x y, ty, pos, aft, none⟩ :: rest) E M :=
  fun _ _ ha hM => st_idx hT he hs (ha.rd hx) (ha.rd hy) hj (h _ _ (ha.put hd _) hM)
theorem arr_one {k : IntKind} {l : Nat} {f : Nat → Nat} : ∀ v ∈ arr k l f, v.oneCell' = true := fun v hv => by
  simp [arr] at hv
  obtain ⟨i, _, rfl⟩ := hv
  rfl
theorem e_build0 {z : Value} {l : Nat} {e : TypeId} (hz : (P.info? T).bind (·.zero) = some z) (hT : P.underlying T = some (.array l e)) (hs : ((P.info? e).map (·.size)).isSome = true) (hd : Nat.blt d n = true)
    (h : OpsE P G R ops n K rest ((d, .agg z.cells) :: E) M) : OpsE P G R ops n K (⟨some d, .build T #[], ty, pos, aft, none⟩ :: rest) E M := fun _ _ ha hM => st_build0 hz hT hs (h _ _ (ha.put hd _) hM)
def rdp (E : Env) : List (Nat × Operand) → Option (List (Nat × Value))
  | [] => some []
  | (i, x) :: r => match rd E x, rdp E r with
    | some v, some vs => some ((i, v) :: vs)
    | _, _ => none
theorem Fits.rdp {a : Act} (h : Fits n E a) : ∀ {l : List (Nat × Operand)} {vs : List (Nat × Value)}, Ytmnmhmpklknleaa.rdp E l = some vs → l.map (fun p => (p.1, a.eval p.2)) = vs
  | [], vs, hl => by simpa [Ytmnmhmpklknleaa.rdp] using hl
  | (i, x) :: l, vs, hl => by
    unfold Ytmnmhmpklknleaa.rdp at hl
    split at hl
    · rename_i v ws h1 h2
      simp at hl
      subst hl
      rw [List.map_cons, h.rd h1, Fits.rdp h h2]
    · cases hl
theorem e_build {z : Value} {l : Nat} {e : TypeId} {parts : Array (Nat × Operand)} {pv : List (Nat × Value)} (c : Array Value) (hz : (P.info? T).bind (·.zero) = some z) (hT : P.underlying T = some (.array l e)) (hs : (P.info? e).map (·.size) = some 1)
    (hp : rdp E parts.toList = some pv) (hf : Instr.fill (fun i => some (i * 1, 1)) z.cells pv = some c) (hd : Nat.blt d n = true)
    (h : OpsE P G R ops n K rest ((d, .agg c) :: E) M) : OpsE P G R ops n K (⟨some d, .build T parts, ty, pos, aft, none⟩ :: rest) E M :=
  fun _ _ ha hM => st_build hz hT hs (ha.rdp hp) hf (h _ _ (ha.put hd _) hM)
theorem e_pickT {p q r : Operand} {t : Bool} {v : Value} (hc : rd E p = some (.bool t)) (ht : t = true) (hv : rd E q = some v) (hd : Nat.blt d n = true) (h : OpsE P G R ops n K rest ((d, v) :: E) M) :
    OpsE P G R ops n K (⟨some d, .pick p q r, ty, pos, aft, none⟩ :: rest) E M := fun _ _ ha hM => st_pick (ha.rd hc) (by rw [ht, if_pos rfl]; exact ha.rd hv) (h _ _ (ha.put hd _) hM)
theorem e_pickF {p q r : Operand} {t : Bool} {v : Value} (hc : rd E p = some (.bool t)) (ht : t = false) (hv : rd E r = some v) (hd : Nat.blt d n = true) (h : OpsE P G R ops n K rest ((d, v) :: E) M) :
    OpsE P G R ops n K (⟨some d, .pick p q r, ty, pos, aft, none⟩ :: rest) E M := fun _ _ ha hM => st_pick (ha.rd hc) (by rw [ht, if_neg (by decide)]; exact ha.rd hv) (h _ _ (ha.put hd _) hM)
theorem Fits.yielded {a : Act} (h : Fits n E a) {g s : Nat} {b : Bool} (hg : (ops[g]?).bind (·.dst) = some s) (hb : lk E s = some (.bool b)) : Go.yielded ops a.tmps g = some b := by
  unfold Go.yielded
  rw [hg]
  simp [h.slots _ _ hb]
theorem e_yes {dd : Option Tmp} {op : Op} {g s : Nat} {want b : Bool} (hg : (ops[g]?).bind (·.dst) = some s) (hb : lk E s = some (.bool b)) (hw : b = want) (h : OpsE P G R ops n K (⟨dd, op, ty, pos, aft, none⟩ :: rest) E M) :
    OpsE P G R ops n K (⟨dd, op, ty, pos, aft, some (g, want)⟩ :: rest) E M := fun a m ha hM => st_yes (by rw [← hw]; exact ha.yielded hg hb) (h a m ha hM)
theorem e_no {op : Op} {g s : Nat} {want b : Bool} (hg : (ops[g]?).bind (·.dst) = some s) (hb : lk E s = some (.bool b)) (hw : b ≠ want) (hd : Nat.blt d n = true) (h : OpsE P G R ops n K rest ((d, undef) :: E) M) :
    OpsE P G R ops n K (⟨some d, op, ty, pos, aft, some (g, want)⟩ :: rest) E M := fun _ _ ha hM => st_no (ha.yielded hg hb) hw (h _ _ (ha.put hd _) hM)
theorem e_eqA {e : TypeId} {k k' : IntKind} {l : Nat} {f g : Nat → Nat} (hT : P.underlying T = some (.array l e)) (he : P.underlying e = some (.int k')) (hs : (P.info? e).map (·.size) = some 1) (hg : P.eqGuardType P.depth T = false)
    (hx : rd E x = some (.agg (arr k l f))) (hy : rd E y = some (.agg (arr k l g))) (hd : Nat.blt d n = true) (h : OpsE P G R ops n K rest ((d, .bool (allEq l f g)) :: E) M) : OpsE P G R ops n K (⟨some d, .binOp .eql T x y T', ty, pos, aft, none⟩ :: rest) E M :=
  fun _ _ ha hM => st_eqA hT he hs hg (ha.rd hx) (ha.rd hy) (h _ _ (ha.put hd _) hM)
theorem e_neA {e : TypeId} {k k' : IntKind} {l : Nat} {f g : Nat → Nat} (hT : P.underlying T = some (.array l e)) (he : P.underlying e = some (.int k')) (hs : (P.info? e).map (·.size) = some 1) (hg : P.eqGuardType P.depth T = false)
    (hx : rd E x = some (.agg (arr k l f))) (hy : rd E y = some (.agg (arr k l g))) (hd : Nat.blt d n = true) (h : OpsE P G R ops n K rest ((d, .bool (!allEq l f g)) :: E) M) : OpsE P G R ops n K (⟨some d, .binOp .neq T x y T', ty, pos, aft, none⟩ :: rest) E M :=
  fun _ _ ha hM => st_neA hT he hs hg (ha.rd hx) (ha.rd hy) (h _ _ (ha.put hd _) hM)
theorem e_eqB {p q : Bool} (hT : P.underlying T = some .bool) (hx : rd E x = some (.bool p)) (hy : rd E y = some (.bool q)) (hd : Nat.blt d n = true) (h : OpsE P G R ops n K rest ((d, .bool (p == q)) :: E) M) :
    OpsE P G R ops n K (⟨some d, .binOp .eql T x y T', ty, pos, aft, none⟩ :: rest) E M := fun _ _ ha hM => st_eqB hT (ha.rd hx) (ha.rd hy) (h _ _ (ha.put hd _) hM)
/-- A value is another one, as is known. -/
theorem e_as {l : List Oper} {s : Nat} {v v' : Value} (hv : v = v') (h : OpsE P G R ops n K l ((s, v') :: E) M) : OpsE P G R ops n K l ((s, v) :: E) M := by rw [hv]; exact h
theorem e_callE {f : FuncId} {args : Array Operand} {tys : Array TypeId} {vs : List Value} {v : Value} (hargs : rdl E args.toList = some vs) (hr : ∀ w, (callFunc f vs.toArray).run P w = .ok (.value v) w) (hd : Nat.blt d n = true) (hR : callOk R = true)
    (h : OpsE P G R ops n K rest ((d, v) :: E) M) : OpsE P G R ops n K (⟨some d, .call ⟨.value (.func f), args, tys⟩, ty, pos, aft, none⟩ :: rest) E M :=
  fun _ _ ha hM => st_callE hR (ha.args hargs) hr (h _ _ (ha.put hd _) hM)
theorem e_call {f : FuncId} {args : Array Operand} {tys : Array TypeId} {vs : List Value} {v : Value} (hargs : rdl E args.toList = some vs) (he : enters P f = true) (hF : Fn P G f vs.toArray v) (hd : Nat.blt d n = true) (hR : callOk R = true)
    (h : OpsE P G R ops n K rest ((d, v) :: E) M) : OpsE P G R ops n K (⟨some d, .call ⟨.value (.func f), args, tys⟩, ty, pos, aft, none⟩ :: rest) E M :=
  fun _ _ ha hM => st_call hR (ha.args hargs) he hF (h _ _ (ha.put hd _) hM)

/-- Every block of the first is among the others. -/
def subM : Mem → Mm → Prop
  | [], _ => True
  | z :: r, M => (∃ i : Nat, lkM M i = some z) ∧ subM r M
theorem subM_in {m : Mem} (hM : FitsM M m) : ∀ {g : Mem}, subM g M → ∀ {w : World}, MemIn m w → MemR g w
  | [], _, _, _ => fun _ hx => by cases hx
  | z :: r, ⟨⟨i, hi⟩, h2⟩, w, hm => fun x hx => by
    rcases List.mem_cons.1 hx with rfl | hx
    · exact (hm _ (hM.has i _ hi)).read
    · exact subM_in hM h2 hm x hx
theorem e_callV (g : Mem) {fo : Operand} {f : FuncId} {args : Array Operand} {tys : Array TypeId} {vs cap : List Value} {v : Value} (hf : rd E fo = some (.func (.func f) #[] cap.toArray)) (hargs : rdl E args.toList = some vs) (he : enters P f = true) (hg : subM g M)
    (hF : Fn P g f (vs ++ cap).toArray v) (hd : Nat.blt d n = true) (hR : callOk R = true) (hX : R.X = []) (h : OpsE P G R ops n K rest ((d, v) :: E) M) : OpsE P G R ops n K (⟨some d, .call ⟨.value fo, args, tys⟩, ty, pos, aft, none⟩ :: rest) E M :=
  fun _ _ ha hM => st_callV hR (ha.rd hf) (ha.args hargs) he (fun w _ hm => by
    have := hF w (subM_in hM hg (fun z hz => hm z hz (by rw [hX]; simp)))
    simpa using this) (h _ _ (ha.put hd _) hM)
theorem e_func {fn : Go.Fn} {fs cs : Array Operand} {vf vc : List Value} (h1 : rdl E fs.toList = some vf) (h2 : rdl E cs.toList = some vc) (hd : Nat.blt d n = true) (h : OpsE P G R ops n K rest ((d, .func fn vf.toArray vc.toArray) :: E) M) :
    OpsE P G R ops n K (⟨some d, .makeFunc fn fs cs, ty, pos, aft, none⟩ :: rest) E M := fun _ _ ha hM => st_func (ha.args h1) (ha.args h2) (h _ _ (ha.put hd _) hM)

/-! ### A function's end -/
/-- What a result's slot reads as. -/
def Res (P : Program) (E : Env) (M : Mm) : ResultVar → Value → Prop
  | .tmp t, v => lk E t = some v
  | .cell t T, v => ∃ (b i l : Nat) (c : Array Value) (t' : TypeId) (td : TypeDesc), lk E t = some (ptr b) ∧ lkM M i = some ⟨b, c, t'⟩ ∧ P.underlying T = some td ∧ rowLike td = true ∧ (P.info? T).map (·.size) = some l ∧ c.size = l ∧ v = .agg c

theorem Res.tmp {t : Nat} {v : Value} (h : lk E t = some v) : Res P E M (.tmp t) v := h
theorem Res.cell {t : Nat} {T : TypeId} {b i l : Nat} {c : Array Value} {t' : TypeId} {td : TypeDesc} (h : lk E t = some (ptr b)) (hm : lkM M i = some ⟨b, c, t'⟩) (hT : P.underlying T = some td) (hn : rowLike td = true)
      (hs : (P.info? T).map (·.size) = some l) (hl : c.size = l) : Res P E M (.cell t T) (.agg c) := ⟨b, i, l, c, t', td, h, hm, hT, hn, hs, hl, rfl⟩

def resv (tmps : Array Value) : ResultVar → Sem Value
  | .tmp t => pure (tmps.getD t undef)
  | .cell c t => do loadVar t (← asAddr (tmps.getD c undef))

theorem results_eq (fn : Func) (tmps : Array Value) : results fn tmps = (do
  let vs ← fn.results.mapM (resv tmps)
  pure (if h : vs.size = 1 then vs[0] else .tuple vs)) := by
  unfold results
  congr 1

theorem res_run {a : Act} {m : Mem} (ha : Fits n E a) (hM : FitsM M m) {w : World} (hw : MemIn m w) {r : ResultVar} {v : Value} (h : Res P E M r v) : (resv a.tmps r).run P w = .ok v w := by
  cases r with
  | tmp t =>
    have h : lk E t = some v := h
    simp [resv, Array.getD_eq_getD_getElem?, ha.slots _ _ h]
  | cell t T =>
    obtain ⟨b, i, l, c, t', td, h, hm, hT, hn, hs, hl, rfl⟩ := h
    have hs := hl ▸ hs
    have hin := (hw _ (hM.has i _ hm)).read
    have := ha.slots _ _ h
    simp [resv, Array.getD_eq_getD_getElem?, this, ptr, asAddr, run_loadAll hin hT hn hs]

def End1 (P : Program) (fn : Func) (v : Value) : Exit → Env → Mm → Prop
  | .normal, E, M | .ret, E, M => ∃ r, fn.results = #[r] ∧ Res P E M r v
  | _, _, _ => False
def End2 (P : Program) (fn : Func) (v v' : Value) : Exit → Env → Mm → Prop
  | .normal, E, M | .ret, E, M => ∃ r r', fn.results = #[r, r'] ∧ Res P E M r v ∧ Res P E M r' v'
  | _, _, _ => False

theorem mapM1 {r : ResultVar} (f : ResultVar → Sem Value) : Array.mapM f #[r] = (do let v ← f r; pure #[v]) := by
  rw [Array.mapM_eq_mapM_toList]; simp
theorem mapM2 {r r' : ResultVar} (f : ResultVar → Sem Value) : Array.mapM f #[r, r'] = (do let v ← f r; let v' ← f r'; pure #[v, v']) := by
  rw [Array.mapM_eq_mapM_toList]; simp

theorem fn1 {f : FuncId} {fn : Func} {c : Code} {args : Array Value} {v : Value} (hf : P.funcs[f]? = some fn) (hb : fn.body = some c) (hn : fn.ntmps = n) (ha : args.size ≤ n) (E : Env) (hE : ∀ t v, lk E t = some v → args[t]? = some v)
    (h : SatE P G c n (End1 P fn v) E []) : Fn P G f args v :=
  fn_of hf hb (sat_mono (h _ [] ⟨by simp [hn]; omega, rfl, fun t v ht => by
    have := hE t v ht
    have hlt := (Array.getElem?_eq_some_iff.1 this).1
    rw [Array.getElem?_append_left hlt]; exact this⟩ (FitsM.nil _)) fun e a m ⟨E', M', h1, h0, h2⟩ => by
      have key : (∃ r, fn.results = #[r] ∧ Res P E' M' r v) → a.defers = [] ∧ ∀ w, MemIn m w → (results fn a.tmps).run P w = .ok v w := fun ⟨r, hr, hR⟩ => ⟨h1.defers, fun w hw => by
        have := res_run h1 h0 hw hR
        rw [results_eq, hr, mapM1]
        simp [this]⟩
      cases e <;> first | exact key h2 | exact h2.elim)

theorem fn2 {f : FuncId} {fn : Func} {c : Code} {args : Array Value} {v v' : Value} (hf : P.funcs[f]? = some fn) (hb : fn.body = some c) (hn : fn.ntmps = n) (ha : args.size ≤ n) (E : Env) (hE : ∀ t v, lk E t = some v → args[t]? = some v)
    (h : SatE P G c n (End2 P fn v v') E []) : Fn P G f args (.tuple #[v, v']) :=
  fn_of hf hb (sat_mono (h _ [] ⟨by simp [hn]; omega, rfl, fun t v ht => by
    have := hE t v ht
    have hlt := (Array.getElem?_eq_some_iff.1 this).1
    rw [Array.getElem?_append_left hlt]; exact this⟩ (FitsM.nil _)) fun e a m ⟨E', M', h1, h0, h2⟩ => by
      have key : (∃ r r', fn.results = #[r, r'] ∧ Res P E' M' r v ∧ Res P E' M' r' v') → a.defers = [] ∧ ∀ w, MemIn m w → (results fn a.tmps).run P w = .ok (.tuple #[v, v']) w := fun ⟨r, r', hr, hR, hR'⟩ => ⟨h1.defers, fun w hw => by
        have := res_run h1 h0 hw hR
        have t' := res_run h1 h0 hw hR'
        rw [results_eq, hr, mapM2]
        simp [this, t']⟩
      cases e <;> first | exact key h2 | exact h2.elim)

/-- The slots of the arguments. -/
def argE : List Value → Nat → Env
  | [], _ => []
  | v :: r, i => (i, v) :: argE r (i + 1)

theorem argE_lt : ∀ (l : List Value) (i t : Nat) (v : Value), lk (argE l i) t = some v → i ≤ t ∧ l[t - i]? = some v
  | [], _, _, _, h => by simp [argE, lk] at h
  | x :: l, i, t, v, h => by
    unfold argE at h
    rw [lk_cons] at h
    split at h
    · rename_i e; subst e; simpa using h
    · have := argE_lt l (i + 1) t v h
      refine ⟨by omega, ?_⟩
      have e : t - i = (t - (i + 1)) + 1 := by omega
      rw [e]; simpa using this.2

theorem argE_ok (l : List Value) : ∀ t v, lk (argE l 0) t = some v → l.toArray[t]? = some v := fun t v h => by
  have := (argE_lt l 0 t v h).2
  simpa using this

end
end Go.Proofs.Ytmnmhmpklknleaa
