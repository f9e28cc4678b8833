/-
  The same rules over a list of the slots that are known: what a slot holds is looked up, by computation.
-/
import Derived.Test.YtkoigikldikmmabOps
namespace Go.Proofs.Ytkoigikldikmmab
open Go Go.RowKit

abbrev Env := List (Nat × Value)

def lk : Env → Nat → Option Value
  | [], _ => none
  | (s, v) :: r, t => bif Nat.beq s t then some v else lk r t

def rd (E : Env) : Operand → Option Value
  | .tmp t => lk E t
  | .const v => some v
  | .global g => some (.pointer (some ⟨g, 0, none⟩))
  | .func f => some (.func (.func f) #[] #[])

def rdl (E : Env) : List Operand → Option (List Value)
  | [] => some []
  | x :: r => match rd E x, rdl E r with
    | some v, some vs => some (v :: vs)
    | _, _ => none

/-- Every entry of the first is in the second. -/
def sub : Env → Env → Prop
  | [], _ => True
  | (t, v) :: r, E => lk E t = some v ∧ sub r E

structure Fits (n : Nat) (E : Env) (a : Act) : Prop where
  size : a.tmps.size = n
  defers : a.defers = []
  slots : ∀ t v, lk E t = some v → a.tmps[t]? = some v

theorem Fits.rd {n : Nat} {E : Env} {a : Act} (h : Fits n E a) {x : Operand} {v : Value} (hx : Ytkoigikldikmmab.rd E x = some v) : a.eval x = v := by
  cases x with
  | tmp t =>
    have := h.slots t v hx
    simp [Act.eval, Array.getD_eq_getD_getElem?, this]
  | const c => simpa [Ytkoigikldikmmab.rd, Act.eval] using hx
  | global g => simpa [Ytkoigikldikmmab.rd, Act.eval] using hx
  | func f => simpa [Ytkoigikldikmmab.rd, Act.eval] using hx

theorem Fits.rdl {n : Nat} {E : Env} {a : Act} (h : Fits n E a) : ∀ {l : List Operand} {vs : List Value}, Ytkoigikldikmmab.rdl E l = some vs → l.map a.eval = vs
  | [], vs, hl => by simpa [Ytkoigikldikmmab.rdl] using hl
  | x :: l, vs, hl => by
    unfold Ytkoigikldikmmab.rdl at hl
    split at hl
    · rename_i v ws h1 h2
      simp at hl
      subst hl
      rw [List.map_cons, h.rd h1, Fits.rdl h h2]
    · cases hl

theorem Fits.args {n : Nat} {E : Env} {a : Act} (h : Fits n E a) {l : Array Operand} {vs : List Value} (hl : Ytkoigikldikmmab.rdl E l.toList = some vs) : l.map a.eval = vs.toArray := by
  have := h.rdl hl
  apply Array.ext'
  simpa using this

theorem beq_ne {s t : Nat} (h : ¬ s = t) : Nat.beq s t = false := by
  cases hb : Nat.beq s t with
  | false => rfl
  | true => exact absurd (Nat.eq_of_beq_eq_true hb) h

theorem lk_cons (s : Nat) (v : Value) (E : Env) (t : Nat) : lk ((s, v) :: E) t = if s = t then some v else lk E t := by
  show (bif Nat.beq s t then some v else lk E t) = _
  by_cases h : s = t
  · subst h; simp
  · simp [beq_ne h, h]

theorem Fits.put {n : Nat} {E : Env} {a : Act} (h : Fits n E a) {d : Nat} (hd : Nat.blt d n = true) (v : Value) : Fits n ((d, v) :: E) (a.put (some d) v) := by
  have hd' : d < n := by simpa using hd
  refine ⟨by simpa [Act.put] using h.size, by simpa [Act.put] using h.defers, fun t u ht => ?_⟩
  rw [lk_cons] at ht
  simp only [Act.put]
  split at ht
  · rename_i e; subst e
    rw [Array.getElem?_setIfInBounds_self_of_lt (by rw [h.size]; exact hd')]; exact ht
  · rename_i e
    rw [Array.getElem?_setIfInBounds_ne e]; exact h.slots t u ht

theorem sub_lk : ∀ {E E' : Env}, sub E E' → ∀ t v, lk E t = some v → lk E' t = some v
  | [], _, _, _, _, h => by simp [lk] at h
  | (s, u) :: E, E', ⟨h1, h2⟩, t, v, h => by
    rw [lk_cons] at h
    split at h
    · rename_i e; subst e; rw [h1]; exact h
    · exact sub_lk h2 t v h

theorem Fits.sub {n : Nat} {E E' : Env} {a : Act} (h : Fits n E' a) (hs : Ytkoigikldikmmab.sub E E') : Fits n E a := ⟨h.size, h.defers, fun t v ht => h.slots t v (sub_lk hs t v ht)⟩

def EK (n : Nat) (K : Env → Mem → Prop) : Act → Mem → Prop := fun a m => ∃ E, Fits n E a ∧ K E m
def EQ (n : Nat) (Q : Exit → Env → Mem → Prop) : Exit → Act → Mem → Prop := fun e a m => ∃ E, Fits n E a ∧ Q e E m

def OpsE (P : Program) (G : Mem) (ops : Array Oper) (n : Nat) (K : Env → Mem → Prop) (l : List Oper) (E : Env) (m : Mem) : Prop := ∀ a : Act, Fits n E a → opsM P G ops (EK n K) l a m
def SatE (P : Program) (G : Mem) (c : Code) (n : Nat) (Q : Exit → Env → Mem → Prop) (E : Env) (m : Mem) : Prop := ∀ a, Fits n E a → Sat P G c (EQ n Q) a m

section
variable {P : Program} {G : Mem} {ops : Array Oper} {n : Nat} {K : Env → Mem → Prop} {Q : Exit → Env → Mem → Prop} {rest : List Oper} {E : Env} {m : Mem} {d : Nat} {ty : TypeId} {pos : String} {aft : Array Edge}
variable {T T' : TypeId} {x y : Operand}

/-! ### Code -/
theorem e_nil (h : K E m) : OpsE P G ops n K [] E m := fun _ ha => ⟨E, ha, h⟩

theorem eq_norm {Q : Exit → Env → Mem → Prop} : EK n (Q .normal) = EQ n Q .normal := rfl

theorem e_plain {id : Nat} (h : OpsE P G ops n (Q .normal) ops.toList E m) : SatE P G (.region id ops false) n Q E m := fun a ha => sat_plain (h a ha)
theorem e_draw {id : Nat} (hm : P.follows .mixedOrders = true) (hok : orderOk ops = true) (h : OpsE P G ops n (Q .normal) ops.toList E m) : SatE P G (.region id ops true) n Q E m := fun a ha => sat_draw hm hok (h a ha)
theorem e_skip (h : Q .normal E m) : SatE P G .skip n Q E m := fun _ ha => sat_skip ⟨E, ha, h⟩
theorem e_exit {id : Nat} (h : Q (.exit id) E m) : SatE P G (.exit id) n Q E m := fun _ ha => sat_exit ⟨E, ha, h⟩
theorem e_ret (h : Q .ret E m) : SatE P G .ret n Q E m := fun _ ha => sat_ret ⟨E, ha, h⟩

def thenE (next : Env → Mem → Prop) (Q : Exit → Env → Mem → Prop) : Exit → Env → Mem → Prop
  | .normal, a, m => next a m
  | e, a, m => Q e a m

theorem e_seq {c c' : Code} (h : SatE P G c n (thenE (SatE P G c' n Q) Q) E m) : SatE P G (.seq c c') n Q E m := fun a ha =>
  sat_seq (sat_mono (h a ha) fun e a' m' ⟨E', h1, h2⟩ => by
    cases e <;> first | exact h2 a' h1 | exact ⟨E', h1, h2⟩)

theorem e_cond {c : Operand} {x y : Code} {t : Bool} (hc : rd E c = some (.bool t)) (ht : t = true → SatE P G x n Q E m) (hf : t = false → SatE P G y n Q E m) : SatE P G (.cond c x y) n Q E m := fun a ha =>
  sat_cond (ha.rd hc) (fun e => ht e a ha) (fun e => hf e a ha)

def inBlockE (id : Nat) (Q : Exit → Env → Mem → Prop) : Exit → Env → Mem → Prop
  | .exit id', a, m => bif Nat.beq id' id then Q .normal a m else Q (.exit id') a m
  | e, a, m => Q e a m

theorem e_block {id : Nat} {c : Code} (h : SatE P G c n (inBlockE id Q) E m) : SatE P G (.block id c) n Q E m := fun a ha =>
  sat_block (sat_mono (h a ha) fun e a' m' ⟨E', h1, h2⟩ => by
    cases e with
    | exit id' =>
      simp only [inBlockE, inBlockM] at h2 ⊢
      by_cases he : id' = id
      · subst he; simp at h2 ⊢; exact ⟨E', h1, h2⟩
      · simp [beq_ne he, he] at h2 ⊢; exact ⟨E', h1, h2⟩
    | _ => exact ⟨E', h1, h2⟩)

theorem e_sub {c : Code} (E' : Env) (hs : sub E' E) (h : SatE P G c n Q E' m) : SatE P G c n Q E m := fun a ha => h a (ha.sub hs)

/-- A loop: I k holds at each round's head, k is lowered by each round. -/
theorem e_loop {c : Code} (I : Nat → Env → Mem → Prop) (E0 : Env) (k : Nat) (hs : sub E0 E) (h0 : I k E0 m)
    (round : ∀ k E m, I k E m → SatE P G c n (thenE (fun E' m' => ∃ k' E'', k' < k ∧ sub E'' E' ∧ I k' E'' m') Q) E m) : SatE P G (.loop c) n Q E m := fun a ha =>
  sat_loop (fun k a m => ∃ E, Fits n E a ∧ I k E m) (n := k) ⟨E0, ha.sub hs, h0⟩ fun k a m ⟨E, hE, hI⟩ =>
    sat_mono (round k E m hI a hE) fun e a' m' ⟨E', h1, h2⟩ => by
      cases e with
      | normal => obtain ⟨k', E'', h3, h4, h5⟩ := h2; exact ⟨k', h3, E'', h1.sub h4, h5⟩
      | _ => exact ⟨E', h1, h2⟩

/-! ### Operations -/
theorem e_move {v : Value} (hx : rd E x = some v) (hd : Nat.blt d n = true) (h : OpsE P G ops n K rest ((d, v) :: E) m) : OpsE P G ops n K (⟨some d, .move x, ty, pos, aft, none⟩ :: rest) E m :=
  fun _ ha => st_move (ha.rd hx) (h _ (ha.put hd _))
theorem e_assign {v : Value} (hx : rd E x = some v) (hd : Nat.blt d n = true) (h : OpsE P G ops n K rest ((d, v) :: E) m) : OpsE P G ops n K (⟨some d, .assign x, ty, pos, aft, none⟩ :: rest) E m :=
  fun _ ha => st_assign (ha.rd hx) (h _ (ha.put hd _))
theorem e_extract {i : Nat} {vs : Array Value} {v : Value} (hx : rd E x = some (.tuple vs)) (hv : vs[i]? = some v) (hd : Nat.blt d n = true) (h : OpsE P G ops n K rest ((d, v) :: E) m) : OpsE P G ops n K (⟨some d, .extract x i, ty, pos, aft, none⟩ :: rest) E m :=
  fun _ ha => st_extract (ha.rd hx) hv (h _ (ha.put hd _))

theorem e_add_u {p q : Nat} (hx : rd E x = some (u p)) (hy : rd E y = some (u q)) (hd : Nat.blt d n = true) (h : OpsE P G ops n K rest ((d, u ((p + q) % 18446744073709551616)) :: E) m) :
    OpsE P G ops n K (⟨some d, .binOp .add T x y T', ty, pos, aft, none⟩ :: rest) E m := fun _ ha => st_add_u (ha.rd hx) (ha.rd hy) (h _ (ha.put hd _))
theorem e_sub_u {p q : Nat} (hx : rd E x = some (u p)) (hy : rd E y = some (u q)) (hd : Nat.blt d n = true) (hq : q ≤ 18446744073709551616) (h : OpsE P G ops n K rest ((d, u ((p + 18446744073709551616 - q) % 18446744073709551616)) :: E) m) :
    OpsE P G ops n K (⟨some d, .binOp .sub T x y T', ty, pos, aft, none⟩ :: rest) E m := fun _ ha => st_sub_u (ha.rd hx) (ha.rd hy) hq (h _ (ha.put hd _))
theorem e_mul_u {p q : Nat} (hx : rd E x = some (u p)) (hy : rd E y = some (u q)) (hd : Nat.blt d n = true) (h : OpsE P G ops n K rest ((d, u ((p * q) % 18446744073709551616)) :: E) m) :
    OpsE P G ops n K (⟨some d, .binOp .mul T x y T', ty, pos, aft, none⟩ :: rest) E m := fun _ ha => st_mul_u (ha.rd hx) (ha.rd hy) (h _ (ha.put hd _))
theorem e_and_u {p q : Nat} (hx : rd E x = some (u p)) (hy : rd E y = some (u q)) (hd : Nat.blt d n = true) (h : OpsE P G ops n K rest ((d, u ((p &&& q) % 18446744073709551616)) :: E) m) :
    OpsE P G ops n K (⟨some d, .binOp .and T x y T', ty, pos, aft, none⟩ :: rest) E m := fun _ ha => st_and_u (ha.rd hx) (ha.rd hy) (h _ (ha.put hd _))
theorem e_or_u {p q : Nat} (hx : rd E x = some (u p)) (hy : rd E y = some (u q)) (hd : Nat.blt d n = true) (h : OpsE P G ops n K rest ((d, u ((p ||| q) % 18446744073709551616)) :: E) m) :
    OpsE P G ops n K (⟨some d, .binOp .or T x y T', ty, pos, aft, none⟩ :: rest) E m := fun _ ha => st_or_u (ha.rd hx) (ha.rd hy) (h _ (ha.put hd _))
theorem e_shl_u {k : IntKind} {p s : Nat} (hx : rd E x = some (u p)) (hy : rd E y = some (.int k (s : Int))) (hd : Nat.blt d n = true) (hs : s ≤ 64) (h : OpsE P G ops n K rest ((d, u ((p * 2 ^ s) % 18446744073709551616)) :: E) m) :
    OpsE P G ops n K (⟨some d, .binOp .shl T x y T', ty, pos, aft, none⟩ :: rest) E m := fun _ ha => st_shl_u (ha.rd hx) (ha.rd hy) hs (h _ (ha.put hd _))
theorem e_shr_u {k : IntKind} {p s : Nat} (hx : rd E x = some (u p)) (hy : rd E y = some (.int k (s : Int))) (hd : Nat.blt d n = true) (hs : s ≤ 64) (h : OpsE P G ops n K rest ((d, u (p / 2 ^ s)) :: E) m) :
    OpsE P G ops n K (⟨some d, .binOp .shr T x y T', ty, pos, aft, none⟩ :: rest) E m := fun _ ha => st_shr_u (ha.rd hx) (ha.rd hy) hs (h _ (ha.put hd _))
theorem e_quo_u {p q : Nat} (hx : rd E x = some (u p)) (hy : rd E y = some (u q)) (hd : Nat.blt d n = true) (hp : p < 18446744073709551616) (hq : 0 < q) (h : OpsE P G ops n K rest ((d, u (p / q)) :: E) m) :
    OpsE P G ops n K (⟨some d, .binOp .quo T x y T', ty, pos, aft, none⟩ :: rest) E m := fun _ ha => st_quo_u (ha.rd hx) (ha.rd hy) hp hq (h _ (ha.put hd _))
theorem e_rem_u {p q : Nat} (hx : rd E x = some (u p)) (hy : rd E y = some (u q)) (hd : Nat.blt d n = true) (hq : 0 < q) (h : OpsE P G ops n K rest ((d, u (p % q)) :: E) m) :
    OpsE P G ops n K (⟨some d, .binOp .rem T x y T', ty, pos, aft, none⟩ :: rest) E m := fun _ ha => st_rem_u (ha.rd hx) (ha.rd hy) hq (h _ (ha.put hd _))
theorem e_add_i {p q : Nat} (hx : rd E x = some (ii p)) (hy : rd E y = some (ii q)) (hd : Nat.blt d n = true) (hb : p + q < 9223372036854775808) (h : OpsE P G ops n K rest ((d, ii (p + q)) :: E) m) :
    OpsE P G ops n K (⟨some d, .binOp .add T x y T', ty, pos, aft, none⟩ :: rest) E m := fun _ ha => st_add_i (ha.rd hx) (ha.rd hy) hb (h _ (ha.put hd _))
theorem e_mul_i {p q : Nat} (hx : rd E x = some (ii p)) (hy : rd E y = some (ii q)) (hd : Nat.blt d n = true) (hb : p * q < 9223372036854775808) (h : OpsE P G ops n K rest ((d, ii (p * q)) :: E) m) :
    OpsE P G ops n K (⟨some d, .binOp .mul T x y T', ty, pos, aft, none⟩ :: rest) E m := fun _ ha => st_mul_i (ha.rd hx) (ha.rd hy) hb (h _ (ha.put hd _))
theorem e_quo_i {p q : Nat} (hx : rd E x = some (ii p)) (hy : rd E y = some (ii q)) (hd : Nat.blt d n = true) (hp : p < 9223372036854775808) (hq : 0 < q) (h : OpsE P G ops n K rest ((d, ii (p / q)) :: E) m) :
    OpsE P G ops n K (⟨some d, .binOp .quo T x y T', ty, pos, aft, none⟩ :: rest) E m := fun _ ha => st_quo_i (ha.rd hx) (ha.rd hy) hp hq (h _ (ha.put hd _))
theorem e_rem_i {p q : Nat} (hx : rd E x = some (ii p)) (hy : rd E y = some (ii q)) (hd : Nat.blt d n = true) (hq : 0 < q) (h : OpsE P G ops n K rest ((d, ii (p % q)) :: E) m) :
    OpsE P G ops n K (⟨some d, .binOp .rem T x y T', ty, pos, aft, none⟩ :: rest) E m := fun _ ha => st_rem_i (ha.rd hx) (ha.rd hy) hq (h _ (ha.put hd _))
theorem e_sub_z {p q : Int} (hx : rd E x = some (.int .i64 p)) (hy : rd E y = some (.int .i64 q)) (hd : Nat.blt d n = true) (h0 : -9223372036854775808 ≤ p - q) (h1 : p - q < 9223372036854775808) (h : OpsE P G ops n K rest ((d, .int .i64 (p - q)) :: E) m) :
    OpsE P G ops n K (⟨some d, .binOp .sub T x y T', ty, pos, aft, none⟩ :: rest) E m := fun _ ha => st_sub_z (ha.rd hx) (ha.rd hy) h0 h1 (h _ (ha.put hd _))
theorem e_lt {k : IntKind} {p q : Int} (hx : rd E x = some (.int k p)) (hy : rd E y = some (.int k q)) (hd : Nat.blt d n = true) (h : OpsE P G ops n K rest ((d, .bool (decide (p < q))) :: E) m) :
    OpsE P G ops n K (⟨some d, .binOp .lss T x y T', ty, pos, aft, none⟩ :: rest) E m := fun _ ha => st_lt (ha.rd hx) (ha.rd hy) (h _ (ha.put hd _))
theorem e_gt {k : IntKind} {p q : Int} (hx : rd E x = some (.int k p)) (hy : rd E y = some (.int k q)) (hd : Nat.blt d n = true) (h : OpsE P G ops n K rest ((d, .bool (decide (q < p))) :: E) m) :
    OpsE P G ops n K (⟨some d, .binOp .gtr T x y T', ty, pos, aft, none⟩ :: rest) E m := fun _ ha => st_gt (ha.rd hx) (ha.rd hy) (h _ (ha.put hd _))
theorem e_ge {k : IntKind} {p q : Int} (hx : rd E x = some (.int k p)) (hy : rd E y = some (.int k q)) (hd : Nat.blt d n = true) (h : OpsE P G ops n K rest ((d, .bool (decide (q ≤ p))) :: E) m) :
    OpsE P G ops n K (⟨some d, .binOp .geq T x y T', ty, pos, aft, none⟩ :: rest) E m := fun _ ha => st_ge (ha.rd hx) (ha.rd hy) (h _ (ha.put hd _))
theorem e_eq {k : IntKind} {p q : Int} (hx : rd E x = some (.int k p)) (hy : rd E y = some (.int k q)) (hd : Nat.blt d n = true) (h : OpsE P G ops n K rest ((d, .bool (decide (p = q))) :: E) m) :
    OpsE P G ops n K (⟨some d, .binOp .eql T x y T', ty, pos, aft, none⟩ :: rest) E m := fun _ ha => st_eq (ha.rd hx) (ha.rd hy) (h _ (ha.put hd _))
theorem e_ne {k : IntKind} {p q : Int} (hx : rd E x = some (.int k p)) (hy : rd E y = some (.int k q)) (hd : Nat.blt d n = true) (h : OpsE P G ops n K rest ((d, .bool (decide (p ≠ q))) :: E) m) :
    OpsE P G ops n K (⟨some d, .binOp .neq T x y T', ty, pos, aft, none⟩ :: rest) E m := fun _ ha => st_ne (ha.rd hx) (ha.rd hy) (h _ (ha.put hd _))
theorem e_not {b : Bool} (hx : rd E x = some (.bool b)) (hd : Nat.blt d n = true) (h : OpsE P G ops n K rest ((d, .bool (!b)) :: E) m) : OpsE P G ops n K (⟨some d, .unOp .not T x, ty, pos, aft, none⟩ :: rest) E m :=
  fun _ ha => st_not (ha.rd hx) (h _ (ha.put hd _))
theorem e_neg_u {p : Nat} (hx : rd E x = some (u p)) (hd : Nat.blt d n = true) (hp : p ≤ 18446744073709551616) (h : OpsE P G ops n K rest ((d, u ((18446744073709551616 - p) % 18446744073709551616)) :: E) m) :
    OpsE P G ops n K (⟨some d, .unOp .neg T x, ty, pos, aft, none⟩ :: rest) E m := fun _ ha => st_neg_u (ha.rd hx) hp (h _ (ha.put hd _))
theorem e_conv_u {k : IntKind} {dk : TypeDesc} {p : Nat} (hs : P.underlying T = some dk) (ht : P.underlying T' = some (.int .u64)) (hx : rd E x = some (.int k (p : Int))) (hd : Nat.blt d n = true)
    (h : OpsE P G ops n K rest ((d, u (p % 18446744073709551616)) :: E) m) : OpsE P G ops n K (⟨some d, .convert T T' x, ty, pos, aft, none⟩ :: rest) E m := fun _ ha => st_conv_u hs ht (ha.rd hx) (h _ (ha.put hd _))
theorem e_conv_u8 {k : IntKind} {dk : TypeDesc} {p : Nat} (hs : P.underlying T = some dk) (ht : P.underlying T' = some (.int .u8)) (hx : rd E x = some (.int k (p : Int))) (hd : Nat.blt d n = true)
    (h : OpsE P G ops n K rest ((d, by8 (p % 256)) :: E) m) : OpsE P G ops n K (⟨some d, .convert T T' x, ty, pos, aft, none⟩ :: rest) E m := fun _ ha => st_conv_u8 hs ht (ha.rd hx) (h _ (ha.put hd _))

theorem e_alloc {z : Value} (hz : (P.info? T).bind (·.zero) = some z) (hd : Nat.blt d n = true) (h : ∀ r, OpsE P G ops n K rest ((d, ptr r) :: E) (m ++ [⟨r, z.cells, T⟩])) :
    OpsE P G ops n K (⟨some d, .alloc T, ty, pos, aft, none⟩ :: rest) E m := fun _ ha => st_alloc hz fun r _ => h r _ (ha.put hd _)
theorem e_box {v : Value} (hx : rd E x = some v) (hd : Nat.blt d n = true) (h : ∀ r, OpsE P G ops n K rest ((d, ptr r) :: E) (m ++ [⟨r, v.cells, T⟩])) :
    OpsE P G ops n K (⟨some d, .box T x, ty, pos, aft, none⟩ :: rest) E m := fun _ ha => st_box (ha.rd hx) fun r _ => h r _ (ha.put hd _)
theorem e_load1 {b o i : Nat} {c : Array Value} {t : TypeId} {v : Value} {td : TypeDesc} (hT : P.underlying T = some td) (hn : rowLike td = false) (hx : rd E x = some (.pointer (some ⟨b, o, none⟩)))
    (hm : m[i]? = some ⟨b, c, t⟩) (hc : c[o]? = some v) (hd : Nat.blt d n = true) (h : OpsE P G ops n K rest ((d, v) :: E) m) : OpsE P G ops n K (⟨some d, .load T x, ty, pos, aft, none⟩ :: rest) E m :=
  fun _ ha => st_load1 hT hn (ha.rd hx) hm hc (h _ (ha.put hd _))
theorem e_load1g {b o i : Nat} {c : Array Value} {t : TypeId} {v : Value} {td : TypeDesc} (hT : P.underlying T = some td) (hn : rowLike td = false) (hx : rd E x = some (.pointer (some ⟨b, o, none⟩)))
    (hm : G[i]? = some ⟨b, c, t⟩) (hc : c[o]? = some v) (hd : Nat.blt d n = true) (h : OpsE P G ops n K rest ((d, v) :: E) m) : OpsE P G ops n K (⟨some d, .load T x, ty, pos, aft, none⟩ :: rest) E m :=
  fun _ ha => st_load1g hT hn (ha.rd hx) hm hc (h _ (ha.put hd _))
theorem e_loadA {b i l : Nat} {c : Array Value} {t : TypeId} {td : TypeDesc} (hT : P.underlying T = some td) (hn : rowLike td = true) (hs : (P.info? T).map (·.size) = some l)
    (hx : rd E x = some (.pointer (some ⟨b, 0, none⟩))) (hm : m[i]? = some ⟨b, c, t⟩) (hl : c.size = l) (hd : Nat.blt d n = true) (h : OpsE P G ops n K rest ((d, .agg c) :: E) m) : OpsE P G ops n K (⟨some d, .load T x, ty, pos, aft, none⟩ :: rest) E m :=
  fun _ ha => st_loadA hT hn (hl ▸ hs) (ha.rd hx) hm (h _ (ha.put hd _))
theorem e_loadAg {b i l : Nat} {c : Array Value} {t : TypeId} {td : TypeDesc} (hT : P.underlying T = some td) (hn : rowLike td = true) (hs : (P.info? T).map (·.size) = some l)
    (hx : rd E x = some (.pointer (some ⟨b, 0, none⟩))) (hm : G[i]? = some ⟨b, c, t⟩) (hl : c.size = l) (hd : Nat.blt d n = true) (h : OpsE P G ops n K rest ((d, .agg c) :: E) m) : OpsE P G ops n K (⟨some d, .load T x, ty, pos, aft, none⟩ :: rest) E m :=
  fun _ ha => st_loadAg hT hn (hl ▸ hs) (ha.rd hx) hm (h _ (ha.put hd _))
theorem e_storeN {b o i l v : Nat} {k : IntKind} {f : Nat → Nat} {t : TypeId} (hs : (P.info? T).map (·.size) = some 1) (hx : rd E x = some (.pointer (some ⟨b, o, none⟩))) (hy : rd E y = some (.int k (v : Int)))
    (hm : m[i]? = some ⟨b, arr k l f, t⟩) (ho : o < l) (h : OpsE P G ops n K rest E (m.set i ⟨b, arr k l (upd f o v), t⟩)) : OpsE P G ops n K (⟨none, .store T x y, ty, pos, aft, none⟩ :: rest) E m :=
  fun a ha => st_storeN hs (ha.rd hx) (ha.rd hy) hm ho (h a ha)
theorem e_storeA {b i l : Nat} {c c' : Array Value} {t : TypeId} (hs : (P.info? T).map (·.size) = some l) (hx : rd E x = some (.pointer (some ⟨b, 0, none⟩))) (hy : rd E y = some (.agg c')) (hl : c'.size = l)
    (hv : ∀ v ∈ c', v.oneCell' = true) (hm : m[i]? = some ⟨b, c, t⟩) (ho : c'.size = c.size) (h : OpsE P G ops n K rest E (m.set i ⟨b, c', t⟩)) : OpsE P G ops n K (⟨none, .store T x y, ty, pos, aft, none⟩ :: rest) E m :=
  fun a ha => st_storeA (hl ▸ hs) (ha.rd hx) (ha.rd hy) hv hm ho (h a ha)
theorem e_index {b o j l : Nat} {k : IntKind} {e : TypeId} (hT : P.underlying T = some (.array l e)) (hs : (P.info? e).map (·.size) = some 1) (hx : rd E x = some (.pointer (some ⟨b, o, none⟩))) (hy : rd E y = some (.int k (j : Int))) (hj : j < l)
    (hd : Nat.blt d n = true) (h : OpsE P G ops n K rest ((d, .pointer (some ⟨b, o + j, none⟩)) :: E) m) : OpsE P G ops n K (⟨some d, .indexAddr T x y, ty, pos, aft, none⟩ :: rest) E m :=
  fun _ ha => st_index hT hs (ha.rd hx) (ha.rd hy) hj (h _ (ha.put hd _))
theorem e_index0 {b j l : Nat} {k : IntKind} {e : TypeId} (hT : P.underlying T = some (.array l e)) (hs : (P.info? e).map (·.size) = some 1) (hx : rd E x = some (.pointer (some ⟨b, 0, none⟩))) (hy : rd E y = some (.int k (j : Int))) (hj : j < l)
    (hd : Nat.blt d n = true) (h : OpsE P G ops n K rest ((d, .pointer (some ⟨b, j, none⟩)) :: E) m) : OpsE P G ops n K (⟨some d, .indexAddr T x y, ty, pos, aft, none⟩ :: rest) E m :=
  fun _ ha => st_index hT hs (ha.rd hx) (ha.rd hy) hj (by rw [Nat.zero_add]; exact h _ (ha.put hd _))
theorem arr_one {k : IntKind} {l : Nat} {f : Nat → Nat} : ∀ v ∈ arr k l f, v.oneCell' = true := fun v hv => by
  simp [arr] at hv
  obtain ⟨i, _, rfl⟩ := hv
  rfl
theorem e_build0 {z : Value} {l : Nat} {e : TypeId} (hz : (P.info? T).bind (·.zero) = some z) (hT : P.underlying T = some (.array l e)) (hs : ((P.info? e).map (·.size)).isSome = true) (hd : Nat.blt d n = true)
    (h : OpsE P G ops n K rest ((d, .agg z.cells) :: E) m) : OpsE P G ops n K (⟨some d, .build T #[], ty, pos, aft, none⟩ :: rest) E m := fun _ ha => st_build0 hz hT hs (h _ (ha.put hd _))
def rdp (E : Env) : List (Nat × Operand) → Option (List (Nat × Value))
  | [] => some []
  | (i, x) :: r => match rd E x, rdp E r with
    | some v, some vs => some ((i, v) :: vs)
    | _, _ => none
theorem Fits.rdp {a : Act} (h : Fits n E a) : ∀ {l : List (Nat × Operand)} {vs : List (Nat × Value)}, Ytkoigikldikmmab.rdp E l = some vs → l.map (fun p => (p.1, a.eval p.2)) = vs
  | [], vs, hl => by simpa [Ytkoigikldikmmab.rdp] using hl
  | (i, x) :: l, vs, hl => by
    unfold Ytkoigikldikmmab.rdp at hl
    split at hl
    · rename_i v ws h1 h2
      simp at hl
      subst hl
      rw [List.map_cons, h.rd h1, Fits.rdp h h2]
    · cases hl
theorem e_build {z : Value} {l : Nat} {e : TypeId} {parts : Array (Nat × Operand)} {pv : List (Nat × Value)} (c : Array Value) (hz : (P.info? T).bind (·.zero) = some z) (hT : P.underlying T = some (.array l e)) (hs : (P.info? e).map (·.size) = some 1)
    (hp : rdp E parts.toList = some pv) (hf : Instr.fill (fun i => some (i * 1, 1)) z.cells pv = some c) (hd : Nat.blt d n = true)
    (h : OpsE P G ops n K rest ((d, .agg c) :: E) m) : OpsE P G ops n K (⟨some d, .build T parts, ty, pos, aft, none⟩ :: rest) E m :=
  fun _ ha => st_build hz hT hs (ha.rdp hp) hf (h _ (ha.put hd _))
theorem e_pickT {p q r : Operand} {t : Bool} {v : Value} (hc : rd E p = some (.bool t)) (ht : t = true) (hv : rd E q = some v) (hd : Nat.blt d n = true) (h : OpsE P G ops n K rest ((d, v) :: E) m) :
    OpsE P G ops n K (⟨some d, .pick p q r, ty, pos, aft, none⟩ :: rest) E m := fun _ ha => st_pick (ha.rd hc) (by rw [ht, if_pos rfl]; exact ha.rd hv) (h _ (ha.put hd _))
theorem e_pickF {p q r : Operand} {t : Bool} {v : Value} (hc : rd E p = some (.bool t)) (ht : t = false) (hv : rd E r = some v) (hd : Nat.blt d n = true) (h : OpsE P G ops n K rest ((d, v) :: E) m) :
    OpsE P G ops n K (⟨some d, .pick p q r, ty, pos, aft, none⟩ :: rest) E m := fun _ ha => st_pick (ha.rd hc) (by rw [ht, if_neg (by decide)]; exact ha.rd hv) (h _ (ha.put hd _))
theorem Fits.yielded {a : Act} (h : Fits n E a) {g s : Nat} {b : Bool} (hg : (ops[g]?).bind (·.dst) = some s) (hb : lk E s = some (.bool b)) : Go.yielded ops a.tmps g = some b := by
  unfold Go.yielded
  rw [hg]
  simp [h.slots _ _ hb]
theorem e_yes {dd : Option Tmp} {op : Op} {g s : Nat} {want b : Bool} (hg : (ops[g]?).bind (·.dst) = some s) (hb : lk E s = some (.bool b)) (hw : b = want) (h : OpsE P G ops n K (⟨dd, op, ty, pos, aft, none⟩ :: rest) E m) :
    OpsE P G ops n K (⟨dd, op, ty, pos, aft, some (g, want)⟩ :: rest) E m := fun a ha => st_yes (by rw [← hw]; exact ha.yielded hg hb) (h a ha)
theorem e_no {op : Op} {g s : Nat} {want b : Bool} (hg : (ops[g]?).bind (·.dst) = some s) (hb : lk E s = some (.bool b)) (hw : b ≠ want) (hd : Nat.blt d n = true) (h : OpsE P G ops n K rest ((d, undef) :: E) m) :
    OpsE P G ops n K (⟨some d, op, ty, pos, aft, some (g, want)⟩ :: rest) E m := fun _ ha => st_no (ha.yielded hg hb) hw (h _ (ha.put hd _))
theorem e_eqA {e : TypeId} {k k' : IntKind} {l : Nat} {f g : Nat → Nat} (hT : P.underlying T = some (.array l e)) (he : P.underlying e = some (.int k')) (hs : (P.info? e).map (·.size) = some 1) (hg : P.eqGuardType P.depth T = false)
    (hx : rd E x = some (.agg (arr k l f))) (hy : rd E y = some (.agg (arr k l g))) (hd : Nat.blt d n = true) (h : OpsE P G ops n K rest ((d, .bool (allEq l f g)) :: E) m) : OpsE P G ops n K (⟨some d, .binOp .eql T x y T', ty, pos, aft, none⟩ :: rest) E m :=
  fun _ ha => st_eqA hT he hs hg (ha.rd hx) (ha.rd hy) (h _ (ha.put hd _))
theorem e_neA {e : TypeId} {k k' : IntKind} {l : Nat} {f g : Nat → Nat} (hT : P.underlying T = some (.array l e)) (he : P.underlying e = some (.int k')) (hs : (P.info? e).map (·.size) = some 1) (hg : P.eqGuardType P.depth T = false)
    (hx : rd E x = some (.agg (arr k l f))) (hy : rd E y = some (.agg (arr k l g))) (hd : Nat.blt d n = true) (h : OpsE P G ops n K rest ((d, .bool (!allEq l f g)) :: E) m) : OpsE P G ops n K (⟨some d, .binOp .neq T x y T', ty, pos, aft, none⟩ :: rest) E m :=
  fun _ ha => st_neA hT he hs hg (ha.rd hx) (ha.rd hy) (h _ (ha.put hd _))
theorem e_eqB {p q : Bool} (hT : P.underlying T = some .bool) (hx : rd E x = some (.bool p)) (hy : rd E y = some (.bool q)) (hd : Nat.blt d n = true) (h : OpsE P G ops n K rest ((d, .bool (p == q)) :: E) m) :
    OpsE P G ops n K (⟨some d, .binOp .eql T x y T', ty, pos, aft, none⟩ :: rest) E m := fun _ ha => st_eqB hT (ha.rd hx) (ha.rd hy) (h _ (ha.put hd _))
/-- A value is another one, as is known. -/
theorem e_as {l : List Oper} {s : Nat} {v v' : Value} (hv : v = v') (h : OpsE P G ops n K l ((s, v') :: E) m) : OpsE P G ops n K l ((s, v) :: E) m := by rw [hv]; exact h
theorem e_callE {f : FuncId} {args : Array Operand} {tys : Array TypeId} {vs : List Value} {v : Value} (hargs : rdl E args.toList = some vs) (hr : ∀ w, (callFunc f vs.toArray).run P w = .ok (.value v) w) (hd : Nat.blt d n = true)
    (h : OpsE P G ops n K rest ((d, v) :: E) m) : OpsE P G ops n K (⟨some d, .call ⟨.value (.func f), args, tys⟩, ty, pos, aft, none⟩ :: rest) E m :=
  fun _ ha => st_callE (ha.args hargs) hr (h _ (ha.put hd _))
theorem e_call {f : FuncId} {args : Array Operand} {tys : Array TypeId} {vs : List Value} {v : Value} (hargs : rdl E args.toList = some vs) (he : enters P f = true) (hF : Fn P G f vs.toArray v) (hd : Nat.blt d n = true)
    (h : OpsE P G ops n K rest ((d, v) :: E) m) : OpsE P G ops n K (⟨some d, .call ⟨.value (.func f), args, tys⟩, ty, pos, aft, none⟩ :: rest) E m :=
  fun _ ha => st_call (ha.args hargs) he hF (h _ (ha.put hd _))

/-! ### A function's end -/
/-- What a result's slot reads as. -/
def Res (P : Program) (E : Env) (m : Mem) : ResultVar → Value → Prop
  | .tmp t, v => lk E t = some v
  | .cell t T, v => ∃ (b i l : Nat) (c : Array Value) (t' : TypeId) (td : TypeDesc), lk E t = some (ptr b) ∧ m[i]? = some (⟨b, c, t'⟩ : Blk) ∧ P.underlying T = some td ∧ rowLike td = true ∧ (P.info? T).map (·.size) = some l ∧ c.size = l ∧ v = .agg c

theorem Res.tmp {t : Nat} {v : Value} (h : lk E t = some v) : Res P E m (.tmp t) v := h
theorem Res.cell {t : Nat} {T : TypeId} {b i l : Nat} {c : Array Value} {t' : TypeId} {td : TypeDesc} (h : lk E t = some (ptr b)) (hm : m[i]? = some ⟨b, c, t'⟩) (hT : P.underlying T = some td) (hn : rowLike td = true)
      (hs : (P.info? T).map (·.size) = some l) (hl : c.size = l) : Res P E m (.cell t T) (.agg c) := ⟨b, i, l, c, t', td, h, hm, hT, hn, hs, hl, rfl⟩

def resv (tmps : Array Value) : ResultVar → Sem Value
  | .tmp t => pure (tmps.getD t undef)
  | .cell c t => do loadVar t (← asAddr (tmps.getD c undef))

theorem results_eq (fn : Func) (tmps : Array Value) : results fn tmps = (do
  let vs ← fn.results.mapM (resv tmps)
  pure (if h : vs.size = 1 then vs[0] else .tuple vs)) := by
  unfold results
  congr 1

theorem res_run {a : Act} (ha : Fits n E a) {w : World} (hw : MemIn m w) {r : ResultVar} {v : Value} (h : Res P E m r v) : (resv a.tmps r).run P w = .ok v w := by
  cases r with
  | tmp t =>
    have h : lk E t = some v := h
    simp [resv, Array.getD_eq_getD_getElem?, ha.slots _ _ h]
  | cell t T =>
    obtain ⟨b, i, l, c, t', td, h, hm, hT, hn, hs, hl, rfl⟩ := h
    have hs := hl ▸ hs
    have hin := hw _ (mem_of_get hm)
    have := ha.slots _ _ h
    simp [resv, Array.getD_eq_getD_getElem?, this, ptr, asAddr, run_loadAll hin hT hn hs]

def End1 (P : Program) (fn : Func) (v : Value) : Exit → Env → Mem → Prop
  | .normal, E, m | .ret, E, m => ∃ r, fn.results = #[r] ∧ Res P E m r v
  | _, _, _ => False
def End2 (P : Program) (fn : Func) (v v' : Value) : Exit → Env → Mem → Prop
  | .normal, E, m | .ret, E, m => ∃ r r', fn.results = #[r, r'] ∧ Res P E m r v ∧ Res P E m r' v'
  | _, _, _ => False

theorem mapM1 {r : ResultVar} (f : ResultVar → Sem Value) : Array.mapM f #[r] = (do let v ← f r; pure #[v]) := by
  rw [Array.mapM_eq_mapM_toList]; simp
theorem mapM2 {r r' : ResultVar} (f : ResultVar → Sem Value) : Array.mapM f #[r, r'] = (do let v ← f r; let v' ← f r'; pure #[v, v']) := by
  rw [Array.mapM_eq_mapM_toList]; simp

theorem fn1 {f : FuncId} {fn : Func} {c : Code} {args : Array Value} {v : Value} (hf : P.funcs[f]? = some fn) (hb : fn.body = some c) (hn : fn.ntmps = n) (ha : args.size ≤ n) (E : Env) (hE : ∀ t v, lk E t = some v → args[t]? = some v)
    (h : SatE P G c n (End1 P fn v) E []) : Fn P G f args v :=
  fn_of hf hb (sat_mono (h _ ⟨by simp [hn]; omega, rfl, fun t v ht => by
    have := hE t v ht
    have hlt := (Array.getElem?_eq_some_iff.1 this).1
    rw [Array.getElem?_append_left hlt]; exact this⟩) fun e a m ⟨E', h1, h2⟩ => by
      have key : (∃ r, fn.results = #[r] ∧ Res P E' m r v) → a.defers = [] ∧ ∀ w, MemIn m w → (results fn a.tmps).run P w = .ok v w := fun ⟨r, hr, hR⟩ => ⟨h1.defers, fun w hw => by
        have := res_run h1 hw hR
        rw [results_eq, hr, mapM1]
        simp [this]⟩
      cases e <;> first | exact key h2 | exact h2.elim)

theorem fn2 {f : FuncId} {fn : Func} {c : Code} {args : Array Value} {v v' : Value} (hf : P.funcs[f]? = some fn) (hb : fn.body = some c) (hn : fn.ntmps = n) (ha : args.size ≤ n) (E : Env) (hE : ∀ t v, lk E t = some v → args[t]? = some v)
    (h : SatE P G c n (End2 P fn v v') E []) : Fn P G f args (.tuple #[v, v']) :=
  fn_of hf hb (sat_mono (h _ ⟨by simp [hn]; omega, rfl, fun t v ht => by
    have := hE t v ht
    have hlt := (Array.getElem?_eq_some_iff.1 this).1
    rw [Array.getElem?_append_left hlt]; exact this⟩) fun e a m ⟨E', h1, h2⟩ => by
      have key : (∃ r r', fn.results = #[r, r'] ∧ Res P E' m r v ∧ Res P E' m r' v') → a.defers = [] ∧ ∀ w, MemIn m w → (results fn a.tmps).run P w = .ok (.tuple #[v, v']) w := fun ⟨r, r', hr, hR, hR'⟩ => ⟨h1.defers, fun w hw => by
        have := res_run h1 hw hR
        have t' := res_run h1 hw hR'
        rw [results_eq, hr, mapM2]
        simp [this, t']⟩
      cases e <;> first | exact key h2 | exact h2.elim)

/-- The slots of the arguments. -/
def argE : List Value → Nat → Env
  | [], _ => []
  | v :: r, i => (i, v) :: argE r (i + 1)

theorem argE_lt : ∀ (l : List Value) (i t : Nat) (v : Value), lk (argE l i) t = some v → i ≤ t ∧ l[t - i]? = some v
  | [], _, _, _, h => by simp [argE, lk] at h
  | x :: l, i, t, v, h => by
    unfold argE at h
    rw [lk_cons] at h
    split at h
    · rename_i e; subst e; simpa using h
    · have := argE_lt l (i + 1) t v h
      refine ⟨by omega, ?_⟩
      have e : t - i = (t - (i + 1)) + 1 := by omega
      rw [e]; simpa using this.2

theorem argE_ok (l : List Value) : ∀ t v, lk (argE l 0) t = some v → l.toArray[t]? = some v := fun t v h => by
  have := (argE_lt l 0 t v h).2
  simpa using this

end
end Go.Proofs.Ytkoigikldikmmab
