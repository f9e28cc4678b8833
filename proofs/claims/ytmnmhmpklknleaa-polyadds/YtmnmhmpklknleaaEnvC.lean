/-
  Loops that keep what they do not touch; arithmetic that does not go round; comparisons that were missing.
-/
import Derived.Test.YtmnmhmpklknleaaEnv5
namespace Go.Proofs.Ytmnmhmpklknleaa
open Go Go.RowKit

def catE : Env → Env → Env
  | [], F => F
  | x :: E, F => x :: catE E F
def catL : Mm → Mm → Mm
  | [], F => F
  | x :: E, F => x :: catL E F
section
variable {P : Program} {G : Mem} {R : Reg} {ops : Array Oper} {n : Nat} {K : Env → Mm → Prop} {Q : Exit → Env → Mm → Prop} {rest : List Oper} {E : Env} {M : Mm} {d : Nat} {ty : TypeId} {pos : String} {aft : Array Edge}
variable {T T' : TypeId} {x y : Operand}

/-- A loop: Ek and Mk stay as they are. -/
theorem e_loopK {c : Code} (Ek : Env) (Mk : Mm) (I : Nat → Env → Mm → Prop) (E0 : Env) (M0 : Mm) (k : Nat) (hs : sub (catE E0 Ek) E) (hl : subL (catL M0 Mk) M) (h0 : I k E0 M0)
    (round : ∀ k E M, I k E M → SatE P G c n (thenE (fun E' M' => ∃ k' E'' M'', k' < k ∧ sub (catE E'' Ek) E' ∧ subL (catL M'' Mk) M' ∧ I k' E'' M'') Q) (catE E Ek) (catL M Mk)) : SatE P G (.loop c) n Q E M :=
  e_loop (fun k E M => ∃ E1 M1, E = catE E1 Ek ∧ M = catL M1 Mk ∧ I k E1 M1) (catE E0 Ek) (catL M0 Mk) k hs hl ⟨_, _, rfl, rfl, h0⟩ fun k E M ⟨E1, M1, e1, e2, hI⟩ => by
    subst e1 e2
    intro a m ha hM
    refine sat_mono (round k E1 M1 hI a m ha hM) fun e a' m' ⟨E', M', h1, h2, h3⟩ => ⟨E', M', h1, h2, ?_⟩
    cases e with
    | normal =>
      obtain ⟨k', E'', M'', q1, q2, q3, q4⟩ := h3
      exact ⟨k', _, _, q1, q2, q3, _, _, rfl, rfl, q4⟩
    | _ => exact h3

/-! ### Numbers that stay within their bounds -/
theorem e_add_un {p q : Nat} (hx : rd E x = some (u p)) (hy : rd E y = some (u q)) (hd : Nat.blt d n = true) (hb : p + q < 18446744073709551616) (h : OpsE P G R ops n K rest ((d, u (p + q)) :: E) M) :
    OpsE P G R ops n K (⟨some d, .binOp .add T x y T', ty, pos, aft, none⟩ :: rest) E M := e_add_u hx hy hd (by rw [Nat.mod_eq_of_lt hb]; exact h)
theorem e_mul_un {p q : Nat} (hx : rd E x = some (u p)) (hy : rd E y = some (u q)) (hd : Nat.blt d n = true) (hb : p * q < 18446744073709551616) (h : OpsE P G R ops n K rest ((d, u (p * q)) :: E) M) :
    OpsE P G R ops n K (⟨some d, .binOp .mul T x y T', ty, pos, aft, none⟩ :: rest) E M := e_mul_u hx hy hd (by rw [Nat.mod_eq_of_lt hb]; exact h)
theorem e_sub_un {p q : Nat} (hx : rd E x = some (u p)) (hy : rd E y = some (u q)) (hd : Nat.blt d n = true) (hb : p < 18446744073709551616) (hq : q ≤ p) (h : OpsE P G R ops n K rest ((d, u (p - q)) :: E) M) :
    OpsE P G R ops n K (⟨some d, .binOp .sub T x y T', ty, pos, aft, none⟩ :: rest) E M := e_sub_u hx hy hd (by omega) (by rw [show (p + 18446744073709551616 - q) % 18446744073709551616 = p - q by omega]; exact h)
theorem e_add_wn {p q : Nat} (hx : rd E x = some (uw p)) (hy : rd E y = some (uw q)) (hd : Nat.blt d n = true) (hb : p + q < 4294967296) (h : OpsE P G R ops n K rest ((d, uw (p + q)) :: E) M) :
    OpsE P G R ops n K (⟨some d, .binOp .add T x y T', ty, pos, aft, none⟩ :: rest) E M := e_add_w hx hy hd (by rw [Nat.mod_eq_of_lt hb]; exact h)
theorem e_sub_wn {p q : Nat} (hx : rd E x = some (uw p)) (hy : rd E y = some (uw q)) (hd : Nat.blt d n = true) (hb : p < 4294967296) (hq : q ≤ p) (h : OpsE P G R ops n K rest ((d, uw (p - q)) :: E) M) :
    OpsE P G R ops n K (⟨some d, .binOp .sub T x y T', ty, pos, aft, none⟩ :: rest) E M := e_sub_w hx hy hd (by omega) (by rw [show (p + 4294967296 - q) % 4294967296 = p - q by omega]; exact h)
theorem e_sub_in {p q : Nat} (hx : rd E x = some (ii p)) (hy : rd E y = some (ii q)) (hd : Nat.blt d n = true) (hb : p < 9223372036854775808) (hq : q ≤ p) (h : OpsE P G R ops n K rest ((d, ii (p - q)) :: E) M) :
    OpsE P G R ops n K (⟨some d, .binOp .sub T x y T', ty, pos, aft, none⟩ :: rest) E M := e_sub_z hx hy hd (by omega) (by omega) (by rw [show (p : Int) - (q : Int) = ((p - q : Nat) : Int) by omega]; exact h)
theorem e_conv_un {k : IntKind} {dk : TypeDesc} {p : Nat} (hs : P.underlying T = some dk) (ht : P.underlying T' = some (.int .u64)) (hx : rd E x = some (.int k (p : Int))) (hd : Nat.blt d n = true) (hv : kconv R T T' = 1) (hb : p < 18446744073709551616)
    (h : OpsE P G R ops n K rest ((d, u p) :: E) M) : OpsE P G R ops n K (⟨some d, .convert T T' x, ty, pos, aft, none⟩ :: rest) E M := e_conv_u hs ht hx hd hv (by rw [Nat.mod_eq_of_lt hb]; exact h)
theorem e_conv_wn {k : IntKind} {dk : TypeDesc} {p : Nat} (hs : P.underlying T = some dk) (ht : P.underlying T' = some (.int .u32)) (hx : rd E x = some (.int k (p : Int))) (hd : Nat.blt d n = true) (hv : kconv R T T' = 1) (hb : p < 4294967296)
    (h : OpsE P G R ops n K rest ((d, uw p) :: E) M) : OpsE P G R ops n K (⟨some d, .convert T T' x, ty, pos, aft, none⟩ :: rest) E M := e_conv_w hs ht hx hd hv (by rw [Nat.mod_eq_of_lt hb]; exact h)
theorem e_conv_u8n {k : IntKind} {dk : TypeDesc} {p : Nat} (hs : P.underlying T = some dk) (ht : P.underlying T' = some (.int .u8)) (hx : rd E x = some (.int k (p : Int))) (hd : Nat.blt d n = true) (hv : kconv R T T' = 1) (hb : p < 256)
    (h : OpsE P G R ops n K rest ((d, by8 p) :: E) M) : OpsE P G R ops n K (⟨some d, .convert T T' x, ty, pos, aft, none⟩ :: rest) E M := e_conv_u8 hs ht hx hd hv (by rw [Nat.mod_eq_of_lt hb]; exact h)
theorem e_le {k : IntKind} {p q : Int} (hx : rd E x = some (.int k p)) (hy : rd E y = some (.int k q)) (hd : Nat.blt d n = true) (h : OpsE P G R ops n K rest ((d, .bool (decide (p ≤ q))) :: E) M) :
    OpsE P G R ops n K (⟨some d, .binOp .leq T x y T', ty, pos, aft, none⟩ :: rest) E M := fun _ _ ha hM => st_bin (fun w => by simp [ha.rd hx, ha.rd hy, eqGuard, binOp, Op.intCmp]) (h _ _ (ha.put hd _) hM)
theorem e_compl_w {p : Nat} (hx : rd E x = some (uw p)) (hd : Nat.blt d n = true) (h : OpsE P G R ops n K rest ((d, uw ((4294967295 ^^^ p) % 4294967296)) :: E) M) :
    OpsE P G R ops n K (⟨some d, .unOp .xor T x, ty, pos, aft, none⟩ :: rest) E M := fun _ _ ha hM =>
  st_quiet (v := uw ((4294967295 ^^^ p) % 4294967296)) rfl rfl (fun w => by
    have := bits_xor32 4294967295 p
    have e3 : (if IntKind.u32.signed = true then (-1 : Int) else IntKind.u32.max) = ((4294967295 : Nat) : Int) := by decide
    simp only [execOp, ha.rd hx, Op.unary, e3, Op.intBits, IntKind.bits]
    simp
    exact this) (h _ _ (ha.put hd _) hM)
theorem e_neg_z {p : Int} (hx : rd E x = some (.int .i64 p)) (hd : Nat.blt d n = true) (h0 : -9223372036854775808 < p) (h1 : p < 9223372036854775808) (h : OpsE P G R ops n K rest ((d, .int .i64 (-p)) :: E) M) :
    OpsE P G R ops n K (⟨some d, .unOp .neg T x, ty, pos, aft, none⟩ :: rest) E M := fun _ _ ha hM =>
  st_quiet (v := .int .i64 (-p)) rfl rfl (fun w => by
    have e := wrap_i64 (z := -p) (by omega) (by omega)
    simp [execOp, ha.rd hx, Op.unary, Op.intArith, e]) (h _ _ (ha.put hd _) hM)
/-! ### A number under a new name -/
theorem e_gen_w {l : List Oper} {s p : Nat} (h : ∀ q, q = p → OpsE P G R ops n K l ((s, uw q) :: E) M) : OpsE P G R ops n K l ((s, uw p) :: E) M := h p rfl
theorem e_gen_u {l : List Oper} {s p : Nat} (h : ∀ q, q = p → OpsE P G R ops n K l ((s, u q) :: E) M) : OpsE P G R ops n K l ((s, u p) :: E) M := h p rfl
theorem e_gen_b {l : List Oper} {s p : Nat} (h : ∀ q, q = p → OpsE P G R ops n K l ((s, by8 q) :: E) M) : OpsE P G R ops n K l ((s, by8 p) :: E) M := h p rfl
theorem e_gen_i {l : List Oper} {s p : Nat} (h : ∀ q, q = p → OpsE P G R ops n K l ((s, ii q) :: E) M) : OpsE P G R ops n K l ((s, ii p) :: E) M := h p rfl
end
end Go.Proofs.Ytmnmhmpklknleaa
