/-
  A slice as an array, how long a slice is.
-/
import Derived.Test.YtmnmhmpklknleaaEnvE
namespace Go.Proofs.Ytmnmhmpklknleaa
open Go Go.RowKit
section
variable {P : Program} {G : Mem} {R : Reg} {ops : Array Oper} {K : Act → Mem → Prop} {rest : List Oper} {a : Act} {m : Mem} {d : Option Tmp} {ty : TypeId} {pos : String} {aft : Array Edge}
variable {T T' : TypeId} {x y : Operand}
theorem st_toArr {N len cap : Nat} {e : TypeId} {q : Addr} (hT : P.underlying T = some (.array N e)) (hx : a.eval x = .slice (some q) len cap) (hl : N ≤ len)
    (hK : opsM P G R ops K rest (a.put d (.pointer (some q))) m) : opsM P G R ops K (⟨d, .sliceToArrayPointer T x, ty, pos, aft, none⟩ :: rest) a m :=
  st_quiet (v := .pointer (some q)) rfl rfl (fun w => by
    have hn : ¬ len < N := by omega
    simp only [execOp, Instr.arrayAt, hx, underlying, program]
    simp [Sem.run, hT, hn]) hK
theorem st_lenSl {len cap : Nat} {e : TypeId} {q : Option Addr} (hR : callOk R = true) (hT : P.underlying T = some (.slice e)) (hx : a.eval x = .slice q len cap) (h : opsM P G R ops K rest (a.put d (ii len)) m) :
    opsM P G R ops K (⟨d, .call ⟨.builtin .len, #[x], #[T]⟩, ty, pos, aft, none⟩ :: rest) a m :=
  st_value rfl hR (fun w => by
    have : (Builtin.len_ #[T] ty #[.slice q len cap]).run P w = .ok (ii len) w := by simp [Builtin.len_, run_underlying hT, goInt]
    simp only [execOp, resolve, invoke, builtin, Sem.run_bind, Sem.run_pure, Result.andThen_ok, List.map_toArray, List.map_cons, List.map_nil, hx, this]) h
end
variable {P : Program} {G : Mem} {R : Reg} {ops : Array Oper} {n : Nat} {K : Env → Mm → Prop} {rest : List Oper} {E : Env} {M : Mm} {d : Nat} {ty : TypeId} {pos : String} {aft : Array Edge}
variable {T T' : TypeId} {x y : Operand}
theorem e_toArr {N len cap : Nat} {e : TypeId} {q : Addr} (hT : P.underlying T = some (.array N e)) (hx : rd E x = some (.slice (some q) len cap)) (hl : N ≤ len) (hd : Nat.blt d n = true)
    (h : OpsE P G R ops n K rest ((d, .pointer (some q)) :: E) M) : OpsE P G R ops n K (⟨some d, .sliceToArrayPointer T x, ty, pos, aft, none⟩ :: rest) E M :=
  fun _ _ ha hM => st_toArr hT (ha.rd hx) hl (h _ _ (ha.put hd _) hM)
theorem e_lenSl {len cap : Nat} {e : TypeId} {q : Option Addr} (hT : P.underlying T = some (.slice e)) (hx : rd E x = some (.slice q len cap)) (hd : Nat.blt d n = true) (hR : callOk R = true) (h : OpsE P G R ops n K rest ((d, ii len) :: E) M) :
    OpsE P G R ops n K (⟨some d, .call ⟨.builtin .len, #[x], #[T]⟩, ty, pos, aft, none⟩ :: rest) E M := fun _ _ ha hM => st_lenSl hR hT (ha.rd hx) (h _ _ (ha.put hd _) hM)
end Go.Proofs.Ytmnmhmpklknleaa
