/-
  The same, over slots and labelled blocks: bytes, exclusive or, arrays of arrays.
-/
import Derived.Test.YtmnmhmpklknleaaOps3
import Derived.Test.YtmnmhmpklknleaaEnv2
namespace Go.Proofs.Ytmnmhmpklknleaa
open Go Go.RowKit
variable {P : Program} {G : Mem} {R : Reg} {ops : Array Oper} {n : Nat} {K : Env → Mm → Prop} {rest : List Oper} {E : Env} {M : Mm} {d : Nat} {ty : TypeId} {pos : String} {aft : Array Edge}
variable {T T' : TypeId} {x y : Operand}

theorem e_xor_u {p q : Nat} (hx : rd E x = some (u p)) (hy : rd E y = some (u q)) (hd : Nat.blt d n = true) (h : OpsE P G R ops n K rest ((d, u ((p ^^^ q) % 18446744073709551616)) :: E) M) :
    OpsE P G R ops n K (⟨some d, .binOp .xor T x y T', ty, pos, aft, none⟩ :: rest) E M := fun _ _ ha hM => st_xor_u (ha.rd hx) (ha.rd hy) (h _ _ (ha.put hd _) hM)
theorem e_and_b {p q : Nat} (hx : rd E x = some (by8 p)) (hy : rd E y = some (by8 q)) (hd : Nat.blt d n = true) (h : OpsE P G R ops n K rest ((d, by8 ((p &&& q) % 256)) :: E) M) :
    OpsE P G R ops n K (⟨some d, .binOp .and T x y T', ty, pos, aft, none⟩ :: rest) E M := fun _ _ ha hM => st_and_b (ha.rd hx) (ha.rd hy) (h _ _ (ha.put hd _) hM)
theorem e_or_b {p q : Nat} (hx : rd E x = some (by8 p)) (hy : rd E y = some (by8 q)) (hd : Nat.blt d n = true) (h : OpsE P G R ops n K rest ((d, by8 ((p ||| q) % 256)) :: E) M) :
    OpsE P G R ops n K (⟨some d, .binOp .or T x y T', ty, pos, aft, none⟩ :: rest) E M := fun _ _ ha hM => st_or_b (ha.rd hx) (ha.rd hy) (h _ _ (ha.put hd _) hM)
theorem e_xor_b {p q : Nat} (hx : rd E x = some (by8 p)) (hy : rd E y = some (by8 q)) (hd : Nat.blt d n = true) (h : OpsE P G R ops n K rest ((d, by8 ((p ^^^ q) % 256)) :: E) M) :
    OpsE P G R ops n K (⟨some d, .binOp .xor T x y T', ty, pos, aft, none⟩ :: rest) E M := fun _ _ ha hM => st_xor_b (ha.rd hx) (ha.rd hy) (h _ _ (ha.put hd _) hM)
theorem e_add_b {p q : Nat} (hx : rd E x = some (by8 p)) (hy : rd E y = some (by8 q)) (hd : Nat.blt d n = true) (h : OpsE P G R ops n K rest ((d, by8 ((p + q) % 256)) :: E) M) :
    OpsE P G R ops n K (⟨some d, .binOp .add T x y T', ty, pos, aft, none⟩ :: rest) E M := fun _ _ ha hM => st_add_b (ha.rd hx) (ha.rd hy) (h _ _ (ha.put hd _) hM)
theorem e_sub_b {p q : Nat} (hx : rd E x = some (by8 p)) (hy : rd E y = some (by8 q)) (hd : Nat.blt d n = true) (hq : q ≤ 256) (h : OpsE P G R ops n K rest ((d, by8 ((p + 256 - q) % 256)) :: E) M) :
    OpsE P G R ops n K (⟨some d, .binOp .sub T x y T', ty, pos, aft, none⟩ :: rest) E M := fun _ _ ha hM => st_sub_b (ha.rd hx) (ha.rd hy) hq (h _ _ (ha.put hd _) hM)
theorem e_rem_b {p q : Nat} (hx : rd E x = some (by8 p)) (hy : rd E y = some (by8 q)) (hd : Nat.blt d n = true) (hq : 0 < q) (h : OpsE P G R ops n K rest ((d, by8 (p % q)) :: E) M) :
    OpsE P G R ops n K (⟨some d, .binOp .rem T x y T', ty, pos, aft, none⟩ :: rest) E M := fun _ _ ha hM => st_rem_b (ha.rd hx) (ha.rd hy) hq (h _ _ (ha.put hd _) hM)
theorem e_shr_b {k : IntKind} {p s : Nat} (hx : rd E x = some (by8 p)) (hy : rd E y = some (.int k (s : Int))) (hd : Nat.blt d n = true) (hs : s ≤ 8) (h : OpsE P G R ops n K rest ((d, by8 (p / 2 ^ s)) :: E) M) :
    OpsE P G R ops n K (⟨some d, .binOp .shr T x y T', ty, pos, aft, none⟩ :: rest) E M := fun _ _ ha hM => st_shr_b (ha.rd hx) (ha.rd hy) hs (h _ _ (ha.put hd _) hM)

theorem e_indexZ {b o j l z : Nat} {k : IntKind} {e : TypeId} (hT : P.underlying T = some (.array l e)) (hs : (P.info? e).map (·.size) = some (z + 1)) (hx : rd E x = some (.pointer (some ⟨b, o, none⟩))) (hy : rd E y = some (.int k (j : Int))) (hj : j < l)
    (hd : Nat.blt d n = true) (h : OpsE P G R ops n K rest ((d, .pointer (some ⟨b, o + j * (z + 1), none⟩)) :: E) M) : OpsE P G R ops n K (⟨some d, .indexAddr T x y, ty, pos, aft, none⟩ :: rest) E M :=
  fun _ _ ha hM => st_indexZ hT hs (ha.rd hx) (ha.rd hy) hj (h _ _ (ha.put hd _) hM)
theorem e_at (o' : Nat) {b o j l z : Nat} {k : IntKind} {e : TypeId} (hT : P.underlying T = some (.array l e)) (hs : (P.info? e).map (·.size) = some (z + 1)) (hx : rd E x = some (.pointer (some ⟨b, o, none⟩))) (hy : rd E y = some (.int k (j : Int))) (hj : j < l) (ho : o + j * (z + 1) = o')
    (hd : Nat.blt d n = true) (h : OpsE P G R ops n K rest ((d, .pointer (some ⟨b, o', none⟩)) :: E) M) : OpsE P G R ops n K (⟨some d, .indexAddr T x y, ty, pos, aft, none⟩ :: rest) E M :=
  fun _ _ ha hM => st_indexZ hT hs (ha.rd hx) (ha.rd hy) hj (by rw [ho]; exact h _ _ (ha.put hd _) hM)
theorem e_fld (o' : Nat) {b o f sz : Nat} {fs : Array Field} {fd : Field} (hT : P.underlying T = some (.struct fs)) (hf : fs[f]? = some fd) (hs : (P.info? fd.type).map (·.size) = some (sz + 1)) (hx : rd E x = some (.pointer (some ⟨b, o, none⟩)))
    (ho : o + fd.offset = o') (hd : Nat.blt d n = true) (h : OpsE P G R ops n K rest ((d, .pointer (some ⟨b, o', none⟩)) :: E) M) : OpsE P G R ops n K (⟨some d, .fieldAddr T x f, ty, pos, aft, none⟩ :: rest) E M :=
  fun _ _ ha hM => st_field hT hf hs (ha.rd hx) (by rw [ho]; exact h _ _ (ha.put hd _) hM)
theorem e_idxZ {j l z N : Nat} {k k2 : IntKind} {e : TypeId} {td : TypeDesc} {f : Nat → Nat} (hT : P.underlying T = some (.array l e)) (he : P.underlying e = some td) (hn : rowLike td = true) (hs : (P.info? e).map (·.size) = some z) (hx : rd E x = some (.agg (arr k N f))) (hy : rd E y = some (.int k2 (j : Int))) (hj : j < l)
    (ho : j * z + z ≤ N) (hd : Nat.blt d n = true) (h : OpsE P G R ops n K rest ((d, .agg (arr k z (fun t => f (j * z + t)))) :: E) M) : OpsE P G R ops n K (⟨some d, .index T x y, ty, pos, aft, none⟩ :: rest) E M :=
  fun _ _ ha hM => st_idxZ hT he hn hs (ha.rd hx) (ha.rd hy) hj (by rw [arr_part k N (j * z) z f ho]; exact h _ _ (ha.put hd _) hM)
theorem e_buildZ {zv : Value} {l z : Nat} {e : TypeId} {parts : Array (Nat × Operand)} {pv : List (Nat × Value)} (c : Array Value) (hz : (P.info? T).bind (·.zero) = some zv) (hT : P.underlying T = some (.array l e)) (hs : (P.info? e).map (·.size) = some z)
    (hp : rdp E parts.toList = some pv) (hf : Instr.fill (fun i => some (i * z, z)) zv.cells pv = some c) (hd : Nat.blt d n = true)
    (h : OpsE P G R ops n K rest ((d, .agg c) :: E) M) : OpsE P G R ops n K (⟨some d, .build T parts, ty, pos, aft, none⟩ :: rest) E M :=
  fun _ _ ha hM => st_buildZ hz hT hs (ha.rdp hp) hf (h _ _ (ha.put hd _) hM)

end Go.Proofs.Ytmnmhmpklknleaa
