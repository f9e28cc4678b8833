/-
  The same, over slots and labelled blocks: parts of blocks, fields, structs of two arrays.
-/
import Derived.Test.YtmnmhmpklknleaaOps2
import Derived.Test.YtmnmhmpklknleaaEnv
import Derived.Test.YtmnmhmpklknleaaNum4
namespace Go.Proofs.Ytmnmhmpklknleaa
open Go Go.RowKit
variable {P : Program} {G : Mem} {R : Reg} {ops : Array Oper} {n : Nat} {K : Env → Mm → Prop} {rest : List Oper} {E : Env} {M : Mm} {d : Nat} {ty : TypeId} {pos : String} {aft : Array Edge}
variable {T T' : TypeId} {x y : Operand}

theorem arr_part (k : IntKind) (N o l : Nat) (f : Nat → Nat) (h : o + l ≤ N) : (arr k N f).extract o (o + l) = arr k l (fun t => f (o + t)) := by
  apply Array.ext
  · simp [arr]; omega
  · intro i h1 h2
    simp [arr]
theorem e_loadS {b i o l N : Nat} {k : IntKind} {f : Nat → Nat} {t : TypeId} {td : TypeDesc} (hT : P.underlying T = some td) (hn : rowLike td = true) (hs : (P.info? T).map (·.size) = some l)
    (hx : rd E x = some (.pointer (some ⟨b, o, none⟩))) (hm : lkM M i = some ⟨b, arr k N f, t⟩) (ho : o + l ≤ N) (hd : Nat.blt d n = true) (hX : ∃ js, okX M i js R.X) (h : OpsE P G R ops n K rest ((d, .agg (arr k l (fun t => f (o + t)))) :: E) M) :
    OpsE P G R ops n K (⟨some d, .load T x, ty, pos, aft, none⟩ :: rest) E M :=
  fun _ _ ha hM => by
    obtain ⟨j, hj⟩ := hM.at hm
    exact st_loadS hT hn hs (ha.rd hx) hj (by obtain ⟨js, hjs⟩ := hX; exact okX_not hM hm hjs) (by rw [arr_size]; exact ho) (by rw [arr_part k N o l f ho]; exact h _ _ (ha.put hd _) hM)
theorem e_field {b o f sz : Nat} {fs : Array Field} {fd : Field} (hT : P.underlying T = some (.struct fs)) (hf : fs[f]? = some fd) (hs : (P.info? fd.type).map (·.size) = some (sz + 1)) (hx : rd E x = some (.pointer (some ⟨b, o, none⟩)))
    (hd : Nat.blt d n = true) (h : OpsE P G R ops n K rest ((d, .pointer (some ⟨b, o + fd.offset, none⟩)) :: E) M) : OpsE P G R ops n K (⟨some d, .fieldAddr T x f, ty, pos, aft, none⟩ :: rest) E M :=
  fun _ _ ha hM => st_field hT hf hs (ha.rd hx) (h _ _ (ha.put hd _) hM)
theorem e_buildS {z : Value} {fs : Array Field} {places : Array (Nat × Nat)} {parts : Array (Nat × Operand)} {pv : List (Nat × Value)} (c : Array Value) (hz : (P.info? T).bind (·.zero) = some z) (hT : P.underlying T = some (.struct fs))
    (hpl : ∀ w, (fs.mapM fun f => do pure (f.offset, ← sizeOf f.type) : Sem (Array (Nat × Nat))).run P w = .ok places w)
    (hp : rdp E parts.toList = some pv) (hf : Instr.fill (places[·]?) z.cells pv = some c) (hd : Nat.blt d n = true)
    (h : OpsE P G R ops n K rest ((d, .agg c) :: E) M) : OpsE P G R ops n K (⟨some d, .build T parts, ty, pos, aft, none⟩ :: rest) E M :=
  fun _ _ ha hM => st_buildS hz hT hpl (ha.rdp hp) hf (h _ _ (ha.put hd _) hM)

/-! ### Two numbers' digits, one behind the other -/
def pt2 (x z : Nat) : Nat → Nat := fun t => if t < 16 then d16 x t else d16 z (t - 16)
theorem pt2_lo (x z : Nat) : arr .u64 16 (fun t => pt2 x z (0 + t)) = arr .u64 16 (d16 x) := arr_congr fun j hj => by
  unfold pt2; rw [Nat.zero_add, if_pos hj]
theorem pt2_hi (x z : Nat) : arr .u64 16 (fun t => pt2 x z (16 + t)) = arr .u64 16 (d16 z) := arr_congr fun j hj => by
  unfold pt2; rw [if_neg (by omega), Nat.add_sub_cancel_left]
theorem fill2 (x z : Nat) : Instr.fill ((#[(0, 16), (16, 16)] : Array (Nat × Nat))[·]?) (arr .u64 32 fun _ => 0) [(0, dg x), (1, dg z)] = some (arr .u64 32 (pt2 x z)) := by kernel_rfl
theorem fill_x (x : Nat) : Instr.fill ((#[(0, 16), (16, 16)] : Array (Nat × Nat))[·]?) (arr .u64 32 fun _ => 0) [(0, dg x)] = some (arr .u64 32 (fun t => if t < 16 then d16 x t else 0)) := by kernel_rfl

end Go.Proofs.Ytmnmhmpklknleaa
