import Derived.Test.YtpmgjnfllnokjaaDoorKZ2
import Derived.Test.YtpmgjnfllnokjaaDoorRows

/-
  The same, over slots and labelled blocks: bytes, exclusive or, arrays of arrays.
-/
namespace Go.Proofs.YtpmgjnfllnokjaaDoor
open Go Go.RowKit
variable {P : Program} {G : Mem} {R : Reg} {ops : Array Oper} {n : Nat} {K : Env → Mm → Prop} {rest : List Oper} {E : Env} {M : Mm} {d : Nat} {ty : TypeId} {pos : String} {aft : Array Edge}
variable {T T' : TypeId} {x y : Operand}

theorem e_xor_u {p q : Nat} (hx : rd E x = some (u p)) (hy : rd E y = some (u q)) (hd : Nat.blt d n = true) (h : OpsE P G R ops n K rest ((d, u ((p ^^^ q) % 18446744073709551616)) :: E) M) :
    OpsE P G R ops n K (⟨some d, .binOp .xor T x y T', ty, pos, aft, none⟩ :: rest) E M := fun _ _ ha hM => st_xor_u (ha.rd hx) (ha.rd hy) (h _ _ (ha.put hd _) hM)
theorem e_and_b {p q : Nat} (hx : rd E x = some (by8 p)) (hy : rd E y = some (by8 q)) (hd : Nat.blt d n = true) (h : OpsE P G R ops n K rest ((d, by8 ((p &&& q) % 256)) :: E) M) :
    OpsE P G R ops n K (⟨some d, .binOp .and T x y T', ty, pos, aft, none⟩ :: rest) E M := fun _ _ ha hM => st_and_b (ha.rd hx) (ha.rd hy) (h _ _ (ha.put hd _) hM)
theorem e_or_b {p q : Nat} (hx : rd E x = some (by8 p)) (hy : rd E y = some (by8 q)) (hd : Nat.blt d n = true) (h : OpsE P G R ops n K rest ((d, by8 ((p ||| q) % 256)) :: E) M) :
    OpsE P G R ops n K (⟨some d, .binOp .or T x y T', ty, pos, aft, none⟩ :: rest) E M := fun _ _ ha hM => st_or_b (ha.rd hx) (ha.rd hy) (h _ _ (ha.put hd _) hM)
theorem e_xor_b {p q : Nat} (hx : rd E x = some (by8 p)) (hy : rd E y = some (by8 q)) (hd : Nat.blt d n = true) (h : OpsE P G R ops n K rest ((d, by8 ((p ^^^ q) % 256)) :: E) M) :
    OpsE P G R ops n K (⟨some d, .binOp .xor T x y T', ty, pos, aft, none⟩ :: rest) E M := fun _ _ ha hM => st_xor_b (ha.rd hx) (ha.rd hy) (h _ _ (ha.put hd _) hM)
theorem e_add_b {p q : Nat} (hx : rd E x = some (by8 p)) (hy : rd E y = some (by8 q)) (hd : Nat.blt d n = true) (h : OpsE P G R ops n K rest ((d, by8 ((p + q) % 256)) :: E) M) :
    OpsE P G R ops n K (⟨some d, .binOp .add T x y T', ty, pos, aft, none⟩ :: rest) E M := fun _ _ ha hM => st_add_b (ha.rd hx) (ha.rd hy) (h _ _ (ha.put hd _) hM)
theorem e_sub_b {p q : Nat} (hx : rd E x = some (by8 p)) (hy : rd E y = some (by8 q)) (hd : Nat.blt d n = true) (hq : q ≤ 256) (h : OpsE P G R ops n K rest ((d, by8 ((p + 256 - q) % 256)) :: E) M) :
    OpsE P G R ops n K (⟨some d, .binOp .sub T x y T', ty, pos, aft, none⟩ :: rest) E M := fun _ _ ha hM => st_sub_b (ha.rd hx) (ha.rd hy) hq (h _ _ (ha.put hd _) hM)
theorem e_rem_b {p q : Nat} (hx : rd E x = some (by8 p)) (hy : rd E y = some (by8 q)) (hd : Nat.blt d n = true) (hq : 0 < q) (h : OpsE P G R ops n K rest ((d, by8 (p % q)) :: E) M) :
    OpsE P G R ops n K (⟨some d, .binOp .rem T x y T', ty, pos, aft, none⟩ :: rest) E M := fun _ _ ha hM => st_rem_b (ha.rd hx) (ha.rd hy) hq (h _ _ (ha.put hd _) hM)
theorem e_shr_b {k : IntKind} {p s : Nat} (hx : rd E x = some (by8 p)) (hy : rd E y = some (.int k (s : Int))) (hd : Nat.blt d n = true) (hs : s ≤ 8) (h : OpsE P G R ops n K rest ((d, by8 (p / 2 ^ s)) :: E) M) :
    OpsE P G R ops n K (⟨some d, .binOp .shr T x y T', ty, pos, aft, none⟩ :: rest) E M := fun _ _ ha hM => st_shr_b (ha.rd hx) (ha.rd hy) hs (h _ _ (ha.put hd _) hM)

theorem e_indexZ {b o j l z : Nat} {k : IntKind} {e : TypeId} (hT : P.underlying T = some (.array l e)) (hs : (P.info? e).map (·.size) = some (z + 1)) (hx : rd E x = some (.pointer (some ⟨b, o, none⟩))) (hy : rd E y = some (.int k (j : Int))) (hj : j < l)
    (hd : Nat.blt d n = true) (h : OpsE P G R ops n K rest ((d, .pointer (some ⟨b, o + j * (z + 1), none⟩)) :: E) M) : OpsE P G R ops n K (⟨some d, .indexAddr T x y, ty, pos, aft, none⟩ :: rest) E M :=
  fun _ _ ha hM => st_indexZ hT hs (ha.rd hx) (ha.rd hy) hj (h _ _ (ha.put hd _) hM)
theorem e_at (o' : Nat) {b o j l z : Nat} {k : IntKind} {e : TypeId} (hT : P.underlying T = some (.array l e)) (hs : (P.info? e).map (·.size) = some (z + 1)) (hx : rd E x = some (.pointer (some ⟨b, o, none⟩))) (hy : rd E y = some (.int k (j : Int))) (hj : j < l) (ho : o + j * (z + 1) = o')
    (hd : Nat.blt d n = true) (h : OpsE P G R ops n K rest ((d, .pointer (some ⟨b, o', none⟩)) :: E) M) : OpsE P G R ops n K (⟨some d, .indexAddr T x y, ty, pos, aft, none⟩ :: rest) E M :=
  fun _ _ ha hM => st_indexZ hT hs (ha.rd hx) (ha.rd hy) hj (by rw [ho]; exact h _ _ (ha.put hd _) hM)
theorem e_fld (o' : Nat) {b o f sz : Nat} {fs : Array Field} {fd : Field} (hT : P.underlying T = some (.struct fs)) (hf : fs[f]? = some fd) (hs : (P.info? fd.type).map (·.size) = some (sz + 1)) (hx : rd E x = some (.pointer (some ⟨b, o, none⟩)))
    (ho : o + fd.offset = o') (hd : Nat.blt d n = true) (h : OpsE P G R ops n K rest ((d, .pointer (some ⟨b, o', none⟩)) :: E) M) : OpsE P G R ops n K (⟨some d, .fieldAddr T x f, ty, pos, aft, none⟩ :: rest) E M :=
  fun _ _ ha hM => st_field hT hf hs (ha.rd hx) (by rw [ho]; exact h _ _ (ha.put hd _) hM)
theorem e_idxZ {j l z N : Nat} {k k2 : IntKind} {e : TypeId} {td : TypeDesc} {f : Nat → Nat} (hT : P.underlying T = some (.array l e)) (he : P.underlying e = some td) (hn : rowLike td = true) (hs : (P.info? e).map (·.size) = some z) (hx : rd E x = some (.agg (arr k N f))) (hy : rd E y = some (.int k2 (j : Int))) (hj : j < l)
    (ho : j * z + z ≤ N) (hd : Nat.blt d n = true) (h : OpsE P G R ops n K rest ((d, .agg (arr k z (fun t => f (j * z + t)))) :: E) M) : OpsE P G R ops n K (⟨some d, .index T x y, ty, pos, aft, none⟩ :: rest) E M :=
  fun _ _ ha hM => st_idxZ hT he hn hs (ha.rd hx) (ha.rd hy) hj (by rw [arr_part k N (j * z) z f ho]; exact h _ _ (ha.put hd _) hM)
theorem e_buildZ {zv : Value} {l z : Nat} {e : TypeId} {parts : Array (Nat × Operand)} {pv : List (Nat × Value)} (c : Array Value) (hz : (P.info? T).bind (·.zero) = some zv) (hT : P.underlying T = some (.array l e)) (hs : (P.info? e).map (·.size) = some z)
    (hp : rdp E parts.toList = some pv) (hf : Instr.fill (fun i => some (i * z, z)) zv.cells pv = some c) (hd : Nat.blt d n = true)
    (h : OpsE P G R ops n K rest ((d, .agg c) :: E) M) : OpsE P G R ops n K (⟨some d, .build T parts, ty, pos, aft, none⟩ :: rest) E M :=
  fun _ _ ha hM => st_buildZ hz hT hs (ha.rdp hp) hf (h _ _ (ha.put hd _) hM)

end Go.Proofs.YtpmgjnfllnokjaaDoor

/-
  The same, over slots and labelled blocks: slices, strings; calls that make blocks or write.
-/
namespace Go.Proofs.YtpmgjnfllnokjaaDoor
open Go Go.RowKit
variable {P : Program} {G : Mem} {R : Reg} {ops : Array Oper} {n : Nat} {K : Env → Mm → Prop} {rest : List Oper} {E : Env} {M : Mm} {d : Nat} {ty : TypeId} {pos : String} {aft : Array Edge}
variable {T T' : TypeId} {x y : Operand}

theorem e_rem_z {p q : Int} (hx : rd E x = some (.int .i64 p)) (hy : rd E y = some (.int .i64 q)) (hd : Nat.blt d n = true) (hq : q ≠ 0) (h : OpsE P G R ops n K rest ((d, .int .i64 (p.tmod q)) :: E) M) :
    OpsE P G R ops n K (⟨some d, .binOp .rem T x y T', ty, pos, aft, none⟩ :: rest) E M := fun _ _ ha hM => st_rem_z (ha.rd hx) (ha.rd hy) hq (h _ _ (ha.put hd _) hM)
theorem e_add_z {p q : Int} (hx : rd E x = some (.int .i64 p)) (hy : rd E y = some (.int .i64 q)) (hd : Nat.blt d n = true) (h0 : -9223372036854775808 ≤ p + q) (h1 : p + q < 9223372036854775808) (h : OpsE P G R ops n K rest ((d, .int .i64 (p + q)) :: E) M) :
    OpsE P G R ops n K (⟨some d, .binOp .add T x y T', ty, pos, aft, none⟩ :: rest) E M := fun _ _ ha hM => st_add_z (ha.rd hx) (ha.rd hy) h0 h1 (h _ _ (ha.put hd _) hM)
theorem e_mul_z {p q : Int} (hx : rd E x = some (.int .i64 p)) (hy : rd E y = some (.int .i64 q)) (hd : Nat.blt d n = true) (h0 : -9223372036854775808 ≤ p * q) (h1 : p * q < 9223372036854775808) (h : OpsE P G R ops n K rest ((d, .int .i64 (p * q)) :: E) M) :
    OpsE P G R ops n K (⟨some d, .binOp .mul T x y T', ty, pos, aft, none⟩ :: rest) E M := fun _ _ ha hM => st_mul_z (ha.rd hx) (ha.rd hy) h0 h1 (h _ _ (ha.put hd _) hM)
theorem e_buildSl (i : Nat) {zv : Value} {len z : Nat} {e : TypeId} {parts : Array (Nat × Operand)} {pv : List (Nat × Value)} (c : Array Value) (hT : P.underlying T = some (.slice e)) (hs : (P.info? e).map (·.size) = some z) (hz : (P.info? e).bind (·.zero) = some zv)
    (h0 : len * z ≠ 0) (h1 : len * z ≤ 16777216) (hp : rdp E parts.toList = some pv) (hf : Instr.fill (fun i => some (i * z, z)) ((Array.range (len * z)).map (zv.cells[· % zv.cells.size]!)) pv = some c) (hd : Nat.blt d n = true)
    (h : ∀ r, OpsE P G R ops n K rest ((d, .slice (some ⟨r, 0, none⟩) len len) :: E) ((i, some ⟨r, c, e⟩) :: M)) : OpsE P G R ops n K (⟨some d, .buildSlice T len parts, ty, pos, aft, none⟩ :: rest) E M :=
  fun _ _ ha hM => st_buildSl hT hs hz h0 h1 (ha.rdp hp) hf fun r hr => h r _ _ (ha.put hd _) (hM.alloc i ⟨r, c, e⟩ hr)
theorem e_atSl (o' : Nat) {b o j len cap z : Nat} {k : IntKind} {e : TypeId} (hT : P.underlying T = some (.slice e)) (hs : (P.info? e).map (·.size) = some (z + 1)) (hx : rd E x = some (.slice (some ⟨b, o, none⟩) len cap)) (hy : rd E y = some (.int k (j : Int))) (hj : j < len) (ho : o + j * (z + 1) = o')
    (hd : Nat.blt d n = true) (h : OpsE P G R ops n K rest ((d, .pointer (some ⟨b, o', none⟩)) :: E) M) : OpsE P G R ops n K (⟨some d, .indexAddr T x y, ty, pos, aft, none⟩ :: rest) E M :=
  fun _ _ ha hM => st_indexSl hT hs (ha.rd hx) (ha.rd hy) hj (by rw [ho]; exact h _ _ (ha.put hd _) hM)
/-- An operand that is told, or not. -/
def rdo (E : Env) : Option Operand → Option (Option Value)
  | none => some none
  | some x => (rd E x).map some
theorem Fits.rdo {a : Act} (h : Fits n E a) {o : Option Operand} {v : Option Value} (ho : YtpmgjnfllnokjaaDoor.rdo E o = some v) : o.map a.eval = v := by
  cases o with
  | none => simpa [YtpmgjnfllnokjaaDoor.rdo] using ho
  | some x =>
    cases hx : YtpmgjnfllnokjaaDoor.rd E x with
    | none => simp [YtpmgjnfllnokjaaDoor.rdo, hx] at ho
    | some u => simp [YtpmgjnfllnokjaaDoor.rdo, hx] at ho; subst ho; simp [h.rd hx]
theorem e_sliceA (l h : Nat) {b o N z : Nat} {e : TypeId} {lo hi : Option Operand} {vl vh : Option Value} (hT : P.underlying T = some (.array N e)) (hs : (P.info? e).map (·.size) = some z) (hx : rd E x = some (.pointer (some ⟨b, o, none⟩))) (hlo : rdo E lo = some vl) (hhi : rdo E hi = some vh) (hl : isB vl l 0) (hh : isB vh h N)
    (h1 : l ≤ h) (h2 : h ≤ N) (h3 : l < N) (hd : Nat.blt d n = true) (hK : OpsE P G R ops n K rest ((d, .slice (some ⟨b, o + l * z, none⟩) (h - l) (N - l)) :: E) M) : OpsE P G R ops n K (⟨some d, .slice T x lo hi none, ty, pos, aft, none⟩ :: rest) E M :=
  fun _ _ ha hM => st_sliceA hT hs (ha.rd hx) (by rw [ha.rdo hlo]; exact hl) (by rw [ha.rdo hhi]; exact hh) h1 h2 h3 (hK _ _ (ha.put hd _) hM)
theorem e_sliceS (l h : Nat) {b o len cap z : Nat} {e : TypeId} {lo hi : Option Operand} {vl vh : Option Value} (hT : P.underlying T = some (.slice e)) (hs : (P.info? e).map (·.size) = some z) (hx : rd E x = some (.slice (some ⟨b, o, none⟩) len cap)) (hlo : rdo E lo = some vl) (hhi : rdo E hi = some vh) (hl : isB vl l 0) (hh : isB vh h len)
    (h1 : l ≤ h) (h2 : h ≤ cap) (hd : Nat.blt d n = true) (hK : OpsE P G R ops n K rest ((d, .slice (some (if cap = l then ⟨b, o, none⟩ else ⟨b, o + l * z, none⟩)) (h - l) (cap - l)) :: E) M) : OpsE P G R ops n K (⟨some d, .slice T x lo hi none, ty, pos, aft, none⟩ :: rest) E M :=
  fun _ _ ha hM => st_sliceS hT hs (ha.rd hx) (by rw [ha.rdo hlo]; exact hl) (by rw [ha.rdo hhi]; exact hh) h1 h2 (hK _ _ (ha.put hd _) hM)
theorem e_conv_str {b o N len cap i : Nat} {e : TypeId} {f : Nat → Nat} {t : TypeId} (hs : P.underlying T = some (.slice e)) (he : P.underlying e = some (.int .u8)) (ht : P.underlying T' = some .string) (hx : rd E x = some (.slice (some ⟨b, o, none⟩) len cap))
    (hm : lkM M i = some ⟨b, arr .u8 N f, t⟩) (ho : o + len ≤ N) (hd : Nat.blt d n = true) (hq : kconv R T T' = 1) (hX : ∃ js, okX M i js R.X) (h : OpsE P G R ops n K rest ((d, .string (strOfNums ((List.range len).map fun j => (f (o + j) : Int)))) :: E) M) : OpsE P G R ops n K (⟨some d, .convert T T' x, ty, pos, aft, none⟩ :: rest) E M :=
  fun _ _ ha hM => by
    obtain ⟨k, hk⟩ := hM.at hm
    obtain ⟨js, hjs⟩ := hX
    exact st_conv_str hq hs he ht (ha.rd hx) hk (okX_not hM hm hjs) ho (h _ _ (ha.put hd _) hM)
theorem e_eqS {p q : ByteArray} (hx : rd E x = some (.string p)) (hy : rd E y = some (.string q)) (hd : Nat.blt d n = true) (h : OpsE P G R ops n K rest ((d, .bool (p.toList == q.toList)) :: E) M) :
    OpsE P G R ops n K (⟨some d, .binOp .eql T x y T', ty, pos, aft, none⟩ :: rest) E M := fun _ _ ha hM => st_eqS (ha.rd hx) (ha.rd hy) (h _ _ (ha.put hd _) hM)

end Go.Proofs.YtpmgjnfllnokjaaDoor

/-
  The same, over slots and labelled blocks: words of 32 bits, strings, slices; calls that make slices or write.
-/
namespace Go.Proofs.YtpmgjnfllnokjaaDoor
open Go Go.RowKit
section
variable {P : Program} {G : Mem} {R : Reg} {ops : Array Oper} {n : Nat} {K : Env → Mm → Prop} {rest : List Oper} {E : Env} {M : Mm} {d : Nat} {ty : TypeId} {pos : String} {aft : Array Edge}
variable {T T' : TypeId} {x y : Operand}

theorem e_add_w {p q : Nat} (hx : rd E x = some (uw p)) (hy : rd E y = some (uw q)) (hd : Nat.blt d n = true) (h : OpsE P G R ops n K rest ((d, uw ((p + q) % 4294967296)) :: E) M) :
    OpsE P G R ops n K (⟨some d, .binOp .add T x y T', ty, pos, aft, none⟩ :: rest) E M := fun _ _ ha hM => st_add_w (ha.rd hx) (ha.rd hy) (h _ _ (ha.put hd _) hM)
theorem e_sub_w {p q : Nat} (hx : rd E x = some (uw p)) (hy : rd E y = some (uw q)) (hd : Nat.blt d n = true) (hq : q ≤ 4294967296) (h : OpsE P G R ops n K rest ((d, uw ((p + 4294967296 - q) % 4294967296)) :: E) M) :
    OpsE P G R ops n K (⟨some d, .binOp .sub T x y T', ty, pos, aft, none⟩ :: rest) E M := fun _ _ ha hM => st_sub_w (ha.rd hx) (ha.rd hy) hq (h _ _ (ha.put hd _) hM)
theorem e_and_w {p q : Nat} (hx : rd E x = some (uw p)) (hy : rd E y = some (uw q)) (hd : Nat.blt d n = true) (h : OpsE P G R ops n K rest ((d, uw ((p &&& q) % 4294967296)) :: E) M) :
    OpsE P G R ops n K (⟨some d, .binOp .and T x y T', ty, pos, aft, none⟩ :: rest) E M := fun _ _ ha hM => st_and_w (ha.rd hx) (ha.rd hy) (h _ _ (ha.put hd _) hM)
theorem e_or_w {p q : Nat} (hx : rd E x = some (uw p)) (hy : rd E y = some (uw q)) (hd : Nat.blt d n = true) (h : OpsE P G R ops n K rest ((d, uw ((p ||| q) % 4294967296)) :: E) M) :
    OpsE P G R ops n K (⟨some d, .binOp .or T x y T', ty, pos, aft, none⟩ :: rest) E M := fun _ _ ha hM => st_or_w (ha.rd hx) (ha.rd hy) (h _ _ (ha.put hd _) hM)
theorem e_xor_w {p q : Nat} (hx : rd E x = some (uw p)) (hy : rd E y = some (uw q)) (hd : Nat.blt d n = true) (h : OpsE P G R ops n K rest ((d, uw ((p ^^^ q) % 4294967296)) :: E) M) :
    OpsE P G R ops n K (⟨some d, .binOp .xor T x y T', ty, pos, aft, none⟩ :: rest) E M := fun _ _ ha hM => st_xor_w (ha.rd hx) (ha.rd hy) (h _ _ (ha.put hd _) hM)
theorem e_shl_w {k : IntKind} {p s : Nat} (hx : rd E x = some (uw p)) (hy : rd E y = some (.int k (s : Int))) (hd : Nat.blt d n = true) (hs : s ≤ 32) (h : OpsE P G R ops n K rest ((d, uw ((p * 2 ^ s) % 4294967296)) :: E) M) :
    OpsE P G R ops n K (⟨some d, .binOp .shl T x y T', ty, pos, aft, none⟩ :: rest) E M := fun _ _ ha hM => st_shl_w (ha.rd hx) (ha.rd hy) hs (h _ _ (ha.put hd _) hM)
theorem e_shr_w {k : IntKind} {p s : Nat} (hx : rd E x = some (uw p)) (hy : rd E y = some (.int k (s : Int))) (hd : Nat.blt d n = true) (hs : s ≤ 32) (h : OpsE P G R ops n K rest ((d, uw (p / 2 ^ s)) :: E) M) :
    OpsE P G R ops n K (⟨some d, .binOp .shr T x y T', ty, pos, aft, none⟩ :: rest) E M := fun _ _ ha hM => st_shr_w (ha.rd hx) (ha.rd hy) hs (h _ _ (ha.put hd _) hM)
theorem e_conv_w {k : IntKind} {dk : TypeDesc} {p : Nat} (hs : P.underlying T = some dk) (ht : P.underlying T' = some (.int .u32)) (hx : rd E x = some (.int k (p : Int))) (hd : Nat.blt d n = true) (hv : kconv R T T' = 1)
    (h : OpsE P G R ops n K rest ((d, uw (p % 4294967296)) :: E) M) : OpsE P G R ops n K (⟨some d, .convert T T' x, ty, pos, aft, none⟩ :: rest) E M := fun _ _ ha hM => st_conv_w hv hs ht (ha.rd hx) (h _ _ (ha.put hd _) hM)
theorem e_conv_i {k : IntKind} {dk : TypeDesc} {p : Nat} (hs : P.underlying T = some dk) (ht : P.underlying T' = some (.int .i64)) (hx : rd E x = some (.int k (p : Int))) (hd : Nat.blt d n = true) (hv : kconv R T T' = 1) (hp : p < 9223372036854775808)
    (h : OpsE P G R ops n K rest ((d, ii p) :: E) M) : OpsE P G R ops n K (⟨some d, .convert T T' x, ty, pos, aft, none⟩ :: rest) E M := fun _ _ ha hM => st_conv_i hv hs ht (ha.rd hx) hp (h _ _ (ha.put hd _) hM)
theorem e_conv_u8z {k : IntKind} {dk : TypeDesc} {z : Int} (hs : P.underlying T = some dk) (ht : P.underlying T' = some (.int .u8)) (hx : rd E x = some (.int k z)) (hd : Nat.blt d n = true) (hv : kconv R T T' = 1)
    (h : OpsE P G R ops n K rest ((d, by8 (z % 256).toNat) :: E) M) : OpsE P G R ops n K (⟨some d, .convert T T' x, ty, pos, aft, none⟩ :: rest) E M := fun _ _ ha hM => st_conv_u8z hv hs ht (ha.rd hx) (h _ _ (ha.put hd _) hM)

/-! ### Strings -/
theorem e_catS {l k : List Nat} (hx : rd E x = some (sv l)) (hy : rd E y = some (sv k)) (hd : Nat.blt d n = true) (hl : l.length + k.length ≤ 9223372036854775807) (h : OpsE P G R ops n K rest ((d, sv (l ++ k)) :: E) M) :
    OpsE P G R ops n K (⟨some d, .binOp .add T x y T', ty, pos, aft, none⟩ :: rest) E M := fun _ _ ha hM => st_catS (ha.rd hx) (ha.rd hy) hl (h _ _ (ha.put hd _) hM)
theorem e_sliceStr (i j : Nat) {l : List Nat} {lo hi : Option Operand} {vl vh : Option Value} (hT : P.underlying T = some .string) (hx : rd E x = some (sv l)) (hlo : rdo E lo = some vl) (hhi : rdo E hi = some vh) (hl : isB vl i 0) (hh : isB vh j l.length) (h1 : i ≤ j) (h2 : j ≤ l.length) (hd : Nat.blt d n = true)
    (hK : OpsE P G R ops n K rest ((d, sv ((l.drop i).take (j - i))) :: E) M) : OpsE P G R ops n K (⟨some d, .slice T x lo hi none, ty, pos, aft, none⟩ :: rest) E M :=
  fun _ _ ha hM => st_sliceStr hT (ha.rd hx) (by rw [ha.rdo hlo]; exact hl) (by rw [ha.rdo hhi]; exact hh) h1 h2 (hK _ _ (ha.put hd _) hM)
theorem e_idxStr {l : List Nat} {j b : Nat} {k : IntKind} (hT : P.underlying T = some .string) (hx : rd E x = some (sv l)) (hy : rd E y = some (.int k (j : Int))) (hj : l[j]? = some b) (hb : b < 256) (hd : Nat.blt d n = true)
    (h : OpsE P G R ops n K rest ((d, by8 b) :: E) M) : OpsE P G R ops n K (⟨some d, .index T x y, ty, pos, aft, none⟩ :: rest) E M := fun _ _ ha hM => st_idxStr hT (ha.rd hx) (ha.rd hy) hj hb (h _ _ (ha.put hd _) hM)
theorem e_eqStr {l k : List Nat} (hx : rd E x = some (sv l)) (hy : rd E y = some (sv k)) (hd : Nat.blt d n = true) (hl : ∀ b ∈ l, b < 256) (hk : ∀ b ∈ k, b < 256) (h : OpsE P G R ops n K rest ((d, .bool (decide (l = k))) :: E) M) :
    OpsE P G R ops n K (⟨some d, .binOp .eql T x y T', ty, pos, aft, none⟩ :: rest) E M := fun _ _ ha hM => st_eqStr hl hk (ha.rd hx) (ha.rd hy) (h _ _ (ha.put hd _) hM)
theorem e_lenStr {l : List Nat} (hT : P.underlying T = some .string) (hx : rd E x = some (sv l)) (hd : Nat.blt d n = true) (hR : callOk R = true) (h : OpsE P G R ops n K rest ((d, ii l.length) :: E) M) :
    OpsE P G R ops n K (⟨some d, .call ⟨.builtin .len, #[x], #[T]⟩, ty, pos, aft, none⟩ :: rest) E M := fun _ _ ha hM => st_lenStr hR hT (ha.rd hx) (h _ _ (ha.put hd _) hM)

/-! ### Slices that are read -/
def SeenE (G : Mem) (R : Reg) (M : Mm) (B : Mem) : Prop := ∀ z ∈ B, z ∈ G ∨ ∃ i, lkM M i = some z ∧ ∃ js, okX M i js R.X
theorem SeenE.seen {B : Mem} (h : SeenE G R M B) {m : Mem} (hM : FitsM M m) : Seen G R m B := fun z hz => by
  rcases h z hz with h1 | ⟨i, h1, js, h2⟩
  · exact .inl h1
  · exact .inr ⟨hM.has i z h1, okX_not hM h1 h2⟩
theorem seenG : SeenE G R M G := fun _ hz => .inl hz
theorem seenM (i : Nat) {oz : Option Blk} (hi : lkM M i = oz) (hX : ∃ js, okX M i js R.X) : SeenE G R M oz.toList := fun z hz => by
  have : oz = some z := by simpa using hz
  exact .inr ⟨i, hi.trans this, hX⟩
theorem seen1 (i : Nat) {z : Blk} (hi : lkM M i = some z) (hX : ∃ js, okX M i js R.X) : SeenE G R M [z] := fun q hq => by
  simp at hq; subst hq
  exact .inr ⟨i, hi, hX⟩
theorem e_lenV {e : TypeId} {v : Value} {B : Mem} {z k : Nat} {xs : List Value} (hv : Shows B z v k xs) (hT : P.underlying T = some (.slice e)) (hx : rd E x = some v) (hd : Nat.blt d n = true) (hR : callOk R = true) (h : OpsE P G R ops n K rest ((d, ii k) :: E) M) :
    OpsE P G R ops n K (⟨some d, .call ⟨.builtin .len, #[x], #[T]⟩, ty, pos, aft, none⟩ :: rest) E M := fun _ _ ha hM => st_lenS hR hT (ha.rd hx) hv (h _ _ (ha.put hd _) hM)
theorem e_min {k k' : IntKind} {p q : Nat} (hx : rd E x = some (.int k (p : Int))) (hy : rd E y = some (.int k' (q : Int))) (hd : Nat.blt d n = true) (hR : callOk R = true) (h : OpsE P G R ops n K rest ((d, .int k ((min p q : Nat) : Int)) :: E) M) :
    OpsE P G R ops n K (⟨some d, .call ⟨.builtin .min, #[x, y], #[T, T']⟩, ty, pos, aft, none⟩ :: rest) E M := fun _ _ ha hM => st_min hR (ha.rd hx) (ha.rd hy) (h _ _ (ha.put hd _) hM)
theorem e_atV {e : TypeId} {k : IntKind} {v : Value} {B : Mem} {z l j : Nat} {xs : List Value} (hv : Shows B z v l xs) (hT : P.underlying T = some (.slice e)) (hs : (P.info? e).map (·.size) = some z) (hx : rd E x = some v) (hy : rd E y = some (.int k (j : Int))) (hj : j < l) (hd : Nat.blt d n = true)
    (h : OpsE P G R ops n K rest ((d, slAddr v (j * z)) :: E) M) : OpsE P G R ops n K (⟨some d, .indexAddr T x y, ty, pos, aft, none⟩ :: rest) E M := fun _ _ ha hM => st_atV hT hs (ha.rd hx) (ha.rd hy) hv hj (h _ _ (ha.put hd _) hM)
theorem e_loadV {td : TypeDesc} {v u : Value} {B : Mem} {l j : Nat} {xs : List Value} (hv : Shows B 1 v l xs) (hB : SeenE G R M B) (hT : P.underlying T = some td) (hn : rowLike td = false) (hx : rd E x = some (slAddr v j)) (hj : xs[j]? = some u) (hd : Nat.blt d n = true)
    (h : OpsE P G R ops n K rest ((d, u) :: E) M) : OpsE P G R ops n K (⟨some d, .load T x, ty, pos, aft, none⟩ :: rest) E M := fun _ _ ha hM => st_loadV (hB.seen hM) hT hn (ha.rd hx) hv hj (h _ _ (ha.put hd _) hM)
theorem e_sliceV (i j : Nat) {e : TypeId} {v : Value} {B : Mem} {z l : Nat} {xs : List Value} {lo hi : Option Operand} {vl vh : Option Value} (hv : Shows B z v l xs) (hT : P.underlying T = some (.slice e)) (hs : (P.info? e).map (·.size) = some z) (hx : rd E x = some v) (hlo : rdo E lo = some vl) (hhi : rdo E hi = some vh) (hl : isB vl i 0) (hh : isB vh j l)
    (h1 : i ≤ j) (h2 : j ≤ l) (hd : Nat.blt d n = true) (hK : OpsE P G R ops n K rest ((d, slPart z v i j) :: E) M) : OpsE P G R ops n K (⟨some d, .slice T x lo hi none, ty, pos, aft, none⟩ :: rest) E M :=
  fun _ _ ha hM => st_sliceV hT hs (ha.rd hx) hv (by rw [ha.rdo hlo]; exact hl) (by rw [ha.rdo hhi]; exact hh) h1 h2 (hK _ _ (ha.put hd _) hM)
theorem e_conv_strV {e : TypeId} {v : Value} {B : Mem} {l : List Nat} (hv : Shows B 1 v l.length (l.map by8)) (hB : SeenE G R M B) (hs : P.underlying T = some (.slice e)) (he : P.underlying e = some (.int .u8)) (ht : P.underlying T' = some .string) (hx : rd E x = some v) (hd : Nat.blt d n = true) (hq : kconv R T T' = 1)
    (h : OpsE P G R ops n K rest ((d, sv l) :: E) M) : OpsE P G R ops n K (⟨some d, .convert T T' x, ty, pos, aft, none⟩ :: rest) E M := fun _ _ ha hM => st_conv_strV hq (hB.seen hM) hs he ht (ha.rd hx) hv (h _ _ (ha.put hd _) hM)

/-! ### Makes, writes -/
theorem e_make (i : Nat) {e : TypeId} {kl kc k : IntKind} {l b : Nat} {z : Value} (hT : P.underlying T = some (.slice e)) (hs : (P.info? e).map (·.size) = some 1) (hb : (P.info? e).map (·.bytes) = some b) (hz : (P.info? e).bind (·.zero) = some z) (hzc : z.cells = #[.int k 0])
    (hx : rd E x = some (.int kl (l : Int))) (hy : rd E y = some (.int kc (l : Int))) (hn : b * l ≤ 281474976710656) (h63 : l ≤ 9223372036854775807) (hd : Nat.blt d n = true)
    (h : ∀ r, OpsE P G R ops n K rest ((d, .slice (some ⟨r, 0, none⟩) l l) :: E) ((i, some ⟨r, arr k l (fun _ => 0), e⟩) :: M)) : OpsE P G R ops n K (⟨some d, .makeSlice T x y, ty, pos, aft, none⟩ :: rest) E M :=
  fun _ _ ha hM => st_make hT hs hb hz hzc (ha.rd hx) (ha.rd hy) hn h63 fun r hr => h r _ _ (ha.put hd _) (hM.alloc i ⟨r, _, e⟩ hr)
theorem FitsM.change {m m' : Mem} (hM : FitsM M m) (i : Nat) {oz : Option Blk} (h1 : ∀ j x, j ≠ i → lkM M j = some x → x ∈ m') (h2 : ∀ z, oz = some z → z ∈ m' ∧ ∀ j x, j ≠ i → lkM M j = some x → x.b ≠ z.b) : FitsM ((i, oz) :: M) m' := by
  refine ⟨fun j x hx => ?_, fun j k x z hx hz hne => ?_⟩
  · rw [lkM_cons] at hx
    split at hx
    · exact (h2 x hx).1
    · rename_i hne; exact h1 j x (fun e => hne e.symm) hx
  · rw [lkM_cons] at hx hz
    split at hx
    · split at hz
      · rename_i e1 e2; exact absurd (e1.symm.trans e2) hne
      · rename_i e2; exact fun e => (h2 x hx).2 k z (fun e' => e2 e'.symm) hz e.symm
    · split at hz
      · rename_i e1 _; exact (h2 z hz).2 j x (fun e' => e1 e'.symm) hx
      · exact hM.apart j k x z hx hz hne
theorem FitsM.others {m lr : Mem} (hM : FitsM M m) {i : Nat} {oz : Option Blk} (hi : lkM M i = oz) (hp : List.Perm m (oz.toList ++ lr)) : ∀ j x, j ≠ i → lkM M j = some x → x ∈ lr := fun j x hne hx => by
  have hm := hp.mem_iff.1 (hM.has j x hx)
  rcases List.mem_append.1 hm with h | h
  · have : oz = some x := by simpa using h
    exact absurd rfl (hM.apart j i x x hx (hi.trans this) hne)
  · exact h
theorem FitsM.perm1 {m : Mem} (hM : FitsM M m) {i : Nat} {oz : Option Blk} (hi : lkM M i = oz) : ∃ lr, List.Perm m (oz.toList ++ lr) := by
  cases oz with
  | none => exact ⟨m, by simp⟩
  | some z =>
    obtain ⟨l1, l2, h⟩ := List.append_of_mem (hM.has i z hi)
    exact ⟨l1 ++ l2, by rw [h]; simp⟩
theorem FitsM.same {m lr : Mem} (hM : FitsM M m) {i : Nat} {oz oz' : Option Blk} (hi : lkM M i = oz) (hp : List.Perm m (oz.toList ++ lr)) (hid : oz'.toList.map (·.b) = oz.toList.map (·.b)) : FitsM ((i, oz') :: M) (oz'.toList ++ lr) :=
  hM.change i (fun j x hne hx => List.mem_append_right _ (hM.others hi hp j x hne hx)) fun z hz => ⟨by subst hz; simp, fun j x hne hx => by
    subst hz
    cases oz with
    | none => simp at hid
    | some q =>
      simp at hid
      rw [hid]; exact hM.apart j i x q hx hi hne⟩
theorem FitsM.fresh {m lr : Mem} (hM : FitsM M m) (i : Nat) {oz : Option Blk} {l0 : Mem} (hp : List.Perm m (l0 ++ lr)) (hf : FreshM m oz.toList) : FitsM ((i, oz) :: M) (l0 ++ lr ++ oz.toList) :=
  hM.change i (fun j x _ hx => List.mem_append_left _ (hp.mem_iff.1 (hM.has j x hx))) fun z hz => ⟨by subst hz; simp, fun j x _ hx => hf.2 z (by subst hz; simp) x (hM.has j x hx)⟩
theorem e_copyStr {e : TypeId} {b o N dl cap i : Nat} {f : Nat → Nat} {t : TypeId} {l : List Nat} (hT : P.underlying T = some (.slice e)) (hs : (P.info? e).map (·.size) = some 1) (hx : rd E x = some (.slice (some ⟨b, o, none⟩) dl cap)) (hy : rd E y = some (sv l)) (hl : ∀ q ∈ l, q < 256)
    (hm : lkM M i = some ⟨b, arr .u8 N f, t⟩) (ho : o + dl ≤ N) (hd : Nat.blt d n = true)
    (h : OpsE P G R ops n K rest ((d, ii (min l.length dl)) :: E) ((i, some ⟨b, arr .u8 N (fun j => if o ≤ j ∧ j < o + min l.length dl then l.getD (j - o) 0 else f j), t⟩) :: M)) : OpsE P G R ops n K (⟨some d, .call ⟨.builtin .copy, #[x, y], #[T, T']⟩, ty, pos, aft, none⟩ :: rest) E M :=
  fun _ _ ha hM => by
    obtain ⟨k, hk⟩ := hM.at hm
    exact st_copyStr hT hs (ha.rd hx) (ha.rd hy) hl hk ho fun lr hp => h _ _ (ha.put hd _) (hM.same (oz' := some _) hm (by simpa using hp) rfl)
theorem own_opt {e : TypeId} {z k : Nat} {v : Value} {xs : List Value} {l : Mem} (h : OwnS e z v k xs l) : ∃ oz : Option Blk, l = oz.toList := by
  rcases h with ⟨_, _, _, rfl⟩ | ⟨r, cap, c, _, rfl, _⟩
  · exact ⟨none, rfl⟩
  · exact ⟨some _, rfl⟩
theorem e_append (i : Nat) {e : TypeId} {z l k bytes : Nat} {zv v vy : Value} {xs news : List Value} {oz : Option Blk} {B : Mem} (hown : OwnS e z v l xs oz.toList) (hsrc : Shows B z vy k news) (hi : lkM M i = oz) (hB : SeenE G R M B)
    (hT : P.underlying T = some (.slice e)) (hs : (P.info? e).map (·.size) = some z) (hb : (P.info? e).map (·.bytes) = some bytes) (hz : (P.info? e).bind (·.zero) = some zv) (hzs : zv.cells.size = z)
    (hx : rd E x = some v) (hy : rd E y = some vy) (h1 : ∀ u ∈ news, u.oneCell' = true) (h63 : l + k ≤ maxLen) (hbytes : (l + k) * bytes ≤ 140737488355328) (hd : Nat.blt d n = true)
    (h : ∀ v' (oz' : Option Blk), OwnS e z v' (l + k) (xs ++ news) oz'.toList → OpsE P G R ops n K rest ((d, v') :: E) ((i, oz') :: M)) : OpsE P G R ops n K (⟨some d, .call ⟨.builtin .append, #[x, y], #[T, T]⟩, ty, pos, aft, none⟩ :: rest) E M :=
  fun _ m ha hM => by
    obtain ⟨lr, hp⟩ := hM.perm1 hi
    refine st_append hT hs hb hz hzs (ha.rd hx) (ha.rd hy) hown hp hsrc (fun q hq => ?_) h1 h63 hbytes fun v' l' ho => ?_
    · rcases hB q hq with h2 | ⟨j, h2, _⟩
      · exact .inl h2
      · exact .inr (hM.has j q h2)
    · obtain ⟨oz', rfl⟩ := own_opt ho
      refine ⟨fun hid => ?_, fun hf => ?_⟩
      · simpa using h v' oz' ho _ _ (ha.put hd _) (hM.same hi hp hid)
      · exact h v' oz' ho _ _ (ha.put hd _) (hM.fresh i hp hf)
theorem subM_opt {oz : Option Blk} {i : Nat} (hi : lkM M i = oz) : subM oz.toList M := by
  cases oz with
  | none => trivial
  | some z => exact ⟨⟨i, hi⟩, trivial⟩
theorem subM_app : ∀ {g g' : Mem}, subM g M → subM g' M → subM (g ++ g') M
  | [], _, _, h => h
  | _ :: _, _, ⟨h1, h2⟩, h => ⟨h1, subM_app h2 h⟩
/-- A call that makes a slice, mk of which is its value. -/
theorem e_callN (i : Nat) (mk : Value → Value) {fo : Operand} {f : FuncId} {args : Array Operand} {tys : Array TypeId} {vs cap : List Value} {g' : Mem} {e : TypeId} {z k : Nat} {xs : List Value} (hf : rd E fo = some (.func (.func f) #[] cap.toArray)) (hargs : rdl E args.toList = some vs) (he : enters P f = true) (hg : SeenE G R M g')
    (hF : Fx P g' [] f (vs ++ cap).toArray (fun v l1 nw => l1 = [] ∧ ∃ v', v = mk v' ∧ OwnS e z v' k xs nw)) (hk : k ≤ maxLen) (hkx : xs.length = k * z) (hd : Nat.blt d n = true) (hR : callMk R = true)
    (h : ∀ v' (oz : Option Blk), OwnS e z v' k xs oz.toList → OpsE P G R ops n K rest ((d, mk v') :: E) ((i, oz) :: M)) : OpsE P G R ops n K (⟨some d, .call ⟨.value fo, args, tys⟩, ty, pos, aft, none⟩ :: rest) E M :=
  fun _ m ha hM => by
    refine st_callN hR (S := fun v nw => ∃ v', v = mk v' ∧ OwnS e z v' k xs nw) (ha.rd hf) (ha.args hargs) he (by simpa using hF) ?_ (fun w hG hv q hq => (hg.seen hM).rin hG hv hq) ?_
    · intro m'
      obtain ⟨r, hr⟩ := fresh_of m'
      exact ⟨_, [⟨r, xs.toArray, e⟩], ⟨.slice (some ⟨r, 0, none⟩) k k, rfl, .inr ⟨r, k, xs.toArray, rfl, rfl, Nat.le_refl _, hk, by simpa using hkx, hkx, by rw [← hkx]; exact List.take_length⟩⟩, by simp, by simpa using hr⟩
    · rintro v nw ⟨v', rfl, ho⟩ hfr
      obtain ⟨oz, rfl⟩ := own_opt ho
      have := hM.fresh i (l0 := []) (lr := m) (by simp) hfr
      exact h v' oz ho _ _ (ha.put hd _) (by simpa using this)
/-- A call that writes one block. -/
theorem e_callW (i : Nat) {fo : Operand} {f : FuncId} {args : Array Operand} {tys : Array TypeId} {vs cap : List Value} {g' : Mem} {b : Nat} {c c' : Array Value} {t : TypeId} {v : Value} (hf : rd E fo = some (.func (.func f) #[] cap.toArray)) (hargs : rdl E args.toList = some vs) (he : enters P f = true)
    (hm : lkM M i = some ⟨b, c, t⟩) (hg : ∀ z ∈ g', z ∈ G ∨ ∃ j, j ≠ i ∧ lkM M j = some z) (hF : Fx P g' [⟨b, c, t⟩] f (vs ++ cap).toArray (fun v' l1 nw => v' = v ∧ l1 = [⟨b, c', t⟩] ∧ nw = [])) (hd : Nat.blt d n = true) (hR : R.c = 5)
    (h : OpsE P G R ops n K rest ((d, v) :: E) ((i, some ⟨b, c', t⟩) :: M)) : OpsE P G R ops n K (⟨some d, .call ⟨.value fo, args, tys⟩, ty, pos, aft, none⟩ :: rest) E M :=
  fun _ m ha hM => by
    obtain ⟨lr, hp⟩ := hM.perm1 hm
    refine st_callX hR (S := fun v' l1 nw => v' = v ∧ l1 = [⟨b, c', t⟩] ∧ nw = []) (ha.rd hf) (ha.args hargs) he (by simpa using hF) (lr := lr) (by simpa using hp) ⟨v, _, [], ⟨rfl, rfl, rfl⟩, by simp, by simp⟩ ?_ (fun w hG hw z hz => ?_) (by simp) (fun hA z hz => ?_) ?_
    · rintro v' l1 nw ⟨_, rfl, _⟩; rfl
    · rcases hg z hz with h1 | ⟨j, _, h1⟩
      · exact hG z h1
      · exact (hw z (hM.has j z h1)).read
    · rcases hg z hz with h1 | ⟨j, hne, h1⟩
      · simpa using hA z h1 ⟨b, c, t⟩ (hM.has i _ hm)
      · simpa using hM.apart j i z _ h1 hm hne
    · rintro v' l1 nw ⟨rfl, rfl, rfl⟩ _
      have := hM.same (oz' := some ⟨b, c', t⟩) hm hp rfl
      exact h _ _ (ha.put hd _) (by simpa using this)
end

/-! ### A function's end -/
section
variable {P : Program} {G : Mem} {n : Nat}
theorem mapM0 (f : ResultVar → Sem Value) : Array.mapM f #[] = pure #[] := by
  rw [Array.mapM_eq_mapM_toList]; simp
/-- A function that writes one block and answers nothing. -/
def EndW (b : Nat) (c' : Array Value) (t : TypeId) (fn : Func) : Exit → Env → Mm → Prop
  | .normal, _, M | .ret, _, M => fn.results = #[] ∧ ∃ i, lkM M i = some ⟨b, c', t⟩
  | _, _, _ => False
theorem fxW {f : FuncId} {fn : Func} {c : Code} {args : Array Value} {b : Nat} {c0 c' : Array Value} {t : TypeId} (hf : P.funcs[f]? = some fn) (hb : fn.body = some c) (hn : fn.ntmps = n) (ha : args.size ≤ n) (E : Env) (hE : ∀ t v, lk E t = some v → args[t]? = some v)
    (h : SatE P G c n (EndW b c' t fn) E [(0, some ⟨b, c0, t⟩)]) : Fx P G [⟨b, c0, t⟩] f args (fun v' l1 nw => v' = .tuple #[] ∧ l1 = [⟨b, c', t⟩] ∧ nw = []) :=
  fx_of hf hb (sat_mono (h _ [⟨b, c0, t⟩] ⟨by simp [hn]; omega, rfl, fun t v ht => by
    have := hE t v ht
    have hlt := (Array.getElem?_eq_some_iff.1 this).1
    rw [Array.getElem?_append_left hlt]; exact this⟩ ⟨fun i x hx => by
      rw [lkM_cons] at hx
      split at hx
      · cases hx; simp
      · simp [lkM] at hx, fun i j x y hx hy hne => by
      rw [lkM_cons] at hx hy
      split at hx
      · split at hy
        · rename_i e1 e2; exact absurd (e1.symm.trans e2) hne
        · simp [lkM] at hy
      · simp [lkM] at hx⟩) fun e a m ⟨E', M', h1, h0, h2⟩ => by
      have key : (fn.results = #[] ∧ ∃ i, lkM M' i = some ⟨b, c', t⟩) → a.defers = [] ∧ ∃ v l1 nw, (v = Value.tuple #[] ∧ l1 = [(⟨b, c', t⟩ : Blk)] ∧ nw = ([] : Mem)) ∧ (nw.map (·.b)).Nodup ∧ (∀ x ∈ nw, x.b ∉ [(⟨b, c0, t⟩ : Blk)].map (·.b)) ∧ (∀ x ∈ l1 ++ nw, x ∈ m) ∧ ∀ w, MemIn m w → (results fn a.tmps).run P w = .ok v w := fun ⟨hr, i, hi⟩ =>
        ⟨h1.defers, _, _, _, ⟨rfl, rfl, rfl⟩, by simp, by simp, fun x hx => by
          simp at hx; subst hx; exact h0.has i _ hi, fun w _ => by
          rw [results_eq, hr, mapM0]
          simp⟩
      cases e <;> first | exact key h2 | exact h2.elim)
/-- A function that makes a slice: one result. -/
def EndN (P : Program) (e : TypeId) (z k : Nat) (xs : List Value) (fn : Func) : Exit → Env → Mm → Prop
  | .normal, E, M | .ret, E, M => ∃ r v oz i, fn.results = #[r] ∧ Res P E M r v ∧ OwnS e z v k xs (Option.toList oz) ∧ lkM M i = oz
  | _, _, _ => False
/-- The same: the slice, and a number. -/
def EndN2 (P : Program) (e : TypeId) (z k : Nat) (xs : List Value) (u : Value) (fn : Func) : Exit → Env → Mm → Prop
  | .normal, E, M | .ret, E, M => ∃ r r' v oz i, fn.results = #[r, r'] ∧ Res P E M r v ∧ Res P E M r' u ∧ OwnS e z v k xs (Option.toList oz) ∧ lkM M i = oz
  | _, _, _ => False
theorem own_nd {e : TypeId} {z k : Nat} {v : Value} {xs : List Value} {l : Mem} (h : OwnS e z v k xs l) : (l.map (·.b)).Nodup := by
  rcases h with ⟨_, _, _, rfl⟩ | ⟨r, cap, c, _, rfl, _⟩ <;> simp
theorem fxN {f : FuncId} {fn : Func} {c : Code} {args : Array Value} {e : TypeId} {z k : Nat} {xs : List Value} (hf : P.funcs[f]? = some fn) (hb : fn.body = some c) (hn : fn.ntmps = n) (ha : args.size ≤ n) (E : Env) (hE : ∀ t v, lk E t = some v → args[t]? = some v)
    (h : SatE P G c n (EndN P e z k xs fn) E []) : Fx P G [] f args (fun v l1 nw => l1 = [] ∧ ∃ v', v = v' ∧ OwnS e z v' k xs nw) :=
  fx_of hf hb (sat_mono (h _ [] ⟨by simp [hn]; omega, rfl, fun t v ht => by
    have := hE t v ht
    have hlt := (Array.getElem?_eq_some_iff.1 this).1
    rw [Array.getElem?_append_left hlt]; exact this⟩ (FitsM.nil _)) fun e' a m ⟨E', M', h1, h0, h2⟩ => by
      have key : (∃ r v oz i, fn.results = #[r] ∧ Res P E' M' r v ∧ OwnS e z v k xs (Option.toList oz) ∧ lkM M' i = oz) → a.defers = [] ∧ ∃ v l1 nw, (l1 = [] ∧ ∃ v', v = v' ∧ OwnS e z v' k xs nw) ∧ (nw.map (·.b)).Nodup ∧ (∀ x ∈ nw, x.b ∉ ([] : Mem).map (·.b)) ∧ (∀ x ∈ l1 ++ nw, x ∈ m) ∧ ∀ w, MemIn m w → (results fn a.tmps).run P w = .ok v w := fun ⟨r, v, oz, i, hr, hR, ho, hi⟩ =>
        ⟨h1.defers, v, [], oz.toList, ⟨rfl, v, rfl, ho⟩, own_nd ho, by simp, fun x hx => by
          have : oz = some x := by simpa using hx
          exact h0.has i x (hi.trans this), fun w hw => by
          have := res_run h1 h0 hw hR
          rw [results_eq, hr, mapM1]
          simp [this]⟩
      cases e' <;> first | exact key h2 | exact h2.elim)
theorem fxN2 {f : FuncId} {fn : Func} {c : Code} {args : Array Value} {e : TypeId} {z k : Nat} {xs : List Value} {u : Value} (hf : P.funcs[f]? = some fn) (hb : fn.body = some c) (hn : fn.ntmps = n) (ha : args.size ≤ n) (E : Env) (hE : ∀ t v, lk E t = some v → args[t]? = some v)
    (h : SatE P G c n (EndN2 P e z k xs u fn) E []) : Fx P G [] f args (fun v l1 nw => l1 = [] ∧ ∃ v', v = .tuple #[v', u] ∧ OwnS e z v' k xs nw) :=
  fx_of hf hb (sat_mono (h _ [] ⟨by simp [hn]; omega, rfl, fun t v ht => by
    have := hE t v ht
    have hlt := (Array.getElem?_eq_some_iff.1 this).1
    rw [Array.getElem?_append_left hlt]; exact this⟩ (FitsM.nil _)) fun e' a m ⟨E', M', h1, h0, h2⟩ => by
      have key : (∃ r r' v oz i, fn.results = #[r, r'] ∧ Res P E' M' r v ∧ Res P E' M' r' u ∧ OwnS e z v k xs (Option.toList oz) ∧ lkM M' i = oz) → a.defers = [] ∧ ∃ v l1 nw, (l1 = [] ∧ ∃ v', v = Value.tuple #[v', u] ∧ OwnS e z v' k xs nw) ∧ (nw.map (·.b)).Nodup ∧ (∀ x ∈ nw, x.b ∉ ([] : Mem).map (·.b)) ∧ (∀ x ∈ l1 ++ nw, x ∈ m) ∧ ∀ w, MemIn m w → (results fn a.tmps).run P w = .ok v w := fun ⟨r, r', v, oz, i, hr, hR, hR', ho, hi⟩ =>
        ⟨h1.defers, .tuple #[v, u], [], oz.toList, ⟨rfl, v, rfl, ho⟩, own_nd ho, by simp, fun x hx => by
          have : oz = some x := by simpa using hx
          exact h0.has i x (hi.trans this), fun w hw => by
          have := res_run h1 h0 hw hR
          have t' := res_run h1 h0 hw hR'
          rw [results_eq, hr, mapM2]
          simp [this, t']⟩
      cases e' <;> first | exact key h2 | exact h2.elim)
end
end Go.Proofs.YtpmgjnfllnokjaaDoor

/-
  ChaCha20 in plain numbers, as the document's answer reckons it. Plain arithmetic.
-/
namespace Go.Proofs.YtpmgjnfllnokjaaDoor
open Go Go.RowKit

def rotl (n b : Nat) : Nat := (n * 2 ^ b % 4294967296 ||| n / 2 ^ (32 - b)) % 4294967296
def qrt (a b d e : Nat) : Nat × Nat × Nat × Nat :=
  let a1 := (a + b) % 4294967296
  let e1 := rotl ((e ^^^ a1) % 4294967296) 16
  let d1 := (d + e1) % 4294967296
  let b1 := rotl ((b ^^^ d1) % 4294967296) 12
  let a2 := (a1 + b1) % 4294967296
  let e2 := rotl ((e1 ^^^ a2) % 4294967296) 8
  let d2 := (d1 + e2) % 4294967296
  let b2 := rotl ((b1 ^^^ d2) % 4294967296) 7
  (a2, b2, d2, e2)
def rnd (f : Nat → Nat) (t : Nat) : Nat :=
  let q := qrt (f (t % 4)) (f (4 + t % 4)) (f (8 + t % 4)) (f (12 + t % 4))
  if t < 4 then q.1 else if t < 8 then q.2.1 else if t < 12 then q.2.2.1 else q.2.2.2
def sh1 (f : Nat → Nat) (t : Nat) : Nat := f (4 * (t / 4) + (t % 4 + 4 + 1 * (t / 4)) % 4)
def shm (f : Nat → Nat) (t : Nat) : Nat := f (4 * (t / 4) + (t % 4 + 4 - t / 4) % 4)
def dbl (f : Nat → Nat) : Nat → Nat := shm (rnd (sh1 (rnd f)))
def dbls (f : Nat → Nat) : Nat → Nat → Nat
  | 0 => f
  | k + 1 => dbl (dbls f k)
theorem rnd_step {f s : Nat → Nat} {k : Nat} (hk : k < 4) (hs : ∀ t, t < 16 → s t = if t % 4 < k then rnd f t else f t) (q : Nat × Nat × Nat × Nat) (hq : q = qrt (s k) (s (4 + k)) (s (8 + k)) (s (12 + k))) :
    ∀ t, t < 16 → upd (upd (upd (upd s k q.1) (4 + k) q.2.1) (8 + k) q.2.2.1) (12 + k) q.2.2.2 t = if t % 4 < k + 1 then rnd f t else f t := by
  have e0 : s k = f k := by rw [hs k (by omega), if_neg (by omega)]
  have e1 : s (4 + k) = f (4 + k) := by rw [hs _ (by omega), if_neg (by omega)]
  have e2 : s (8 + k) = f (8 + k) := by rw [hs _ (by omega), if_neg (by omega)]
  have e3 : s (12 + k) = f (12 + k) := by rw [hs _ (by omega), if_neg (by omega)]
  rw [e0, e1, e2, e3] at hq
  intro t ht
  by_cases hm : t % 4 = k
  · rw [if_pos (by omega)]
    unfold rnd
    rw [hm, ← hq]
    unfold upd
    have : t = k ∨ t = 4 + k ∨ t = 8 + k ∨ t = 12 + k := by omega
    rcases this with h | h | h | h
    · rw [if_neg (by omega), if_neg (by omega), if_neg (by omega), if_pos h, if_pos (by omega)]
    · rw [if_neg (by omega), if_neg (by omega), if_pos h, if_neg (by omega), if_pos (by omega)]
    · rw [if_neg (by omega), if_pos h, if_neg (by omega), if_neg (by omega), if_pos (by omega)]
    · rw [if_pos h, if_neg (by omega), if_neg (by omega), if_neg (by omega)]
  · unfold upd
    rw [if_neg (by omega), if_neg (by omega), if_neg (by omega), if_neg (by omega), hs t ht]
    by_cases hlt : t % 4 < k
    · rw [if_pos hlt, if_pos (by omega)]
    · rw [if_neg hlt, if_neg (by omega)]
theorem rnd_end {f s : Nat → Nat} (hs : ∀ t, t < 16 → s t = if t % 4 < 4 then rnd f t else f t) : arr .u32 16 s = arr .u32 16 (rnd f) := arr_congr fun t ht => by
  rw [hs t ht, if_pos (by omega)]
theorem rotl_lt (n b : Nat) : rotl n b < 4294967296 := Nat.mod_lt _ (by decide)
theorem rnd_lt (f : Nat → Nat) (t : Nat) : rnd f t < 4294967296 := by
  unfold rnd qrt
  simp only
  split
  · exact Nat.mod_lt _ (by decide)
  · split
    · exact rotl_lt _ _
    · split
      · exact Nat.mod_lt _ (by decide)
      · exact rotl_lt _ _
theorem sh_at (g : (Nat → Nat) → Nat → Nat) (f s : Nat → Nat) {k j v : Nat} (hv : v = g f (4 * k + j)) (hs : ∀ t, t < 4 * k + j → s t = g f t) : ∀ t, t < 4 * k + (j + 1) → upd s (4 * k + j) v t = g f t := fun t ht => by
  unfold upd; split
  · rename_i h; rw [hv, h]
  · exact hs t (by omega)
theorem sh1_v (f : Nat → Nat) {k j : Nat} (hj : j < 4) : f (4 * k + (j + 4 + 1 * k) % 4) = sh1 f (4 * k + j) := by
  unfold sh1
  rw [show (4 * k + j) / 4 = k by omega, show (4 * k + j) % 4 = j by omega]
theorem shm_v (f : Nat → Nat) {k j : Nat} (hj : j < 4) : f (4 * k + (j + 4 - k) % 4) = shm f (4 * k + j) := by
  unfold shm
  rw [show (4 * k + j) / 4 = k by omega, show (4 * k + j) % 4 = j by omega]

/-! ### Numbers as bytes -/
def lowl (n k : Nat) : List Nat := (List.range k).map fun i => n / 256 ^ i % 256
theorem lowl_len (n k : Nat) : (lowl n k).length = k := by simp [lowl]
theorem lowl_succ (n k : Nat) : lowl n k ++ [n / 256 ^ k % 256] = lowl n (k + 1) := by
  unfold lowl; rw [List.range_succ, List.map_append]; rfl
theorem lowl_lt (n k : Nat) : ∀ b ∈ lowl n k, b < 256 := fun b hb => by
  obtain ⟨i, _, rfl⟩ := List.mem_map.1 hb
  exact Nat.mod_lt _ (by decide)
def leN : List Nat → Nat
  | [] => 0
  | b :: l => b + 256 * leN l
theorem leN_lt : ∀ (l : List Nat), (∀ b ∈ l, b < 256) → leN l < 256 ^ l.length
  | [], _ => by simp [leN]
  | b :: l, h => by
    have h1 := leN_lt l (fun x hx => h x (by simp [hx]))
    have h2 := h b (by simp)
    rw [List.length_cons, Nat.pow_succ]
    unfold leN
    omega
theorem leN_drop {l : List Nat} {i : Nat} (hi : i < l.length) : leN (l.drop i) = leN (l.drop (i + 1)) * 256 + l[i] := by
  rw [List.drop_eq_getElem_cons hi]
  show l[i] + 256 * leN (l.drop (i + 1)) = _
  omega
theorem leN_small {l : List Nat} (hl : l.length ≤ 8) (hb : ∀ b ∈ l, b < 256) (i : Nat) : leN (l.drop (i + 1)) < 72057594037927936 := by
  have h1 := leN_lt (l.drop (i + 1)) (fun b h => hb b (List.mem_of_mem_drop h))
  have h2 : (l.drop (i + 1)).length ≤ 7 := by simp; omega
  have h3 : 256 ^ (l.drop (i + 1)).length ≤ 256 ^ 7 := Nat.pow_le_pow_right (by decide) h2
  have h4 : 256 ^ 7 = 72057594037927936 := by decide
  omega

end Go.Proofs.YtpmgjnfllnokjaaDoor

/-
  A block and a stream of ChaCha20 in plain numbers. Plain arithmetic.
-/
namespace Go.Proofs.YtpmgjnfllnokjaaDoor
open Go Go.RowKit

abbrev C16 : List Nat := [101, 120, 112, 97, 110, 100, 32, 51, 50, 45, 98, 121, 116, 101, 32, 107]
def allb (k : Nat → Nat) (c : Nat) (nn : Nat → Nat) : List Nat := C16 ++ (List.range 32).map k ++ lowl c 4 ++ (List.range 12).map nn
theorem allb_len (k : Nat → Nat) (c : Nat) (nn : Nat → Nat) : (allb k c nn).length = 64 := by simp [allb, lowl_len]
theorem range_lt {n : Nat} {f : Nat → Nat} (hf : ∀ j, j < n → f j < 256) : ∀ b ∈ (List.range n).map f, b < 256 := fun b hb => by
  obtain ⟨i, hi, rfl⟩ := List.mem_map.1 hb
  exact hf i (by simpa using hi)
theorem allb_lt {k : Nat → Nat} {c : Nat} {nn : Nat → Nat} (hk : ∀ j, j < 32 → k j < 256) (hn : ∀ j, j < 12 → nn j < 256) : ∀ b ∈ allb k c nn, b < 256 := fun b hb => by
  unfold allb at hb
  rcases List.mem_append.1 hb with hb | hb
  · rcases List.mem_append.1 hb with hb | hb
    · rcases List.mem_append.1 hb with hb | hb
      · simp at hb; omega
      · exact range_lt hk b hb
    · exact lowl_lt c 4 b hb
  · exact range_lt hn b hb
def wrd (l : List Nat) (t : Nat) : Nat := leN ((l.drop (4 * t)).take 4)
theorem wrd_lt {l : List Nat} (hb : ∀ b ∈ l, b < 256) (t : Nat) : wrd l t < 4294967296 := by
  have h1 := leN_lt ((l.drop (4 * t)).take 4) (fun b h => hb b (List.mem_of_mem_drop (List.mem_of_mem_take h)))
  have h2 : ((l.drop (4 * t)).take 4).length ≤ 4 := by simp; omega
  have h3 : 256 ^ ((l.drop (4 * t)).take 4).length ≤ 256 ^ 4 := Nat.pow_le_pow_right (by decide) h2
  have h4 : 256 ^ 4 = 4294967296 := by decide
  unfold wrd
  omega
theorem cut4_len (l : List Nat) (t : Nat) : ((l.drop (4 * t)).take 4).length ≤ 8 := by simp; omega
theorem cut4_lt {l : List Nat} (hb : ∀ b ∈ l, b < 256) (t : Nat) : ∀ b ∈ (l.drop (4 * t)).take 4, b < 256 := fun b h => hb b (List.mem_of_mem_drop (List.mem_of_mem_take h))
def outl (v w : Nat → Nat) : Nat → List Nat
  | 0 => []
  | i + 1 => outl v w i ++ lowl ((v i + w i) % 4294967296) 4
theorem outl_len (v w : Nat → Nat) : ∀ i, (outl v w i).length = 4 * i
  | 0 => rfl
  | i + 1 => by rw [outl, List.length_append, outl_len v w i, lowl_len]; omega
theorem outl_lt (v w : Nat → Nat) : ∀ i, ∀ b ∈ outl v w i, b < 256
  | 0, b, h => by simp [outl] at h
  | i + 1, b, h => by
    rcases List.mem_append.1 h with h | h
    · exact outl_lt v w i b h
    · exact lowl_lt _ _ b h
def blkl (k : Nat → Nat) (c : Nat) (nn : Nat → Nat) : List Nat := outl (dbls (wrd (allb k c nn)) 10) (wrd (allb k c nn)) 16
def blkf (k : Nat → Nat) (c : Nat) (nn : Nat → Nat) (j : Nat) : Nat := (blkl k c nn).getD j 0
theorem blkl_len (k : Nat → Nat) (c : Nat) (nn : Nat → Nat) : (blkl k c nn).length = 64 := outl_len _ _ 16
theorem blkf_lt (k : Nat → Nat) (c : Nat) (nn : Nat → Nat) (j : Nat) : blkf k c nn j < 256 := by
  unfold blkf
  rw [List.getD_eq_getElem?_getD]
  cases h : (blkl k c nn)[j]? with
  | none => simp
  | some b => exact outl_lt _ _ 16 b (List.mem_of_getElem? h)
theorem copy_end (l : List Nat) (hl : l.length = 64) : arr .u8 64 (fun j => if 0 + 0 * 1 ≤ j ∧ j < 0 + 0 * 1 + min l.length (64 - 0) then l.getD (j - (0 + 0 * 1)) 0 else 0) = arr .u8 64 (fun j => l.getD j 0) := arr_congr fun j hj => by
  rw [if_pos (by omega)]; rfl
theorem conv_all (f : Nat → Nat) (n : Nat) : Value.string (strOfNums ((List.range n).map fun j => (f (0 + j) : Int))) = sv ((List.range n).map f) := by
  have e : ((List.range n).map fun j => (f (0 + j) : Int)) = ((List.range n).map f).map fun m : Nat => (m : Int) := by
    rw [List.map_map]
    exact List.map_congr_left fun j _ => by simp
  rw [e, str_nums]

/-! ### Streams -/
def strv (k : Nat → Nat) (c : Nat) (nn : Nat → Nat) (l : List Nat) (t : Nat) : Nat := (l.getD t 0 ^^^ blkf k ((c + t / 64 % 4294967296) % 4294967296) nn (t % 64)) % 256
def strl (k : Nat → Nat) (c : Nat) (nn : Nat → Nat) (l : List Nat) (at_ : Nat) : List Nat := (List.range (l.length - at_)).map fun j => strv k c nn l (at_ + j)
def strp (k : Nat → Nat) (c : Nat) (nn : Nat → Nat) (l : List Nat) (at_ i : Nat) : List Nat := (List.range i).map fun j => strv k c nn l (at_ + j)
theorem strp_len (k : Nat → Nat) (c : Nat) (nn : Nat → Nat) (l : List Nat) (at_ i : Nat) : (strp k c nn l at_ i).length = i := by simp [strp]
theorem strl_len (k : Nat → Nat) (c : Nat) (nn : Nat → Nat) (l : List Nat) (at_ : Nat) : (strl k c nn l at_).length = l.length - at_ := by simp [strl]
theorem strp_succ (k : Nat → Nat) (c : Nat) (nn : Nat → Nat) (l : List Nat) (at_ i : Nat) : strp k c nn l at_ i ++ [strv k c nn l (at_ + i)] = strp k c nn l at_ (i + 1) := by
  unfold strp; rw [List.range_succ, List.map_append]; rfl
theorem strp_all (k : Nat → Nat) (c : Nat) (nn : Nat → Nat) (l : List Nat) {at_ i : Nat} (h : (i = 64 ∧ at_ + 64 ≤ l.length) ∨ (at_ + i = l.length)) (hi : i ≤ 64) : strp k c nn l at_ i ++ strl k c nn l (at_ + 64) = strl k c nn l at_ := by
  apply List.ext_getElem
  · simp [strp, strl]; omega
  · intro j h1 h2
    have hj : j < l.length - at_ := by simpa [strl] using h2
    by_cases hji : j < i
    · rw [List.getElem_append_left (by simpa [strp] using hji)]
      simp [strp, strl]
    · rw [List.getElem_append_right (by simp [strp]; omega)]
      simp only [strp, strl, List.length_map, List.length_range, List.getElem_map, List.getElem_range]
      congr 1
      omega
theorem strl_lt (k : Nat → Nat) (c : Nat) (nn : Nat → Nat) (l : List Nat) (at_ : Nat) : ∀ b ∈ strl k c nn l at_, b < 256 := fun b hb => by
  obtain ⟨j, _, rfl⟩ := List.mem_map.1 hb
  exact Nat.mod_lt _ (by decide)
theorem strl_none (k : Nat → Nat) (c : Nat) (nn : Nat → Nat) (l : List Nat) {at_ : Nat} (h : l.length ≤ at_) : strl k c nn l at_ = [] := by
  unfold strl; rw [show l.length - at_ = 0 by omega]; rfl
theorem strv_at (k : Nat → Nat) (c : Nat) (nn : Nat → Nat) (l : List Nat) {at_ i : Nat} (h : at_ + i < l.length) (h64 : at_ % 64 = 0) (hi : i < 64) :
    (l[at_ + i] ^^^ blkf k ((c + at_ / 64 % 4294967296) % 4294967296) nn i) % 256 = strv k c nn l (at_ + i) := by
  unfold strv
  rw [List.getD_eq_getElem?_getD, List.getElem?_eq_getElem h, show (at_ + i) / 64 = at_ / 64 by omega, show (at_ + i) % 64 = i by omega]
  rfl
theorem own_fix {e : TypeId} {z n n' : Nat} {v : Value} {xs xs' : List Value} {l : Mem} (h : OwnS e z v n xs l) (hn : n = n') (hx : xs = xs') : OwnS e z v n' xs' l := hn ▸ hx ▸ h
theorem by8_one {l : List Nat} : ∀ u ∈ l.map by8, u.oneCell' = true := fun u hu => by
  obtain ⟨n, _, rfl⟩ := List.mem_map.1 hu; rfl

end Go.Proofs.YtpmgjnfllnokjaaDoor

/-
  BLAKE2s in plain numbers, as the document's answer reckons it.
-/
namespace Go.Proofs.YtpmgjnfllnokjaaDoor
open Go Go.RowKit

abbrev ivL : List Nat := [1779033703, 3144134277, 1013904242, 2773480762, 1359893119, 2600822924, 528734635, 1541459225]
def ivf (j : Nat) : Nat := ivL.getD j 0
theorem ivf_lt (j : Nat) : ivf j < 4294967296 := by
  unfold ivf
  rw [List.getD_eq_getElem?_getD]
  cases h : ivL[j]? with
  | none => simp
  | some b =>
    have : b ∈ ivL := List.mem_of_getElem? h
    have all : ∀ b ∈ ivL, b < 4294967296 := by decide +kernel
    exact all b this
abbrev sigL : List Nat := [0, 1, 2, 3, 4, 5, 6, 7, 8, 9, 10, 11, 12, 13, 14, 15, 14, 10, 4, 8, 9, 15, 13, 6, 1, 12, 0, 2, 11, 7, 5, 3, 11, 8, 12, 0, 5, 2, 15, 13, 10, 14, 3, 6, 7, 1, 9, 4, 7, 9, 3, 1, 13, 12, 11, 14, 2, 6, 5, 10, 4, 0, 15, 8,
  9, 0, 5, 7, 2, 4, 10, 15, 14, 1, 11, 12, 6, 8, 3, 13, 2, 12, 6, 10, 0, 11, 8, 3, 4, 13, 7, 5, 15, 14, 1, 9, 12, 5, 1, 15, 14, 13, 4, 10, 0, 7, 6, 3, 9, 2, 8, 11, 13, 11, 7, 14, 12, 1, 3, 9, 5, 0, 15, 4, 8, 6, 2, 10,
  6, 15, 14, 9, 11, 3, 0, 8, 12, 2, 13, 7, 1, 4, 10, 5, 10, 2, 8, 4, 7, 6, 1, 5, 15, 11, 9, 14, 3, 12, 13, 0]
def sig (r i : Nat) : Nat := sigL.getD (16 * r + i) 0
theorem sig_lt (r i : Nat) : sig r i < 16 := by
  unfold sig
  rw [List.getD_eq_getElem?_getD]
  cases h : sigL[16 * r + i]? with
  | none => simp
  | some b =>
    have : b ∈ sigL := List.mem_of_getElem? h
    have all : ∀ b ∈ sigL, b < 16 := by decide +kernel
    exact all b this
def bq (a b d e x y : Nat) : Nat × Nat × Nat × Nat :=
  let a1 := (a + (b + x) % 4294967296) % 4294967296
  let e1 := rotl ((e ^^^ a1) % 4294967296) 16
  let d1 := (d + e1) % 4294967296
  let b1 := rotl ((b ^^^ d1) % 4294967296) 20
  let a2 := (a1 + (b1 + y) % 4294967296) % 4294967296
  let e2 := rotl ((e1 ^^^ a2) % 4294967296) 24
  let d2 := (d1 + e2) % 4294967296
  let b2 := rotl ((b1 ^^^ d2) % 4294967296) 25
  (a2, b2, d2, e2)
def brn (x y : Nat → Nat) (f : Nat → Nat) (t : Nat) : Nat :=
  let q := bq (f (t % 4)) (f (4 + t % 4)) (f (8 + t % 4)) (f (12 + t % 4)) (x (t % 4)) (y (t % 4))
  if t < 4 then q.1 else if t < 8 then q.2.1 else if t < 12 then q.2.2.1 else q.2.2.2
theorem brn_step {x y f s : Nat → Nat} {k : Nat} (hk : k < 4) (hs : ∀ t, t < 16 → s t = if t % 4 < k then brn x y f t else f t) (q : Nat × Nat × Nat × Nat) (hq : q = bq (s k) (s (4 + k)) (s (8 + k)) (s (12 + k)) (x k) (y k)) {g : Nat → Nat} (hg : g = fun t => if t = k then q.1 else if t = 4 + k then q.2.1 else if t = 8 + k then q.2.2.1 else if t = 12 + k then q.2.2.2 else s t) :
    ∀ t, t < 16 → g t = if t % 4 < k + 1 then brn x y f t else f t := by
  have e0 : s k = f k := by rw [hs k (by omega), if_neg (by omega)]
  have e1 : s (4 + k) = f (4 + k) := by rw [hs _ (by omega), if_neg (by omega)]
  have e2 : s (8 + k) = f (8 + k) := by rw [hs _ (by omega), if_neg (by omega)]
  have e3 : s (12 + k) = f (12 + k) := by rw [hs _ (by omega), if_neg (by omega)]
  rw [e0, e1, e2, e3] at hq
  intro t ht
  rw [hg]
  by_cases hm : t % 4 = k
  · rw [if_pos (by omega)]
    unfold brn
    rw [hm, ← hq]
    have : t = k ∨ t = 4 + k ∨ t = 8 + k ∨ t = 12 + k := by omega
    rcases this with h | h | h | h
    · simp only; rw [if_pos h, if_pos (by omega)]
    · simp only; rw [if_neg (by omega), if_pos h, if_neg (by omega), if_pos (by omega)]
    · simp only; rw [if_neg (by omega), if_neg (by omega), if_pos h, if_neg (by omega), if_neg (by omega), if_pos (by omega)]
    · simp only; rw [if_neg (by omega), if_neg (by omega), if_neg (by omega), if_pos h, if_neg (by omega), if_neg (by omega), if_neg (by omega)]
  · simp only
    rw [if_neg (by omega), if_neg (by omega), if_neg (by omega), if_neg (by omega), hs t ht]
    by_cases hlt : t % 4 < k
    · rw [if_pos hlt, if_pos (by omega)]
    · rw [if_neg hlt, if_neg (by omega)]
/-- The eight stores of a column, one behind the other. -/
def bst (f : Nat → Nat) (k x y : Nat) : Nat → Nat :=
  let f1 := upd f k ((f k + (f (4 + k) + x) % 4294967296) % 4294967296)
  let f2 := upd f1 (12 + k) (rotl ((f1 (12 + k) ^^^ f1 k) % 4294967296) 16)
  let f3 := upd f2 (8 + k) ((f2 (8 + k) + f2 (12 + k)) % 4294967296)
  let f4 := upd f3 (4 + k) (rotl ((f3 (4 + k) ^^^ f3 (8 + k)) % 4294967296) 20)
  let f5 := upd f4 k ((f4 k + (f4 (4 + k) + y) % 4294967296) % 4294967296)
  let f6 := upd f5 (12 + k) (rotl ((f5 (12 + k) ^^^ f5 k) % 4294967296) 24)
  let f7 := upd f6 (8 + k) ((f6 (8 + k) + f6 (12 + k)) % 4294967296)
  upd f7 (4 + k) (rotl ((f7 (4 + k) ^^^ f7 (8 + k)) % 4294967296) 25)
theorem updS (f : Nat → Nat) (a v : Nat) : upd f a v a = v := if_pos rfl
theorem updN (f : Nat → Nat) {a t : Nat} (v : Nat) (h : t ≠ a) : upd f a v t = f t := if_neg h
theorem bst_at (f : Nat → Nat) {k : Nat} (hk : k < 4) (x y : Nat) : bst f k x y = fun t => if t = k then (bq (f k) (f (4 + k)) (f (8 + k)) (f (12 + k)) x y).1 else if t = 4 + k then (bq (f k) (f (4 + k)) (f (8 + k)) (f (12 + k)) x y).2.1 else if t = 8 + k then (bq (f k) (f (4 + k)) (f (8 + k)) (f (12 + k)) x y).2.2.1 else if t = 12 + k then (bq (f k) (f (4 + k)) (f (8 + k)) (f (12 + k)) x y).2.2.2 else f t := by
  have ab : k ≠ 4 + k := by omega
  have ac : k ≠ 8 + k := by omega
  have ad : k ≠ 12 + k := by omega
  have bc : 4 + k ≠ 8 + k := by omega
  have bd : 4 + k ≠ 12 + k := by omega
  have cd : 8 + k ≠ 12 + k := by omega
  have ba := ab.symm
  have ca := ac.symm
  have da := ad.symm
  have cb := bc.symm
  have db := bd.symm
  have dc := cd.symm
  funext t
  unfold bst bq
  simp only [updS, updN _ _ ab, updN _ _ ac, updN _ _ ad, updN _ _ bc, updN _ _ bd, updN _ _ cd, updN _ _ ba, updN _ _ ca, updN _ _ da, updN _ _ cb, updN _ _ db, updN _ _ dc]
  by_cases ha : t = k
  · subst ha
    simp only [updS, updN _ _ ab, updN _ _ ac, updN _ _ ad, if_pos]
  · by_cases hb : t = 4 + k
    · subst hb
      simp only [updS, if_neg ha, if_pos]
    · by_cases hc : t = 8 + k
      · subst hc
        simp only [updS, updN _ _ cb, if_neg ha, if_neg hb, if_pos]
      · by_cases hd : t = 12 + k
        · subst hd
          simp only [updS, updN _ _ db, updN _ _ dc, if_neg ha, if_neg hb, if_neg hc, if_pos]
        · simp only [if_neg ha, if_neg hb, if_neg hc, if_neg hd, updN _ _ ha, updN _ _ hb, updN _ _ hc, updN _ _ hd]
/-! ### Rounds -/
def shp (p : Nat) (f : Nat → Nat) (t : Nat) : Nat := f (4 * (t / 4) + (t % 4 + 4 + p * (t / 4)) % 4)
def shn (p : Nat) (f : Nat → Nat) (t : Nat) : Nat := f (4 * (t / 4) + (t % 4 + 4 - p * (t / 4)) % 4)
theorem shp_v (p : Nat) (f : Nat → Nat) {k j : Nat} (hj : j < 4) : f (4 * k + (j + 4 + p * k) % 4) = shp p f (4 * k + j) := by
  unfold shp
  rw [show (4 * k + j) / 4 = k by omega, show (4 * k + j) % 4 = j by omega]
theorem shn_v (p : Nat) (f : Nat → Nat) {k j : Nat} (hj : j < 4) : f (4 * k + (j + 4 - p * k) % 4) = shn p f (4 * k + j) := by
  unfold shn
  rw [show (4 * k + j) / 4 = k by omega, show (4 * k + j) % 4 = j by omega]
def xw (l : List Nat) (r p c : Nat) : Nat := wrd l (sig r (8 * p + 2 * c))
def yw (l : List Nat) (r p c : Nat) : Nat := wrd l (sig r (8 * p + 2 * c + 1))
def bstep (l : List Nat) (r p : Nat) (g : Nat → Nat) : Nat → Nat := shn p (brn (xw l r p) (yw l r p) (shp p g))
def bpart (l : List Nat) (r : Nat) (g : Nat → Nat) : Nat → Nat → Nat
  | 0 => g
  | p + 1 => bstep l r p (bpart l r g p)
def brs (l : List Nat) (w : Nat → Nat) : Nat → Nat → Nat
  | 0 => w
  | r + 1 => bpart l r (brs l w r) 2
def w00 (h : Nat → Nat) (t : Nat) : Nat := if t < 8 then h t else ivf (t - 8)
def w0 (h : Nat → Nat) (many : Nat) (last : Bool) (t : Nat) : Nat := if t = 12 then (w00 h 12 ^^^ many % 4294967296) % 4294967296 else if t = 14 ∧ last = true then (4294967295 ^^^ w00 h 14) % 4294967296 else w00 h t
/-- A block of 64 bytes is squeezed into eight words. -/
def sqz (h : Nat → Nat) (l : List Nat) (many : Nat) (last : Bool) (t : Nat) : Nat := (h t ^^^ (brs l (w0 h many last) 10 t ^^^ brs l (w0 h many last) 10 (8 + t)) % 4294967296) % 4294967296
theorem sqz_lt (h : Nat → Nat) (l : List Nat) (many : Nat) (last : Bool) (t : Nat) : sqz h l many last t < 4294967296 := Nat.mod_lt _ (by decide)

/-! ### Orders, told by letters -/
abbrev ordL : List Nat := [48, 49, 50, 51, 52, 53, 54, 55, 56, 57, 97, 98, 99, 100, 101, 102, 101, 97, 52, 56, 57, 102, 100, 54, 49, 99, 48, 50, 98, 55, 53, 51, 98, 56, 99, 48, 53, 50, 102, 100, 97, 101, 51, 54, 55, 49, 57, 52, 55, 57, 51, 49, 100, 99, 98, 101, 50, 54, 53, 97, 52, 48, 102, 56,
  57, 48, 53, 55, 50, 52, 97, 102, 101, 49, 98, 99, 54, 56, 51, 100, 50, 99, 54, 97, 48, 98, 56, 51, 52, 100, 55, 53, 102, 101, 49, 57, 99, 53, 49, 102, 101, 100, 52, 97, 48, 55, 54, 51, 57, 50, 56, 98, 100, 98, 55, 101, 99, 49, 51, 57, 53, 48, 102, 52, 56, 54, 50, 97,
  54, 102, 101, 57, 98, 51, 48, 56, 99, 50, 100, 55, 49, 52, 97, 53, 97, 50, 56, 52, 55, 54, 49, 53, 102, 98, 57, 101, 51, 99, 100, 48]
theorem ord_all : ∀ n, n < 160 → ordL[n]? = some (ordL.getD n 0) ∧ ordL.getD n 0 < 256 ∧ (97 ≤ ordL.getD n 0 → ordL.getD n 0 - 97 + 10 = sigL.getD n 0) ∧ (¬ 97 ≤ ordL.getD n 0 → 48 ≤ ordL.getD n 0 ∧ ordL.getD n 0 - 48 = sigL.getD n 0) := by decide +kernel

end Go.Proofs.YtpmgjnfllnokjaaDoor

/-
  Steps of BLAKE2s, as the document's answer takes them.
-/
namespace Go.Proofs.YtpmgjnfllnokjaaDoor
open Go Go.RowKit

theorem w00_step {h s : Nat → Nat} {i : Nat} (hi : i < 8) (hs : ∀ t, t < 16 → s t = if t % 8 < i then w00 h t else 0) : ∀ t, t < 16 → upd (upd s i (h i)) (8 + i) (ivf i) t = if t % 8 < i + 1 then w00 h t else 0 := fun t ht => by
  unfold upd
  by_cases h1 : t = 8 + i
  · rw [if_pos h1, if_pos (by omega)]
    unfold w00
    rw [if_neg (by omega), show t - 8 = i by omega]
  · rw [if_neg h1]
    by_cases h2 : t = i
    · rw [if_pos h2, if_pos (by omega)]
      unfold w00
      rw [if_pos (by omega), h2]
    · rw [if_neg h2, hs t ht]
      by_cases h3 : t % 8 < i
      · rw [if_pos h3, if_pos (by omega)]
      · rw [if_neg h3, if_neg (by omega)]
theorem w0_false {h s : Nat → Nat} {many : Nat} (hs : ∀ t, t < 16 → s t = if t % 8 < 8 then w00 h t else 0) : ∀ t, t < 16 → upd s 12 ((s 12 ^^^ many % 4294967296) % 4294967296) t = w0 h many false t := fun t ht => by
  have hw : ∀ t, t < 16 → s t = w00 h t := fun t ht => by rw [hs t ht, if_pos (by omega)]
  unfold upd w0
  by_cases h1 : t = 12
  · rw [if_pos h1, if_pos h1, hw 12 (by decide)]
  · rw [if_neg h1, if_neg h1, if_neg (by simp), hw t ht]
theorem w0_true {h s : Nat → Nat} {many : Nat} (hs : ∀ t, t < 16 → s t = if t % 8 < 8 then w00 h t else 0) : ∀ t, t < 16 → upd (upd s 12 ((s 12 ^^^ many % 4294967296) % 4294967296)) 14 ((4294967295 ^^^ upd s 12 ((s 12 ^^^ many % 4294967296) % 4294967296) 14) % 4294967296) t = w0 h many true t := fun t ht => by
  have hw : ∀ t, t < 16 → s t = w00 h t := fun t ht => by rw [hs t ht, if_pos (by omega)]
  unfold upd w0
  by_cases h1 : t = 14
  · rw [if_pos h1, if_neg (by omega), if_neg (by omega), if_pos ⟨h1, rfl⟩, hw 14 (by decide)]
  · rw [if_neg h1]
    by_cases h2 : t = 12
    · rw [if_pos h2, if_pos h2, hw 12 (by decide)]
    · rw [if_neg h2, if_neg h2, if_neg (by simp [h1]), hw t ht]
theorem sqz_step {h s b1 : Nat → Nat} {l : List Nat} {many : Nat} {last : Bool} {q : Nat} (hq : q < 8) (hb : b1 = brs l (w0 h many last) 10) (hs : ∀ t, t < 8 → s t = if t < q then sqz h l many last t else h t) :
    ∀ t, t < 8 → upd s q ((s q ^^^ (b1 q ^^^ b1 (8 + q)) % 4294967296) % 4294967296) t = if t < q + 1 then sqz h l many last t else h t := fun t ht => by
  have e : s q = h q := by rw [hs q hq, if_neg (by omega)]
  unfold upd
  by_cases h1 : t = q
  · rw [if_pos h1, if_pos (by omega), e, hb, h1]; rfl
  · rw [if_neg h1, hs t ht]
    by_cases h2 : t < q
    · rw [if_pos h2, if_pos (by omega)]
    · rw [if_neg h2, if_neg (by omega)]
theorem sqz_all {h s : Nat → Nat} {l : List Nat} {many : Nat} {last : Bool} (hs : ∀ t, t < 8 → s t = if t < 8 then sqz h l many last t else h t) : arr .u32 8 s = arr .u32 8 (sqz h l many last) := arr_congr fun t ht => by
  rw [hs t ht, if_pos ht]
theorem bst_eqs {s : Nat → Nat} {k x y q1 q2 q3 q4 q5 q6 q7 q8 : Nat} (hk : k < 4) (h1 : q1 = (s k + (s (4 + k) + x) % 4294967296) % 4294967296)
    (h2 : q2 = rotl ((upd s k q1 (12 + k) ^^^ upd s k q1 k) % 4294967296) 16)
    (h3 : q3 = (upd (upd s k q1) (12 + k) q2 (8 + k) + upd (upd s k q1) (12 + k) q2 (12 + k)) % 4294967296)
    (h4 : q4 = rotl ((upd (upd (upd s k q1) (12 + k) q2) (8 + k) q3 (4 + k) ^^^ upd (upd (upd s k q1) (12 + k) q2) (8 + k) q3 (8 + k)) % 4294967296) 20)
    (h5 : q5 = (upd (upd (upd (upd s k q1) (12 + k) q2) (8 + k) q3) (4 + k) q4 k + (upd (upd (upd (upd s k q1) (12 + k) q2) (8 + k) q3) (4 + k) q4 (4 + k) + y) % 4294967296) % 4294967296)
    (h6 : q6 = rotl ((upd (upd (upd (upd (upd s k q1) (12 + k) q2) (8 + k) q3) (4 + k) q4) k q5 (12 + k) ^^^ upd (upd (upd (upd (upd s k q1) (12 + k) q2) (8 + k) q3) (4 + k) q4) k q5 k) % 4294967296) 24)
    (h7 : q7 = (upd (upd (upd (upd (upd (upd s k q1) (12 + k) q2) (8 + k) q3) (4 + k) q4) k q5) (12 + k) q6 (8 + k) + upd (upd (upd (upd (upd (upd s k q1) (12 + k) q2) (8 + k) q3) (4 + k) q4) k q5) (12 + k) q6 (12 + k)) % 4294967296)
    (h8 : q8 = rotl ((upd (upd (upd (upd (upd (upd (upd s k q1) (12 + k) q2) (8 + k) q3) (4 + k) q4) k q5) (12 + k) q6) (8 + k) q7 (4 + k) ^^^ upd (upd (upd (upd (upd (upd (upd s k q1) (12 + k) q2) (8 + k) q3) (4 + k) q4) k q5) (12 + k) q6) (8 + k) q7 (8 + k)) % 4294967296) 25) :
    upd (upd (upd (upd (upd (upd (upd (upd s k q1) (12 + k) q2) (8 + k) q3) (4 + k) q4) k q5) (12 + k) q6) (8 + k) q7) (4 + k) q8 = fun t => if t = k then (bq (s k) (s (4 + k)) (s (8 + k)) (s (12 + k)) x y).1 else if t = 4 + k then (bq (s k) (s (4 + k)) (s (8 + k)) (s (12 + k)) x y).2.1 else if t = 8 + k then (bq (s k) (s (4 + k)) (s (8 + k)) (s (12 + k)) x y).2.2.1 else if t = 12 + k then (bq (s k) (s (4 + k)) (s (8 + k)) (s (12 + k)) x y).2.2.2 else s t := by
  have ab : k ≠ 4 + k := by omega
  have ac : k ≠ 8 + k := by omega
  have ad : k ≠ 12 + k := by omega
  have bc : 4 + k ≠ 8 + k := by omega
  have bd : 4 + k ≠ 12 + k := by omega
  have cd : 8 + k ≠ 12 + k := by omega
  have ba := ab.symm
  have ca := ac.symm
  have da := ad.symm
  have cb := bc.symm
  have db := bd.symm
  have dc := cd.symm
  simp only [updS, updN _ _ ab, updN _ _ ac, updN _ _ ad, updN _ _ bc, updN _ _ bd, updN _ _ cd, updN _ _ ba, updN _ _ ca, updN _ _ da, updN _ _ cb, updN _ _ db, updN _ _ dc] at h1 h2 h3 h4 h5 h6 h7 h8
  have eA : (bq (s k) (s (4 + k)) (s (8 + k)) (s (12 + k)) x y) = (q5, q8, q7, q6) := by
    unfold bq
    simp only
    rw [← h1, ← h2, ← h3, ← h4, ← h5, ← h6, ← h7, ← h8]
  rw [eA]
  funext t
  by_cases ha : t = k
  · subst ha
    simp only [updS, updN _ _ ab, updN _ _ ac, updN _ _ ad, if_pos]
  · by_cases hb : t = 4 + k
    · subst hb
      simp only [updS, if_neg ha, if_pos]
    · by_cases hc : t = 8 + k
      · subst hc
        simp only [updS, updN _ _ cb, if_neg ha, if_neg hb, if_pos]
      · by_cases hd : t = 12 + k
        · subst hd
          simp only [updS, updN _ _ db, updN _ _ dc, if_neg ha, if_neg hb, if_neg hc, if_pos]
        · simp only [if_neg ha, if_neg hb, if_neg hc, if_neg hd, updN _ _ ha, updN _ _ hb, updN _ _ hc, updN _ _ hd]
theorem brs_zero (l : List Nat) (w : Nat → Nat) : w = brs l w 0 := by rw [brs]
theorem brs_succ (l : List Nat) (w : Nat → Nat) (r : Nat) : bpart l r (brs l w r) 2 = brs l w (r + 1) := by rw [brs]
theorem bpart_zero (l : List Nat) (r : Nat) (g : Nat → Nat) : g = bpart l r g 0 := by rw [bpart]
theorem bpart_succ (l : List Nat) (r : Nat) (g : Nat → Nat) (p : Nat) : shn p (brn (xw l r p) (yw l r p) (shp p (bpart l r g p))) = bpart l r g (p + 1) := by rw [bpart, bstep]
theorem blk_arr {r n : Nat} {k : IntKind} {f g : Nat → Nat} {t : TypeId} (h : f = g) : some (⟨r, arr k n f, t⟩ : Blk) = some ⟨r, arr k n g, t⟩ := by rw [h]
/-- What is known ahead of all bytes. -/
def hbeg : Nat → Nat := upd ivf 0 ((ivf 0 ^^^ 16842784) % 4294967296)

end Go.Proofs.YtpmgjnfllnokjaaDoor

/-
  Loops that keep what they do not touch; arithmetic that does not go round; comparisons that were missing.
-/
namespace Go.Proofs.YtpmgjnfllnokjaaDoor
open Go Go.RowKit

def catE : Env → Env → Env
  | [], F => F
  | x :: E, F => x :: catE E F
def catL : Mm → Mm → Mm
  | [], F => F
  | x :: E, F => x :: catL E F
section
variable {P : Program} {G : Mem} {R : Reg} {ops : Array Oper} {n : Nat} {K : Env → Mm → Prop} {Q : Exit → Env → Mm → Prop} {rest : List Oper} {E : Env} {M : Mm} {d : Nat} {ty : TypeId} {pos : String} {aft : Array Edge}
variable {T T' : TypeId} {x y : Operand}

/-- A loop: Ek and Mk stay as they are. -/
theorem e_loopK {c : Code} (Ek : Env) (Mk : Mm) (I : Nat → Env → Mm → Prop) (E0 : Env) (M0 : Mm) (k : Nat) (hs : sub (catE E0 Ek) E) (hl : subL (catL M0 Mk) M) (h0 : I k E0 M0)
    (round : ∀ k E M, I k E M → SatE P G c n (thenE (fun E' M' => ∃ k' E'' M'', k' < k ∧ sub (catE E'' Ek) E' ∧ subL (catL M'' Mk) M' ∧ I k' E'' M'') Q) (catE E Ek) (catL M Mk)) : SatE P G (.loop c) n Q E M :=
  e_loop (fun k E M => ∃ E1 M1, E = catE E1 Ek ∧ M = catL M1 Mk ∧ I k E1 M1) (catE E0 Ek) (catL M0 Mk) k hs hl ⟨_, _, rfl, rfl, h0⟩ fun k E M ⟨E1, M1, e1, e2, hI⟩ => by
    subst e1 e2
    intro a m ha hM
    refine sat_mono (round k E1 M1 hI a m ha hM) fun e a' m' ⟨E', M', h1, h2, h3⟩ => ⟨E', M', h1, h2, ?_⟩
    cases e with
    | normal =>
      obtain ⟨k', E'', M'', q1, q2, q3, q4⟩ := h3
      exact ⟨k', _, _, q1, q2, q3, _, _, rfl, rfl, q4⟩
    | _ => exact h3

/-! ### Numbers that stay within their bounds -/
theorem e_add_un {p q : Nat} (hx : rd E x = some (u p)) (hy : rd E y = some (u q)) (hd : Nat.blt d n = true) (hb : p + q < 18446744073709551616) (h : OpsE P G R ops n K rest ((d, u (p + q)) :: E) M) :
    OpsE P G R ops n K (⟨some d, .binOp .add T x y T', ty, pos, aft, none⟩ :: rest) E M := e_add_u hx hy hd (by rw [Nat.mod_eq_of_lt hb]; exact h)
theorem e_mul_un {p q : Nat} (hx : rd E x = some (u p)) (hy : rd E y = some (u q)) (hd : Nat.blt d n = true) (hb : p * q < 18446744073709551616) (h : OpsE P G R ops n K rest ((d, u (p * q)) :: E) M) :
    OpsE P G R ops n K (⟨some d, .binOp .mul T x y T', ty, pos, aft, none⟩ :: rest) E M := e_mul_u hx hy hd (by rw [Nat.mod_eq_of_lt hb]; exact h)
theorem e_sub_un {p q : Nat} (hx : rd E x = some (u p)) (hy : rd E y = some (u q)) (hd : Nat.blt d n = true) (hb : p < 18446744073709551616) (hq : q ≤ p) (h : OpsE P G R ops n K rest ((d, u (p - q)) :: E) M) :
    OpsE P G R ops n K (⟨some d, .binOp .sub T x y T', ty, pos, aft, none⟩ :: rest) E M := e_sub_u hx hy hd (by omega) (by rw [show (p + 18446744073709551616 - q) % 18446744073709551616 = p - q by omega]; exact h)
theorem e_add_wn {p q : Nat} (hx : rd E x = some (uw p)) (hy : rd E y = some (uw q)) (hd : Nat.blt d n = true) (hb : p + q < 4294967296) (h : OpsE P G R ops n K rest ((d, uw (p + q)) :: E) M) :
    OpsE P G R ops n K (⟨some d, .binOp .add T x y T', ty, pos, aft, none⟩ :: rest) E M := e_add_w hx hy hd (by rw [Nat.mod_eq_of_lt hb]; exact h)
theorem e_sub_wn {p q : Nat} (hx : rd E x = some (uw p)) (hy : rd E y = some (uw q)) (hd : Nat.blt d n = true) (hb : p < 4294967296) (hq : q ≤ p) (h : OpsE P G R ops n K rest ((d, uw (p - q)) :: E) M) :
    OpsE P G R ops n K (⟨some d, .binOp .sub T x y T', ty, pos, aft, none⟩ :: rest) E M := e_sub_w hx hy hd (by omega) (by rw [show (p + 4294967296 - q) % 4294967296 = p - q by omega]; exact h)
theorem e_sub_in {p q : Nat} (hx : rd E x = some (ii p)) (hy : rd E y = some (ii q)) (hd : Nat.blt d n = true) (hb : p < 9223372036854775808) (hq : q ≤ p) (h : OpsE P G R ops n K rest ((d, ii (p - q)) :: E) M) :
    OpsE P G R ops n K (⟨some d, .binOp .sub T x y T', ty, pos, aft, none⟩ :: rest) E M := e_sub_z hx hy hd (by omega) (by omega) (by rw [show (p : Int) - (q : Int) = ((p - q : Nat) : Int) by omega]; exact h)
theorem e_conv_un {k : IntKind} {dk : TypeDesc} {p : Nat} (hs : P.underlying T = some dk) (ht : P.underlying T' = some (.int .u64)) (hx : rd E x = some (.int k (p : Int))) (hd : Nat.blt d n = true) (hv : kconv R T T' = 1) (hb : p < 18446744073709551616)
    (h : OpsE P G R ops n K rest ((d, u p) :: E) M) : OpsE P G R ops n K (⟨some d, .convert T T' x, ty, pos, aft, none⟩ :: rest) E M := e_conv_u hs ht hx hd hv (by rw [Nat.mod_eq_of_lt hb]; exact h)
theorem e_conv_wn {k : IntKind} {dk : TypeDesc} {p : Nat} (hs : P.underlying T = some dk) (ht : P.underlying T' = some (.int .u32)) (hx : rd E x = some (.int k (p : Int))) (hd : Nat.blt d n = true) (hv : kconv R T T' = 1) (hb : p < 4294967296)
    (h : OpsE P G R ops n K rest ((d, uw p) :: E) M) : OpsE P G R ops n K (⟨some d, .convert T T' x, ty, pos, aft, none⟩ :: rest) E M := e_conv_w hs ht hx hd hv (by rw [Nat.mod_eq_of_lt hb]; exact h)
theorem e_conv_u8n {k : IntKind} {dk : TypeDesc} {p : Nat} (hs : P.underlying T = some dk) (ht : P.underlying T' = some (.int .u8)) (hx : rd E x = some (.int k (p : Int))) (hd : Nat.blt d n = true) (hv : kconv R T T' = 1) (hb : p < 256)
    (h : OpsE P G R ops n K rest ((d, by8 p) :: E) M) : OpsE P G R ops n K (⟨some d, .convert T T' x, ty, pos, aft, none⟩ :: rest) E M := e_conv_u8 hs ht hx hd hv (by rw [Nat.mod_eq_of_lt hb]; exact h)
theorem e_le {k : IntKind} {p q : Int} (hx : rd E x = some (.int k p)) (hy : rd E y = some (.int k q)) (hd : Nat.blt d n = true) (h : OpsE P G R ops n K rest ((d, .bool (decide (p ≤ q))) :: E) M) :
    OpsE P G R ops n K (⟨some d, .binOp .leq T x y T', ty, pos, aft, none⟩ :: rest) E M := fun _ _ ha hM => st_bin (fun w => by simp [ha.rd hx, ha.rd hy, eqGuard, binOp, Op.intCmp]) (h _ _ (ha.put hd _) hM)
theorem e_compl_w {p : Nat} (hx : rd E x = some (uw p)) (hd : Nat.blt d n = true) (h : OpsE P G R ops n K rest ((d, uw ((4294967295 ^^^ p) % 4294967296)) :: E) M) :
    OpsE P G R ops n K (⟨some d, .unOp .xor T x, ty, pos, aft, none⟩ :: rest) E M := fun _ _ ha hM =>
  st_quiet (v := uw ((4294967295 ^^^ p) % 4294967296)) rfl rfl (fun w => by
    have := bits_xor32 4294967295 p
    have e3 : (if IntKind.u32.signed = true then (-1 : Int) else IntKind.u32.max) = ((4294967295 : Nat) : Int) := by decide
    simp only [execOp, ha.rd hx, Op.unary, e3, Op.intBits, IntKind.bits]
    simp
    exact this) (h _ _ (ha.put hd _) hM)
theorem e_neg_z {p : Int} (hx : rd E x = some (.int .i64 p)) (hd : Nat.blt d n = true) (h0 : -9223372036854775808 < p) (h1 : p < 9223372036854775808) (h : OpsE P G R ops n K rest ((d, .int .i64 (-p)) :: E) M) :
    OpsE P G R ops n K (⟨some d, .unOp .neg T x, ty, pos, aft, none⟩ :: rest) E M := fun _ _ ha hM =>
  st_quiet (v := .int .i64 (-p)) rfl rfl (fun w => by
    have e := wrap_i64 (z := -p) (by omega) (by omega)
    simp [execOp, ha.rd hx, Op.unary, Op.intArith, e]) (h _ _ (ha.put hd _) hM)
/-! ### A number under a new name -/
theorem e_gen_w {l : List Oper} {s p : Nat} (h : ∀ q, q = p → OpsE P G R ops n K l ((s, uw q) :: E) M) : OpsE P G R ops n K l ((s, uw p) :: E) M := h p rfl
theorem e_gen_u {l : List Oper} {s p : Nat} (h : ∀ q, q = p → OpsE P G R ops n K l ((s, u q) :: E) M) : OpsE P G R ops n K l ((s, u p) :: E) M := h p rfl
theorem e_gen_b {l : List Oper} {s p : Nat} (h : ∀ q, q = p → OpsE P G R ops n K l ((s, by8 q) :: E) M) : OpsE P G R ops n K l ((s, by8 p) :: E) M := h p rfl
theorem e_gen_i {l : List Oper} {s p : Nat} (h : ∀ q, q = p → OpsE P G R ops n K l ((s, ii q) :: E) M) : OpsE P G R ops n K l ((s, ii p) :: E) M := h p rfl
end
end Go.Proofs.YtpmgjnfllnokjaaDoor

/-
  Walks, written by a program of ours off the loaded functions.
-/
namespace Go.Proofs.YtpmgjnfllnokjaaDoor
open Go Go.RowKit


theorem mixed : Tryd.prog.follows .mixedOrders = true := by kernel_rfl
theorem ent33 : enters Tryd.prog 33 = true := by kernel_rfl
theorem ent34 : enters Tryd.prog 34 = true := by kernel_rfl
theorem siz5 : (Tryd.prog.info? 5).map (·.size) = some 1 := by kernel_rfl
theorem siz44 : (Tryd.prog.info? 44).map (·.size) = some 1 := by kernel_rfl
theorem siz66 : (Tryd.prog.info? 66).map (·.size) = some 4 := by kernel_rfl
theorem siz67 : (Tryd.prog.info? 67).map (·.size) = some 16 := by kernel_rfl
theorem und3 : Tryd.prog.underlying 3 = some (.int .i64) := by kernel_rfl
theorem und5 : Tryd.prog.underlying 5 = some (.int .u8) := by kernel_rfl
theorem und9 : Tryd.prog.underlying 9 = some (.string) := by kernel_rfl
theorem und22 : Tryd.prog.underlying 22 = some (.slice 5) := by kernel_rfl
theorem und44 : Tryd.prog.underlying 44 = some (.int .u32) := by kernel_rfl
theorem und61 : Tryd.prog.underlying 61 = some (.int .u64) := by kernel_rfl
theorem und66 : Tryd.prog.underlying 66 = some (.array 4 44) := by kernel_rfl
theorem und67 : Tryd.prog.underlying 67 = some (.array 4 66) := by kernel_rfl
theorem zer5 : (Tryd.prog.info? 5).bind (·.zero) = some (.int .u8 0) := by kernel_rfl
theorem zer67 : (Tryd.prog.info? 67).bind (·.zero) = some (.agg (arr .u32 16 fun _ => 0)) := by kernel_rfl

variable {G : Mem}

set_option maxHeartbeats 400000 in
theorem left_fn (n b : Nat) (hb : b ≤ 32) : Fn Tryd.prog G 36 #[uw n, ii b] (uw (rotl n b)) := by
  refine fn1 (n := 13) Tryd.func36 rfl rfl (by simp) (argE [uw n, ii b] 0) (argE_ok _) ?_
  refine e_seq ?_
  refine e_plain ?_
  refine e_assign rfl rfl ?_
  refine e_nil ?_
  refine e_seq ?_
  refine e_draw mixed (by kernel_rfl) ?_
  refine e_move rfl rfl ?_
  refine e_move rfl rfl ?_
  refine e_shl_w rfl rfl rfl (by omega) ?_
  refine e_move rfl rfl ?_
  refine e_move rfl rfl ?_
  refine e_sub_z (p := 32) rfl rfl rfl (by omega) (by omega) ?_
  refine e_as (congrArg (Value.int .i64) (show (32 : Int) - (b : Int) = ((32 - b : Nat) : Int) by omega)) ?_
  refine e_shr_w rfl rfl rfl (by omega) ?_
  refine e_or_w rfl rfl rfl  ?_
  refine e_assign rfl rfl ?_
  refine e_nil ?_
  refine e_ret ?_
  exact ⟨_, rfl, .tmp rfl⟩

set_option maxHeartbeats 400000 in
theorem low_fn (n k : Nat) (hn : n < 18446744073709551616) (hk : k ≤ 64) : Fn Tryd.prog G 27 #[u n, ii k] (sv (lowl n k)) := by
  refine fn1 (n := 19) Tryd.func27 rfl rfl (by simp) (argE [u n, ii k] 0) (argE_ok _) ?_
  refine e_seq ?_
  refine e_plain ?_
  refine e_assign (v := sv []) rfl rfl ?_
  refine e_nil ?_
  refine e_seq ?_
  refine e_plain ?_
  refine e_assign (v := sv []) rfl rfl ?_
  refine e_nil ?_
  refine e_seq ?_
  refine e_seq ?_
  refine e_plain ?_
  refine e_move rfl rfl ?_
  refine e_move rfl rfl ?_
  refine e_nil ?_
  refine e_block ?_
  refine e_loop (fun kk E m => ∃ (i : Nat), kk = k - i ∧ E = [(0, u (n / 256 ^ i)), (1, ii k), (5, sv (lowl n i)), (6, ii k), (7, ii i)] ∧ m = [] ∧ (i ≤ k)) [(0, u (n / 256 ^ 0)), (1, ii k), (5, sv (lowl n 0)), (6, ii k), (7, ii 0)] [] (k - 0) ⟨by rw [Nat.pow_zero, Nat.div_one]; rfl, rfl, rfl, rfl, rfl, trivial⟩ trivial ⟨0, rfl, rfl, rfl, by omega⟩ ?_
  rintro kk E m ⟨i, rfl, rfl, rfl, hf0_0⟩
  have hq : n / 256 ^ i < 18446744073709551616 := Nat.lt_of_le_of_lt (Nat.div_le_self _ _) hn
  have hll := lowl_len n i
  refine e_seq ?_
  refine e_plain ?_
  refine e_lt rfl rfl rfl ?_
  refine e_nil ?_
  refine e_seq ?_
  refine e_cond rfl ?_ ?_
  · intro hc0
    have hc0 := of_decide_eq_true hc0
    refine e_skip ?_
    refine e_seq ?_
    refine e_block ?_
    refine e_seq ?_
    refine e_plain ?_
    refine e_move rfl rfl ?_
    refine e_move rfl rfl ?_
    refine e_conv_u8 und61 und5 rfl rfl rfl ?_
    refine e_buildSl 0 #[by8 (n / 256 ^ i % 256)] und22 siz5 zer5 (by decide) (by decide) rfl (by kernel_rfl) rfl fun r1 => ?_
    refine e_conv_strV (l := [n / 256 ^ i % 256]) (shows_new _ _ (by rfl)) (seen1 0 rfl ⟨[], trivial⟩) und22 und5 und9 rfl rfl rfl ?_
    refine e_catS rfl rfl rfl (by simp; omega) ?_
    refine e_assign rfl rfl ?_
    refine e_nil ?_
    refine e_plain ?_
    refine e_move rfl rfl ?_
    refine e_quo_u (q := 256) rfl rfl rfl (by omega) (by omega) ?_
    refine e_assign rfl rfl ?_
    refine e_nil ?_
    refine e_plain ?_
    refine e_add_i (q := 1) rfl rfl rfl (by omega) ?_
    refine e_move rfl rfl ?_
    refine e_nil ?_
    refine ⟨_, [(0, u (n / 256 ^ (i + 1))), (1, ii k), (5, sv (lowl n (i + 1))), (6, ii k), (7, ii (i + 1))], [], ?_, ⟨by rw [Nat.pow_succ, ← Nat.div_div_eq_div_mul]; rfl, rfl, by rw [← lowl_succ]; rfl, rfl, rfl, trivial⟩, trivial, i + 1, rfl, rfl, rfl, by omega⟩
    omega
  · intro hc0
    have hc0 := of_decide_eq_false hc0
    have hik : i = k := by omega
    subst hik
    refine e_exit ?_
    refine e_seq ?_
    refine e_plain ?_
    refine e_move rfl rfl ?_
    refine e_assign rfl rfl ?_
    refine e_nil ?_
    refine e_ret ?_
    exact ⟨_, rfl, .tmp rfl⟩

set_option maxHeartbeats 400000 in
theorem number_fn (l : List Nat) (hl : l.length ≤ 8) (hb : ∀ b ∈ l, b < 256) : Fn Tryd.prog G 34 #[sv l] (u (leN l)) := by
  refine fn1 (n := 20) Tryd.func34 rfl rfl (by simp) (argE [sv l] 0) (argE_ok _) ?_
  refine e_seq ?_
  refine e_plain ?_
  refine e_assign rfl rfl ?_
  refine e_nil ?_
  refine e_seq ?_
  refine e_plain ?_
  refine e_assign rfl rfl ?_
  refine e_nil ?_
  refine e_seq ?_
  refine e_seq ?_
  refine e_plain ?_
  refine e_move rfl rfl ?_
  refine e_lenStr und9 rfl rfl rfl ?_
  refine e_sub_z (q := 1) rfl rfl rfl (by omega) (by omega) ?_
  refine e_assign rfl rfl ?_
  refine e_nil ?_
  refine e_block ?_
  refine e_loop (fun kk E m => ∃ (n : Nat), kk = 2 * n ∧ E = [(0, sv l), (3, u (leN (l.drop n))), (4, .int .i64 (((n : Nat) : Int) - 1))] ∧ m = [] ∧ (n ≤ l.length)) [(0, sv l), (3, u (leN (l.drop l.length))), (4, .int .i64 (((l.length : Nat) : Int) - 1))] [] (2 * l.length) ⟨rfl, by rw [List.drop_length]; rfl, rfl, trivial⟩ trivial ⟨l.length, rfl, rfl, rfl, Nat.le_refl _⟩ ?_
  rintro kk E m ⟨n, rfl, rfl, rfl, hf0_0⟩
  refine e_seq ?_
  refine e_seq ?_
  refine e_plain ?_
  refine e_move rfl rfl ?_
  refine e_ge rfl rfl rfl ?_
  refine e_nil ?_
  refine e_cond rfl ?_ ?_
  · intro hc0
    have hc0 := of_decide_eq_true hc0
    obtain ⟨i, rfl⟩ : ∃ i, n = i + 1 := ⟨n - 1, by omega⟩
    have hsm := leN_small hl hb i
    have hbi : l[i] < 256 := hb _ (List.getElem_mem _)
    refine e_skip ?_
    refine e_seq ?_
    refine e_block ?_
    refine e_plain ?_
    refine e_move rfl rfl ?_
    refine e_mul_u (q := 256) rfl rfl rfl  ?_
    refine e_as (congrArg u (Nat.mod_eq_of_lt (show leN (l.drop (i + 1)) * 256 < 18446744073709551616 by omega))) ?_
    refine e_move rfl rfl ?_
    refine e_move rfl rfl ?_
    refine e_as (congrArg (Value.int .i64) (show ((i + 1 : Nat) : Int) - 1 = ((i : Nat) : Int) by omega)) ?_
    refine e_idxStr und9 rfl rfl (List.getElem?_eq_getElem (show i < l.length by omega)) (hb _ (List.getElem_mem _)) rfl ?_
    refine e_conv_u und5 und61 rfl rfl rfl ?_
    refine e_as (congrArg u (Nat.mod_eq_of_lt (show l[i] < 18446744073709551616 by omega))) ?_
    refine e_add_u rfl rfl rfl  ?_
    refine e_as (congrArg u (Nat.mod_eq_of_lt (show leN (l.drop (i + 1)) * 256 + l[i] < 18446744073709551616 by omega))) ?_
    refine e_assign rfl rfl ?_
    refine e_nil ?_
    refine e_plain ?_
    refine e_move rfl rfl ?_
    refine e_sub_z (q := 1) rfl rfl rfl (by omega) (by omega) ?_
    refine e_assign rfl rfl ?_
    refine e_nil ?_
    refine ⟨_, [(0, sv l), (3, u (leN (l.drop i))), (4, .int .i64 (((i : Nat) : Int) - 1))], [], ?_, ⟨rfl, by rw [leN_drop (show i < l.length by omega)]; rfl, congrArg (fun z => some (Value.int .i64 z)) (show ((i + 1 : Nat) : Int) - 1 - 1 = ((i : Nat) : Int) - 1 by omega), trivial⟩, trivial, i, rfl, rfl, rfl, by omega⟩
    omega
  · intro hc0
    have hc0 := of_decide_eq_false hc0
    have hn0 : n = 0 := by omega
    subst hn0
    refine e_exit ?_
    refine e_seq ?_
    refine e_plain ?_
    refine e_move rfl rfl ?_
    refine e_assign rfl rfl ?_
    refine e_nil ?_
    refine e_ret ?_
    exact ⟨_, rfl, .tmp rfl⟩

set_option maxHeartbeats 400000 in
theorem orderOf_fn (r i : Nat) (hr : r < 10) (hi : i < 16) : Fn Tryd.prog G 33 #[ii r, ii i] (ii (sig r i)) := by
  obtain ⟨o1, o2, o3, o4⟩ := ord_all (16 * r + i) (by omega)
  obtain ⟨c, hc⟩ : ∃ c, c = ordL.getD (16 * r + i) 0 := ⟨_, rfl⟩
  rw [← hc] at o1 o2 o3 o4
  refine fn1 (n := 20) Tryd.func33 rfl rfl (by simp) (argE [ii r, ii i] 0) (argE_ok _) ?_
  refine e_seq ?_
  refine e_plain ?_
  refine e_assign rfl rfl ?_
  refine e_nil ?_
  refine e_seq ?_
  refine e_plain ?_
  refine e_move rfl rfl ?_
  refine e_mul_i (p := 16) rfl rfl rfl (by omega) ?_
  refine e_move rfl rfl ?_
  refine e_add_i rfl rfl rfl (by omega) ?_
  refine e_idxStr (l := [48, 49, 50, 51, 52, 53, 54, 55, 56, 57, 97, 98, 99, 100, 101, 102, 101, 97, 52, 56, 57, 102, 100, 54, 49, 99, 48, 50, 98, 55, 53, 51, 98, 56, 99, 48, 53, 50, 102, 100, 97, 101, 51, 54, 55, 49, 57, 52, 55, 57, 51, 49, 100, 99, 98, 101, 50, 54, 53, 97, 52, 48, 102, 56, 57, 48, 53, 55, 50, 52, 97, 102, 101, 49, 98, 99, 54, 56, 51, 100, 50, 99, 54, 97, 48, 98, 56, 51, 52, 100, 55, 53, 102, 101, 49, 57, 99, 53, 49, 102, 101, 100, 52, 97, 48, 55, 54, 51, 57, 50, 56, 98, 100, 98, 55, 101, 99, 49, 51, 57, 53, 48, 102, 52, 56, 54, 50, 97, 54, 102, 101, 57, 98, 51, 48, 56, 99, 50, 100, 55, 49, 52, 97, 53, 97, 50, 56, 52, 55, 54, 49, 53, 102, 98, 57, 101, 51, 99, 100, 48]) und9 rfl rfl o1 o2 rfl ?_
  refine e_assign rfl rfl ?_
  refine e_nil ?_
  refine e_seq ?_
  refine e_seq ?_
  refine e_plain ?_
  refine e_move rfl rfl ?_
  refine e_ge rfl rfl rfl ?_
  refine e_nil ?_
  refine e_cond rfl ?_ ?_
  · intro hc0
    have hc0 := of_decide_eq_true hc0
    refine e_seq ?_
    refine e_plain ?_
    refine e_move rfl rfl ?_
    refine e_sub_b (q := 97) rfl rfl rfl (by omega) ?_
    refine e_as (congrArg by8 (show (c + 256 - 97) % 256 = c - 97 by omega)) ?_
    refine e_conv_i und5 und3 rfl rfl rfl (by omega) ?_
    refine e_add_i (q := 10) rfl rfl rfl (by omega) ?_
    refine e_as (congrArg ii (o3 (by omega))) ?_
    refine e_assign rfl rfl ?_
    refine e_nil ?_
    refine e_ret ?_
    exact ⟨_, rfl, .tmp rfl⟩
  · intro hc0
    have hc0 := of_decide_eq_false hc0
    refine e_skip ?_
    refine e_seq ?_
    refine e_plain ?_
    refine e_move rfl rfl ?_
    refine e_sub_b (q := 48) rfl rfl rfl (by omega) ?_
    refine e_as (congrArg by8 (show (c + 256 - 48) % 256 = c - 48 by have := o4 (by omega); omega)) ?_
    refine e_conv_i und5 und3 rfl rfl rfl (by omega) ?_
    refine e_as (congrArg ii (o4 (by omega)).2) ?_
    refine e_assign rfl rfl ?_
    refine e_nil ?_
    refine e_ret ?_
    exact ⟨_, rfl, .tmp rfl⟩

set_option maxHeartbeats 400000 in
theorem word_fn (rb r i : Nat) (b : List Nat) (hb : ∀ x ∈ b, x < 256) (hl : b.length = 64) (hr : r < 10) (hi : i < 16) : Fn Tryd.prog [⟨rb, #[sv b], 9⟩] 32 #[ii r, ii i, ptr rb] (uw (wrd b (sig r i))) := by
  have hsg := sig_lt r i
  refine fn1 (n := 19) Tryd.func32 rfl rfl (by simp) (argE [ii r, ii i, ptr rb] 0) (argE_ok _) ?_
  refine e_seq ?_
  refine e_plain ?_
  refine e_assign rfl rfl ?_
  refine e_nil ?_
  refine e_seq ?_
  refine e_plain ?_
  refine e_move rfl rfl ?_
  refine e_move rfl rfl ?_
  refine e_call rfl ent33 (orderOf_fn r i hr hi) rfl rfl ?_
  refine e_assign rfl rfl ?_
  refine e_nil ?_
  refine e_seq ?_
  refine e_plain ?_
  refine e_load1g (i := 0) und9 rfl rfl rfl rfl rfl ?_
  refine e_move rfl rfl ?_
  refine e_mul_i (p := 4) rfl rfl rfl (by omega) ?_
  refine e_move rfl rfl ?_
  refine e_mul_i (p := 4) rfl rfl rfl (by omega) ?_
  refine e_add_i (q := 4) rfl rfl rfl (by omega) ?_
  refine e_sliceStr (4 * sig r i) (4 * sig r i + 4) und9 rfl rfl rfl ⟨_, rfl⟩ ⟨_, rfl⟩ (by omega) (by omega) rfl ?_
  refine e_as (congrArg (fun z => sv ((b.drop (4 * sig r i)).take z)) (show 4 * sig r i + 4 - 4 * sig r i = 4 by omega)) ?_
  refine e_call rfl ent34 (number_fn _ (cut4_len b (sig r i)) (cut4_lt hb (sig r i))) rfl rfl ?_
  refine e_conv_wn und61 und44 rfl rfl rfl (wrd_lt hb (sig r i)) ?_
  refine e_assign rfl rfl ?_
  refine e_nil ?_
  refine e_ret ?_
  exact ⟨_, rfl, .tmp rfl⟩

set_option maxHeartbeats 400000 in
theorem shp_fn (p : Nat) (hp : p ≤ 1) (f : Nat → Nat) : Fn Tryd.prog G 35 #[.agg (arr .u32 16 f), ii p] (.agg (arr .u32 16 (shp p f))) := by
  refine fn1 (n := 32) Tryd.func35 rfl rfl (by simp) (argE [.agg (arr .u32 16 f), ii p] 0) (argE_ok _) ?_
  refine e_seq ?_
  refine e_plain ?_
  refine e_box 0 rfl rfl fun r1 => ?_
  refine e_alloc 1 zer67 rfl fun r2 => ?_
  refine e_nil ?_
  refine e_seq ?_
  refine e_plain ?_
  refine e_alloc 2 zer67 rfl fun r3 => ?_
  refine e_nil ?_
  refine e_seq ?_
  refine e_seq ?_
  refine e_plain ?_
  refine e_move rfl rfl ?_
  refine e_nil ?_
  refine e_block ?_
  refine e_loopK [(1, _), (2, _), (4, _), (5, _)] [(0, _), (1, _)] (fun kk E m => ∃ (k : Nat) (s : Nat → Nat), kk = 4 - k ∧ E = [(8, ii k)] ∧ m = [(2, some ⟨r3, arr .u32 16 s, 67⟩)] ∧ (k ≤ 4) ∧ (∀ t, t < 4 * k → s t = shp p f t)) [(8, ii 0)] [(2, some ⟨r3, arr .u32 16 (fun _ => 0), 67⟩)] (4 - 0) ⟨rfl, rfl, rfl, rfl, rfl, trivial⟩ ⟨rfl, rfl, rfl, trivial⟩ ⟨0, fun _ => 0, rfl, rfl, rfl, by omega, fun t ht => absurd ht (Nat.not_lt_zero t)⟩ ?_
  rintro kk E m ⟨k, s, rfl, rfl, rfl, hf0_0, hf0_1⟩
  simp only [catE, catL]
  refine e_seq ?_
  refine e_plain ?_
  refine e_lt rfl rfl rfl ?_
  refine e_nil ?_
  refine e_seq ?_
  refine e_cond rfl ?_ ?_
  · intro hc0
    have hc0 : k < 4 := by have := of_decide_eq_true hc0; omega
    refine e_skip ?_
    refine e_seq ?_
    refine e_block ?_
    refine e_seq ?_
    refine e_plain ?_
    refine e_move rfl rfl ?_
    refine e_assign rfl rfl ?_
    refine e_nil ?_
    refine e_seq ?_
    refine e_plain ?_
    refine e_move rfl rfl ?_
    refine e_nil ?_
    refine e_block ?_
    refine e_loopK [(1, _), (2, _), (4, _), (5, _), (6, _), (8, _)] [(0, _), (1, _)] (fun kk E m => ∃ (j : Nat) (s2 : Nat → Nat), kk = 4 - j ∧ E = [(11, ii j)] ∧ m = [(2, some ⟨r3, arr .u32 16 s2, 67⟩)] ∧ (j ≤ 4) ∧ (∀ t, t < 4 * k + j → s2 t = shp p f t)) [(11, ii 0)] [(2, some ⟨r3, arr .u32 16 s, 67⟩)] (4 - 0) ⟨rfl, rfl, rfl, rfl, rfl, rfl, rfl, trivial⟩ ⟨rfl, rfl, rfl, trivial⟩ ⟨0, s, rfl, rfl, rfl, by omega, hf0_1⟩ ?_
    rintro kk E m ⟨j, s2, rfl, rfl, rfl, hf1_0, hf1_1⟩
    simp only [catE, catL]
    refine e_seq ?_
    refine e_plain ?_
    refine e_lt rfl rfl rfl ?_
    refine e_nil ?_
    refine e_seq ?_
    refine e_cond rfl ?_ ?_
    · intro hc1
      have hc1 : j < 4 := by have := of_decide_eq_true hc1; omega
      refine e_skip ?_
      refine e_seq ?_
      refine e_block ?_
      refine e_seq ?_
      refine e_plain ?_
      refine e_move rfl rfl ?_
      refine e_assign rfl rfl ?_
      refine e_nil ?_
      refine e_draw mixed (by kernel_rfl) ?_
      refine e_move rfl rfl ?_
      refine e_move rfl rfl ?_
      refine e_move rfl rfl ?_
      refine e_move rfl rfl ?_
      refine e_add_i (q := 4) rfl rfl rfl (by omega) ?_
      refine e_move rfl rfl ?_
      refine e_move rfl rfl ?_
      have hpk : p * k < 4 := by rcases (by omega : p = 0 ∨ p = 1) with rfl | rfl <;> omega
      refine e_mul_i rfl rfl rfl (by omega) ?_
      refine e_add_i rfl rfl rfl (by omega) ?_
      refine e_rem_i (q := 4) rfl rfl rfl (by omega) ?_
      refine e_at (4 * k) und67 siz66 rfl rfl (by omega) (by omega) rfl ?_
      refine e_at (4 * k + (j + 4 + p * k) % 4) und66 siz44 rfl rfl (by omega) (by omega) rfl ?_
      refine e_load1 (i := 0) und44 rfl rfl rfl (arr_get (by omega)) rfl ⟨[], trivial⟩ ?_
      refine e_at (4 * k) und67 siz66 rfl rfl (by omega) (by omega) rfl ?_
      refine e_at (4 * k + j) und66 siz44 rfl rfl (by omega) (by omega) rfl ?_
      refine e_storeN (i := 2) siz44 rfl rfl rfl (by omega) (.inl rfl) ?_
      refine e_nil ?_
      refine e_plain ?_
      refine e_add_i (q := 1) rfl rfl rfl (by omega) ?_
      refine e_move rfl rfl ?_
      refine e_nil ?_
      refine ⟨_, [(11, ii (j + 1))], [(2, some ⟨r3, arr .u32 16 (upd s2 (4 * k + j) _), 67⟩)], ?_, ⟨rfl, rfl, rfl, rfl, rfl, rfl, rfl, trivial⟩, ⟨rfl, rfl, rfl, trivial⟩, j + 1, upd s2 (4 * k + j) _, rfl, rfl, rfl, by omega, sh_at (shp p) f s2 (shp_v p f (by omega)) hf1_1⟩
      omega
    · intro hc1
      have hc1 := of_decide_eq_false hc1
      have hz1 : j = 4 := by omega
      subst hz1
      refine e_exit ?_
      refine e_plain ?_
      refine e_add_i (q := 1) rfl rfl rfl (by omega) ?_
      refine e_move rfl rfl ?_
      refine e_nil ?_
      refine ⟨_, [(8, ii (k + 1))], [(2, some ⟨r3, arr .u32 16 s2, 67⟩)], ?_, ⟨rfl, rfl, rfl, rfl, rfl, trivial⟩, ⟨rfl, rfl, rfl, trivial⟩, k + 1, s2, rfl, rfl, rfl, by omega, by rw [show 4 * (k + 1) = 4 * k + 4 by omega]; exact hf1_1⟩
      omega
  · intro hc0
    have hc0 := of_decide_eq_false hc0
    have hz0 : k = 4 := by omega
    subst hz0
    refine e_exit ?_
    refine e_seq ?_
    refine e_plain ?_
    refine e_loadA (i := 2) und67 rfl siz67 rfl rfl (arr_size _ _ _) rfl ⟨[], trivial⟩ ?_
    refine e_storeA (i := 1) siz67 rfl rfl (arr_size _ _ _) arr_one rfl (arr_sz _ _ _ _ _) (.inl rfl) ?_
    refine e_nil ?_
    refine e_ret ?_
    rw [← arr_congr hf0_1]
    exact ⟨_, rfl, .cell (i := 1) rfl rfl und67 rfl siz67 (arr_size _ _ _)⟩

set_option maxHeartbeats 400000 in
theorem shn_fn (p : Nat) (hp : p ≤ 1) (f : Nat → Nat) : Fn Tryd.prog G 35 #[.agg (arr .u32 16 f), .int .i64 (-(p : Int))] (.agg (arr .u32 16 (shn p f))) := by
  refine fn1 (n := 32) Tryd.func35 rfl rfl (by simp) (argE [.agg (arr .u32 16 f), .int .i64 (-(p : Int))] 0) (argE_ok _) ?_
  refine e_seq ?_
  refine e_plain ?_
  refine e_box 0 rfl rfl fun r1 => ?_
  refine e_alloc 1 zer67 rfl fun r2 => ?_
  refine e_nil ?_
  refine e_seq ?_
  refine e_plain ?_
  refine e_alloc 2 zer67 rfl fun r3 => ?_
  refine e_nil ?_
  refine e_seq ?_
  refine e_seq ?_
  refine e_plain ?_
  refine e_move rfl rfl ?_
  refine e_nil ?_
  refine e_block ?_
  refine e_loopK [(1, _), (2, _), (4, _), (5, _)] [(0, _), (1, _)] (fun kk E m => ∃ (k : Nat) (s : Nat → Nat), kk = 4 - k ∧ E = [(8, ii k)] ∧ m = [(2, some ⟨r3, arr .u32 16 s, 67⟩)] ∧ (k ≤ 4) ∧ (∀ t, t < 4 * k → s t = shn p f t)) [(8, ii 0)] [(2, some ⟨r3, arr .u32 16 (fun _ => 0), 67⟩)] (4 - 0) ⟨rfl, rfl, rfl, rfl, rfl, trivial⟩ ⟨rfl, rfl, rfl, trivial⟩ ⟨0, fun _ => 0, rfl, rfl, rfl, by omega, fun t ht => absurd ht (Nat.not_lt_zero t)⟩ ?_
  rintro kk E m ⟨k, s, rfl, rfl, rfl, hf0_0, hf0_1⟩
  simp only [catE, catL]
  refine e_seq ?_
  refine e_plain ?_
  refine e_lt rfl rfl rfl ?_
  refine e_nil ?_
  refine e_seq ?_
  refine e_cond rfl ?_ ?_
  · intro hc0
    have hc0 : k < 4 := by have := of_decide_eq_true hc0; omega
    refine e_skip ?_
    refine e_seq ?_
    refine e_block ?_
    refine e_seq ?_
    refine e_plain ?_
    refine e_move rfl rfl ?_
    refine e_assign rfl rfl ?_
    refine e_nil ?_
    refine e_seq ?_
    refine e_plain ?_
    refine e_move rfl rfl ?_
    refine e_nil ?_
    refine e_block ?_
    refine e_loopK [(1, _), (2, _), (4, _), (5, _), (6, _), (8, _)] [(0, _), (1, _)] (fun kk E m => ∃ (j : Nat) (s2 : Nat → Nat), kk = 4 - j ∧ E = [(11, ii j)] ∧ m = [(2, some ⟨r3, arr .u32 16 s2, 67⟩)] ∧ (j ≤ 4) ∧ (∀ t, t < 4 * k + j → s2 t = shn p f t)) [(11, ii 0)] [(2, some ⟨r3, arr .u32 16 s, 67⟩)] (4 - 0) ⟨rfl, rfl, rfl, rfl, rfl, rfl, rfl, trivial⟩ ⟨rfl, rfl, rfl, trivial⟩ ⟨0, s, rfl, rfl, rfl, by omega, hf0_1⟩ ?_
    rintro kk E m ⟨j, s2, rfl, rfl, rfl, hf1_0, hf1_1⟩
    simp only [catE, catL]
    refine e_seq ?_
    refine e_plain ?_
    refine e_lt rfl rfl rfl ?_
    refine e_nil ?_
    refine e_seq ?_
    refine e_cond rfl ?_ ?_
    · intro hc1
      have hc1 : j < 4 := by have := of_decide_eq_true hc1; omega
      refine e_skip ?_
      refine e_seq ?_
      refine e_block ?_
      refine e_seq ?_
      refine e_plain ?_
      refine e_move rfl rfl ?_
      refine e_assign rfl rfl ?_
      refine e_nil ?_
      refine e_draw mixed (by kernel_rfl) ?_
      refine e_move rfl rfl ?_
      refine e_move rfl rfl ?_
      refine e_move rfl rfl ?_
      refine e_move rfl rfl ?_
      refine e_add_i (q := 4) rfl rfl rfl (by omega) ?_
      refine e_move rfl rfl ?_
      refine e_move rfl rfl ?_
      have hpk : p * k < 4 := by rcases (by omega : p = 0 ∨ p = 1) with rfl | rfl <;> omega
      have hpk : p * k < 4 := by rcases (by omega : p = 0 ∨ p = 1) with rfl | rfl <;> omega
      have hpz : (-(p : Int)) * ((k : Nat) : Int) = -((p * k : Nat) : Int) := by rw [Int.neg_mul, Int.natCast_mul]
      refine e_mul_z rfl rfl rfl (by omega) (by omega) ?_
      refine e_as (congrArg (Value.int .i64) hpz) ?_
      refine e_add_z rfl rfl rfl (by omega) (by omega) ?_
      refine e_as (congrArg (Value.int .i64) (show ((j + 4 : Nat) : Int) + -((p * k : Nat) : Int) = ((j + 4 - p * k : Nat) : Int) by omega)) ?_
      refine e_rem_i (q := 4) rfl rfl rfl (by omega) ?_
      refine e_at (4 * k) und67 siz66 rfl rfl (by omega) (by omega) rfl ?_
      refine e_at (4 * k + (j + 4 - p * k) % 4) und66 siz44 rfl rfl (by omega) (by omega) rfl ?_
      refine e_load1 (i := 0) und44 rfl rfl rfl (arr_get (by omega)) rfl ⟨[], trivial⟩ ?_
      refine e_at (4 * k) und67 siz66 rfl rfl (by omega) (by omega) rfl ?_
      refine e_at (4 * k + j) und66 siz44 rfl rfl (by omega) (by omega) rfl ?_
      refine e_storeN (i := 2) siz44 rfl rfl rfl (by omega) (.inl rfl) ?_
      refine e_nil ?_
      refine e_plain ?_
      refine e_add_i (q := 1) rfl rfl rfl (by omega) ?_
      refine e_move rfl rfl ?_
      refine e_nil ?_
      refine ⟨_, [(11, ii (j + 1))], [(2, some ⟨r3, arr .u32 16 (upd s2 (4 * k + j) _), 67⟩)], ?_, ⟨rfl, rfl, rfl, rfl, rfl, rfl, rfl, trivial⟩, ⟨rfl, rfl, rfl, trivial⟩, j + 1, upd s2 (4 * k + j) _, rfl, rfl, rfl, by omega, sh_at (shn p) f s2 (shn_v p f (by omega)) hf1_1⟩
      omega
    · intro hc1
      have hc1 := of_decide_eq_false hc1
      have hz1 : j = 4 := by omega
      subst hz1
      refine e_exit ?_
      refine e_plain ?_
      refine e_add_i (q := 1) rfl rfl rfl (by omega) ?_
      refine e_move rfl rfl ?_
      refine e_nil ?_
      refine ⟨_, [(8, ii (k + 1))], [(2, some ⟨r3, arr .u32 16 s2, 67⟩)], ?_, ⟨rfl, rfl, rfl, rfl, rfl, trivial⟩, ⟨rfl, rfl, rfl, trivial⟩, k + 1, s2, rfl, rfl, rfl, by omega, by rw [show 4 * (k + 1) = 4 * k + 4 by omega]; exact hf1_1⟩
      omega
  · intro hc0
    have hc0 := of_decide_eq_false hc0
    have hz0 : k = 4 := by omega
    subst hz0
    refine e_exit ?_
    refine e_seq ?_
    refine e_plain ?_
    refine e_loadA (i := 2) und67 rfl siz67 rfl rfl (arr_size _ _ _) rfl ⟨[], trivial⟩ ?_
    refine e_storeA (i := 1) siz67 rfl rfl (arr_size _ _ _) arr_one rfl (arr_sz _ _ _ _ _) (.inl rfl) ?_
    refine e_nil ?_
    refine e_ret ?_
    rw [← arr_congr hf0_1]
    exact ⟨_, rfl, .cell (i := 1) rfl rfl und67 rfl siz67 (arr_size _ _ _)⟩

end Go.Proofs.YtpmgjnfllnokjaaDoor
