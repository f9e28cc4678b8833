import Derived.Test.YtoalabpbohkcjaaK2
import Derived.Test.YtoalabpbohkcjaaRows

/-
  The same, over slots and labelled blocks: bytes, exclusive or, arrays of arrays.
-/
namespace Go.Proofs.Ytoalabpbohkcjaa
open Go Go.RowKit
variable {P : Program} {G : Mem} {R : Reg} {ops : Array Oper} {n : Nat} {K : Env → Mm → Prop} {rest : List Oper} {E : Env} {M : Mm} {d : Nat} {ty : TypeId} {pos : String} {aft : Array Edge}
variable {T T' : TypeId} {x y : Operand}

theorem e_xor_u {p q : Nat} (hx : rd E x = some (u p)) (hy : rd E y = some (u q)) (hd : Nat.blt d n = true) (h : OpsE P G R ops n K rest ((d, u ((p ^^^ q) % 18446744073709551616)) :: E) M) :
    OpsE P G R ops n K (⟨some d, .binOp .xor T x y T', ty, pos, aft, none⟩ :: rest) E M := fun _ _ ha hM => st_xor_u (ha.rd hx) (ha.rd hy) (h _ _ (ha.put hd _) hM)
theorem e_and_b {p q : Nat} (hx : rd E x = some (by8 p)) (hy : rd E y = some (by8 q)) (hd : Nat.blt d n = true) (h : OpsE P G R ops n K rest ((d, by8 ((p &&& q) % 256)) :: E) M) :
    OpsE P G R ops n K (⟨some d, .binOp .and T x y T', ty, pos, aft, none⟩ :: rest) E M := fun _ _ ha hM => st_and_b (ha.rd hx) (ha.rd hy) (h _ _ (ha.put hd _) hM)
theorem e_or_b {p q : Nat} (hx : rd E x = some (by8 p)) (hy : rd E y = some (by8 q)) (hd : Nat.blt d n = true) (h : OpsE P G R ops n K rest ((d, by8 ((p ||| q) % 256)) :: E) M) :
    OpsE P G R ops n K (⟨some d, .binOp .or T x y T', ty, pos, aft, none⟩ :: rest) E M := fun _ _ ha hM => st_or_b (ha.rd hx) (ha.rd hy) (h _ _ (ha.put hd _) hM)
theorem e_xor_b {p q : Nat} (hx : rd E x = some (by8 p)) (hy : rd E y = some (by8 q)) (hd : Nat.blt d n = true) (h : OpsE P G R ops n K rest ((d, by8 ((p ^^^ q) % 256)) :: E) M) :
    OpsE P G R ops n K (⟨some d, .binOp .xor T x y T', ty, pos, aft, none⟩ :: rest) E M := fun _ _ ha hM => st_xor_b (ha.rd hx) (ha.rd hy) (h _ _ (ha.put hd _) hM)
theorem e_add_b {p q : Nat} (hx : rd E x = some (by8 p)) (hy : rd E y = some (by8 q)) (hd : Nat.blt d n = true) (h : OpsE P G R ops n K rest ((d, by8 ((p + q) % 256)) :: E) M) :
    OpsE P G R ops n K (⟨some d, .binOp .add T x y T', ty, pos, aft, none⟩ :: rest) E M := fun _ _ ha hM => st_add_b (ha.rd hx) (ha.rd hy) (h _ _ (ha.put hd _) hM)
theorem e_sub_b {p q : Nat} (hx : rd E x = some (by8 p)) (hy : rd E y = some (by8 q)) (hd : Nat.blt d n = true) (hq : q ≤ 256) (h : OpsE P G R ops n K rest ((d, by8 ((p + 256 - q) % 256)) :: E) M) :
    OpsE P G R ops n K (⟨some d, .binOp .sub T x y T', ty, pos, aft, none⟩ :: rest) E M := fun _ _ ha hM => st_sub_b (ha.rd hx) (ha.rd hy) hq (h _ _ (ha.put hd _) hM)
theorem e_rem_b {p q : Nat} (hx : rd E x = some (by8 p)) (hy : rd E y = some (by8 q)) (hd : Nat.blt d n = true) (hq : 0 < q) (h : OpsE P G R ops n K rest ((d, by8 (p % q)) :: E) M) :
    OpsE P G R ops n K (⟨some d, .binOp .rem T x y T', ty, pos, aft, none⟩ :: rest) E M := fun _ _ ha hM => st_rem_b (ha.rd hx) (ha.rd hy) hq (h _ _ (ha.put hd _) hM)
theorem e_shr_b {k : IntKind} {p s : Nat} (hx : rd E x = some (by8 p)) (hy : rd E y = some (.int k (s : Int))) (hd : Nat.blt d n = true) (hs : s ≤ 8) (h : OpsE P G R ops n K rest ((d, by8 (p / 2 ^ s)) :: E) M) :
    OpsE P G R ops n K (⟨some d, .binOp .shr T x y T', ty, pos, aft, none⟩ :: rest) E M := fun _ _ ha hM => st_shr_b (ha.rd hx) (ha.rd hy) hs (h _ _ (ha.put hd _) hM)

theorem e_indexZ {b o j l z : Nat} {k : IntKind} {e : TypeId} (hT : P.underlying T = some (.array l e)) (hs : (P.info? e).map (·.size) = some (z + 1)) (hx : rd E x = some (.pointer (some ⟨b, o, none⟩))) (hy : rd E y = some (.int k (j : Int))) (hj : j < l)
    (hd : Nat.blt d n = true) (h : OpsE P G R ops n K rest ((d, .pointer (some ⟨b, o + j * (z + 1), none⟩)) :: E) M) : OpsE P G R ops n K (⟨some d, .indexAddr T x y, ty, pos, aft, none⟩ :: rest) E M :=
  fun _ _ ha hM => st_indexZ hT hs (ha.rd hx) (ha.rd hy) hj (h _ _ (ha.put hd _) hM)
theorem e_at (o' : Nat) {b o j l z : Nat} {k : IntKind} {e : TypeId} (hT : P.underlying T = some (.array l e)) (hs : (P.info? e).map (·.size) = some (z + 1)) (hx : rd E x = some (.pointer (some ⟨b, o, none⟩))) (hy : rd E y = some (.int k (j : Int))) (hj : j < l) (ho : o + j * (z + 1) = o')
    (hd : Nat.blt d n = true) (h : OpsE P G R ops n K rest ((d, .pointer (some ⟨b, o', none⟩)) :: E) M) : OpsE P G R ops n K (⟨some d, .indexAddr T x y, ty, pos, aft, none⟩ :: rest) E M :=
  fun _ _ ha hM => st_indexZ hT hs (ha.rd hx) (ha.rd hy) hj (by rw [ho]; exact h _ _ (ha.put hd _) hM)
theorem e_fld (o' : Nat) {b o f sz : Nat} {fs : Array Field} {fd : Field} (hT : P.underlying T = some (.struct fs)) (hf : fs[f]? = some fd) (hs : (P.info? fd.type).map (·.size) = some (sz + 1)) (hx : rd E x = some (.pointer (some ⟨b, o, none⟩)))
    (ho : o + fd.offset = o') (hd : Nat.blt d n = true) (h : OpsE P G R ops n K rest ((d, .pointer (some ⟨b, o', none⟩)) :: E) M) : OpsE P G R ops n K (⟨some d, .fieldAddr T x f, ty, pos, aft, none⟩ :: rest) E M :=
  fun _ _ ha hM => st_field hT hf hs (ha.rd hx) (by rw [ho]; exact h _ _ (ha.put hd _) hM)
theorem e_idxZ {j l z N : Nat} {k k2 : IntKind} {e : TypeId} {td : TypeDesc} {f : Nat → Nat} (hT : P.underlying T = some (.array l e)) (he : P.underlying e = some td) (hn : rowLike td = true) (hs : (P.info? e).map (·.size) = some z) (hx : rd E x = some (.agg (arr k N f))) (hy : rd E y = some (.int k2 (j : Int))) (hj : j < l)
    (ho : j * z + z ≤ N) (hd : Nat.blt d n = true) (h : OpsE P G R ops n K rest ((d, .agg (arr k z (fun t => f (j * z + t)))) :: E) M) : OpsE P G R ops n K (⟨some d, .index T x y, ty, pos, aft, none⟩ :: rest) E M :=
  fun _ _ ha hM => st_idxZ hT he hn hs (ha.rd hx) (ha.rd hy) hj (by rw [arr_part k N (j * z) z f ho]; exact h _ _ (ha.put hd _) hM)
theorem e_buildZ {zv : Value} {l z : Nat} {e : TypeId} {parts : Array (Nat × Operand)} {pv : List (Nat × Value)} (c : Array Value) (hz : (P.info? T).bind (·.zero) = some zv) (hT : P.underlying T = some (.array l e)) (hs : (P.info? e).map (·.size) = some z)
    (hp : rdp E parts.toList = some pv) (hf : Instr.fill (fun i => some (i * z, z)) zv.cells pv = some c) (hd : Nat.blt d n = true)
    (h : OpsE P G R ops n K rest ((d, .agg c) :: E) M) : OpsE P G R ops n K (⟨some d, .build T parts, ty, pos, aft, none⟩ :: rest) E M :=
  fun _ _ ha hM => st_buildZ hz hT hs (ha.rdp hp) hf (h _ _ (ha.put hd _) hM)

end Go.Proofs.Ytoalabpbohkcjaa

/-
  The same, over slots and labelled blocks: slices, strings; calls that make blocks or write.
-/
namespace Go.Proofs.Ytoalabpbohkcjaa
open Go Go.RowKit
variable {P : Program} {G : Mem} {R : Reg} {ops : Array Oper} {n : Nat} {K : Env → Mm → Prop} {rest : List Oper} {E : Env} {M : Mm} {d : Nat} {ty : TypeId} {pos : String} {aft : Array Edge}
variable {T T' : TypeId} {x y : Operand}

theorem e_rem_z {p q : Int} (hx : rd E x = some (.int .i64 p)) (hy : rd E y = some (.int .i64 q)) (hd : Nat.blt d n = true) (hq : q ≠ 0) (h : OpsE P G R ops n K rest ((d, .int .i64 (p.tmod q)) :: E) M) :
    OpsE P G R ops n K (⟨some d, .binOp .rem T x y T', ty, pos, aft, none⟩ :: rest) E M := fun _ _ ha hM => st_rem_z (ha.rd hx) (ha.rd hy) hq (h _ _ (ha.put hd _) hM)
theorem e_add_z {p q : Int} (hx : rd E x = some (.int .i64 p)) (hy : rd E y = some (.int .i64 q)) (hd : Nat.blt d n = true) (h0 : -9223372036854775808 ≤ p + q) (h1 : p + q < 9223372036854775808) (h : OpsE P G R ops n K rest ((d, .int .i64 (p + q)) :: E) M) :
    OpsE P G R ops n K (⟨some d, .binOp .add T x y T', ty, pos, aft, none⟩ :: rest) E M := fun _ _ ha hM => st_add_z (ha.rd hx) (ha.rd hy) h0 h1 (h _ _ (ha.put hd _) hM)
theorem e_mul_z {p q : Int} (hx : rd E x = some (.int .i64 p)) (hy : rd E y = some (.int .i64 q)) (hd : Nat.blt d n = true) (h0 : -9223372036854775808 ≤ p * q) (h1 : p * q < 9223372036854775808) (h : OpsE P G R ops n K rest ((d, .int .i64 (p * q)) :: E) M) :
    OpsE P G R ops n K (⟨some d, .binOp .mul T x y T', ty, pos, aft, none⟩ :: rest) E M := fun _ _ ha hM => st_mul_z (ha.rd hx) (ha.rd hy) h0 h1 (h _ _ (ha.put hd _) hM)
theorem e_buildSl (i : Nat) {zv : Value} {len z : Nat} {e : TypeId} {parts : Array (Nat × Operand)} {pv : List (Nat × Value)} (c : Array Value) (hT : P.underlying T = some (.slice e)) (hs : (P.info? e).map (·.size) = some z) (hz : (P.info? e).bind (·.zero) = some zv)
    (h0 : len * z ≠ 0) (h1 : len * z ≤ 16777216) (hp : rdp E parts.toList = some pv) (hf : Instr.fill (fun i => some (i * z, z)) ((Array.range (len * z)).map (zv.cells[· % zv.cells.size]!)) pv = some c) (hd : Nat.blt d n = true)
    (h : ∀ r, OpsE P G R ops n K rest ((d, .slice (some ⟨r, 0, none⟩) len len) :: E) ((i, some ⟨r, c, e⟩) :: M)) : OpsE P G R ops n K (⟨some d, .buildSlice T len parts, ty, pos, aft, none⟩ :: rest) E M :=
  fun _ _ ha hM => st_buildSl hT hs hz h0 h1 (ha.rdp hp) hf fun r hr => h r _ _ (ha.put hd _) (hM.alloc i ⟨r, c, e⟩ hr)
theorem e_atSl (o' : Nat) {b o j len cap z : Nat} {k : IntKind} {e : TypeId} (hT : P.underlying T = some (.slice e)) (hs : (P.info? e).map (·.size) = some (z + 1)) (hx : rd E x = some (.slice (some ⟨b, o, none⟩) len cap)) (hy : rd E y = some (.int k (j : Int))) (hj : j < len) (ho : o + j * (z + 1) = o')
    (hd : Nat.blt d n = true) (h : OpsE P G R ops n K rest ((d, .pointer (some ⟨b, o', none⟩)) :: E) M) : OpsE P G R ops n K (⟨some d, .indexAddr T x y, ty, pos, aft, none⟩ :: rest) E M :=
  fun _ _ ha hM => st_indexSl hT hs (ha.rd hx) (ha.rd hy) hj (by rw [ho]; exact h _ _ (ha.put hd _) hM)
/-- An operand that is told, or not. -/
def rdo (E : Env) : Option Operand → Option (Option Value)
  | none => some none
  | some x => (rd E x).map some
theorem Fits.rdo {a : Act} (h : Fits n E a) {o : Option Operand} {v : Option Value} (ho : Ytoalabpbohkcjaa.rdo E o = some v) : o.map a.eval = v := by
  cases o with
  | none => simpa [Ytoalabpbohkcjaa.rdo] using ho
  | some x =>
    cases hx : Ytoalabpbohkcjaa.rd E x with
    | none => simp [Ytoalabpbohkcjaa.rdo, hx] at ho
    | some u => simp [Ytoalabpbohkcjaa.rdo, hx] at ho; subst ho; simp [h.rd hx]
theorem e_sliceA (l h : Nat) {b o N z : Nat} {e : TypeId} {lo hi : Option Operand} {vl vh : Option Value} (hT : P.underlying T = some (.array N e)) (hs : (P.info? e).map (·.size) = some z) (hx : rd E x = some (.pointer (some ⟨b, o, none⟩))) (hlo : rdo E lo = some vl) (hhi : rdo E hi = some vh) (hl : isB vl l 0) (hh : isB vh h N)
    (h1 : l ≤ h) (h2 : h ≤ N) (h3 : l < N) (hd : Nat.blt d n = true) (hK : OpsE P G R ops n K rest ((d, .slice (some ⟨b, o + l * z, none⟩) (h - l) (N - l)) :: E) M) : OpsE P G R ops n K (⟨some d, .slice T x lo hi none, ty, pos, aft, none⟩ :: rest) E M :=
  fun _ _ ha hM => st_sliceA hT hs (ha.rd hx) (by rw [ha.rdo hlo]; exact hl) (by rw [ha.rdo hhi]; exact hh) h1 h2 h3 (hK _ _ (ha.put hd _) hM)
theorem e_sliceS (l h : Nat) {b o len cap z : Nat} {e : TypeId} {lo hi : Option Operand} {vl vh : Option Value} (hT : P.underlying T = some (.slice e)) (hs : (P.info? e).map (·.size) = some z) (hx : rd E x = some (.slice (some ⟨b, o, none⟩) len cap)) (hlo : rdo E lo = some vl) (hhi : rdo E hi = some vh) (hl : isB vl l 0) (hh : isB vh h len)
    (h1 : l ≤ h) (h2 : h ≤ cap) (hd : Nat.blt d n = true) (hK : OpsE P G R ops n K rest ((d, .slice (some (if cap = l then ⟨b, o, none⟩ else ⟨b, o + l * z, none⟩)) (h - l) (cap - l)) :: E) M) : OpsE P G R ops n K (⟨some d, .slice T x lo hi none, ty, pos, aft, none⟩ :: rest) E M :=
  fun _ _ ha hM => st_sliceS hT hs (ha.rd hx) (by rw [ha.rdo hlo]; exact hl) (by rw [ha.rdo hhi]; exact hh) h1 h2 (hK _ _ (ha.put hd _) hM)
theorem e_conv_str {b o N len cap i : Nat} {e : TypeId} {f : Nat → Nat} {t : TypeId} (hs : P.underlying T = some (.slice e)) (he : P.underlying e = some (.int .u8)) (ht : P.underlying T' = some .string) (hx : rd E x = some (.slice (some ⟨b, o, none⟩) len cap))
    (hm : lkM M i = some ⟨b, arr .u8 N f, t⟩) (ho : o + len ≤ N) (hd : Nat.blt d n = true) (hq : kconv R T T' = 1) (hX : ∃ js, okX M i js R.X) (h : OpsE P G R ops n K rest ((d, .string (strOfNums ((List.range len).map fun j => (f (o + j) : Int)))) :: E) M) : OpsE P G R ops n K (⟨some d, .convert T T' x, ty, pos, aft, none⟩ :: rest) E M :=
  fun _ _ ha hM => by
    obtain ⟨k, hk⟩ := hM.at hm
    obtain ⟨js, hjs⟩ := hX
    exact st_conv_str hq hs he ht (ha.rd hx) hk (okX_not hM hm hjs) ho (h _ _ (ha.put hd _) hM)
theorem e_eqS {p q : ByteArray} (hx : rd E x = some (.string p)) (hy : rd E y = some (.string q)) (hd : Nat.blt d n = true) (h : OpsE P G R ops n K rest ((d, .bool (p.toList == q.toList)) :: E) M) :
    OpsE P G R ops n K (⟨some d, .binOp .eql T x y T', ty, pos, aft, none⟩ :: rest) E M := fun _ _ ha hM => st_eqS (ha.rd hx) (ha.rd hy) (h _ _ (ha.put hd _) hM)

end Go.Proofs.Ytoalabpbohkcjaa

/-
  The same, over slots and labelled blocks: words of 32 bits, strings, slices; calls that make slices or write.
-/
namespace Go.Proofs.Ytoalabpbohkcjaa
open Go Go.RowKit
section
variable {P : Program} {G : Mem} {R : Reg} {ops : Array Oper} {n : Nat} {K : Env → Mm → Prop} {rest : List Oper} {E : Env} {M : Mm} {d : Nat} {ty : TypeId} {pos : String} {aft : Array Edge}
variable {T T' : TypeId} {x y : Operand}

theorem e_add_w {p q : Nat} (hx : rd E x = some (uw p)) (hy : rd E y = some (uw q)) (hd : Nat.blt d n = true) (h : OpsE P G R ops n K rest ((d, uw ((p + q) % 4294967296)) :: E) M) :
    OpsE P G R ops n K (⟨some d, .binOp .add T x y T', ty, pos, aft, none⟩ :: rest) E M := fun _ _ ha hM => st_add_w (ha.rd hx) (ha.rd hy) (h _ _ (ha.put hd _) hM)
theorem e_sub_w {p q : Nat} (hx : rd E x = some (uw p)) (hy : rd E y = some (uw q)) (hd : Nat.blt d n = true) (hq : q ≤ 4294967296) (h : OpsE P G R ops n K rest ((d, uw ((p + 4294967296 - q) % 4294967296)) :: E) M) :
    OpsE P G R ops n K (⟨some d, .binOp .sub T x y T', ty, pos, aft, none⟩ :: rest) E M := fun _ _ ha hM => st_sub_w (ha.rd hx) (ha.rd hy) hq (h _ _ (ha.put hd _) hM)
theorem e_and_w {p q : Nat} (hx : rd E x = some (uw p)) (hy : rd E y = some (uw q)) (hd : Nat.blt d n = true) (h : OpsE P G R ops n K rest ((d, uw ((p &&& q) % 4294967296)) :: E) M) :
    OpsE P G R ops n K (⟨some d, .binOp .and T x y T', ty, pos, aft, none⟩ :: rest) E M := fun _ _ ha hM => st_and_w (ha.rd hx) (ha.rd hy) (h _ _ (ha.put hd _) hM)
theorem e_or_w {p q : Nat} (hx : rd E x = some (uw p)) (hy : rd E y = some (uw q)) (hd : Nat.blt d n = true) (h : OpsE P G R ops n K rest ((d, uw ((p ||| q) % 4294967296)) :: E) M) :
    OpsE P G R ops n K (⟨some d, .binOp .or T x y T', ty, pos, aft, none⟩ :: rest) E M := fun _ _ ha hM => st_or_w (ha.rd hx) (ha.rd hy) (h _ _ (ha.put hd _) hM)
theorem e_xor_w {p q : Nat} (hx : rd E x = some (uw p)) (hy : rd E y = some (uw q)) (hd : Nat.blt d n = true) (h : OpsE P G R ops n K rest ((d, uw ((p ^^^ q) % 4294967296)) :: E) M) :
    OpsE P G R ops n K (⟨some d, .binOp .xor T x y T', ty, pos, aft, none⟩ :: rest) E M := fun _ _ ha hM => st_xor_w (ha.rd hx) (ha.rd hy) (h _ _ (ha.put hd _) hM)
theorem e_shl_w {k : IntKind} {p s : Nat} (hx : rd E x = some (uw p)) (hy : rd E y = some (.int k (s : Int))) (hd : Nat.blt d n = true) (hs : s ≤ 32) (h : OpsE P G R ops n K rest ((d, uw ((p * 2 ^ s) % 4294967296)) :: E) M) :
    OpsE P G R ops n K (⟨some d, .binOp .shl T x y T', ty, pos, aft, none⟩ :: rest) E M := fun _ _ ha hM => st_shl_w (ha.rd hx) (ha.rd hy) hs (h _ _ (ha.put hd _) hM)
theorem e_shr_w {k : IntKind} {p s : Nat} (hx : rd E x = some (uw p)) (hy : rd E y = some (.int k (s : Int))) (hd : Nat.blt d n = true) (hs : s ≤ 32) (h : OpsE P G R ops n K rest ((d, uw (p / 2 ^ s)) :: E) M) :
    OpsE P G R ops n K (⟨some d, .binOp .shr T x y T', ty, pos, aft, none⟩ :: rest) E M := fun _ _ ha hM => st_shr_w (ha.rd hx) (ha.rd hy) hs (h _ _ (ha.put hd _) hM)
theorem e_conv_w {k : IntKind} {dk : TypeDesc} {p : Nat} (hs : P.underlying T = some dk) (ht : P.underlying T' = some (.int .u32)) (hx : rd E x = some (.int k (p : Int))) (hd : Nat.blt d n = true) (hv : kconv R T T' = 1)
    (h : OpsE P G R ops n K rest ((d, uw (p % 4294967296)) :: E) M) : OpsE P G R ops n K (⟨some d, .convert T T' x, ty, pos, aft, none⟩ :: rest) E M := fun _ _ ha hM => st_conv_w hv hs ht (ha.rd hx) (h _ _ (ha.put hd _) hM)
theorem e_conv_i {k : IntKind} {dk : TypeDesc} {p : Nat} (hs : P.underlying T = some dk) (ht : P.underlying T' = some (.int .i64)) (hx : rd E x = some (.int k (p : Int))) (hd : Nat.blt d n = true) (hv : kconv R T T' = 1) (hp : p < 9223372036854775808)
    (h : OpsE P G R ops n K rest ((d, ii p) :: E) M) : OpsE P G R ops n K (⟨some d, .convert T T' x, ty, pos, aft, none⟩ :: rest) E M := fun _ _ ha hM => st_conv_i hv hs ht (ha.rd hx) hp (h _ _ (ha.put hd _) hM)
theorem e_conv_u8z {k : IntKind} {dk : TypeDesc} {z : Int} (hs : P.underlying T = some dk) (ht : P.underlying T' = some (.int .u8)) (hx : rd E x = some (.int k z)) (hd : Nat.blt d n = true) (hv : kconv R T T' = 1)
    (h : OpsE P G R ops n K rest ((d, by8 (z % 256).toNat) :: E) M) : OpsE P G R ops n K (⟨some d, .convert T T' x, ty, pos, aft, none⟩ :: rest) E M := fun _ _ ha hM => st_conv_u8z hv hs ht (ha.rd hx) (h _ _ (ha.put hd _) hM)

/-! ### Strings -/
theorem e_catS {l k : List Nat} (hx : rd E x = some (sv l)) (hy : rd E y = some (sv k)) (hd : Nat.blt d n = true) (hl : l.length + k.length ≤ 9223372036854775807) (h : OpsE P G R ops n K rest ((d, sv (l ++ k)) :: E) M) :
    OpsE P G R ops n K (⟨some d, .binOp .add T x y T', ty, pos, aft, none⟩ :: rest) E M := fun _ _ ha hM => st_catS (ha.rd hx) (ha.rd hy) hl (h _ _ (ha.put hd _) hM)
theorem e_sliceStr (i j : Nat) {l : List Nat} {lo hi : Option Operand} {vl vh : Option Value} (hT : P.underlying T = some .string) (hx : rd E x = some (sv l)) (hlo : rdo E lo = some vl) (hhi : rdo E hi = some vh) (hl : isB vl i 0) (hh : isB vh j l.length) (h1 : i ≤ j) (h2 : j ≤ l.length) (hd : Nat.blt d n = true)
    (hK : OpsE P G R ops n K rest ((d, sv ((l.drop i).take (j - i))) :: E) M) : OpsE P G R ops n K (⟨some d, .slice T x lo hi none, ty, pos, aft, none⟩ :: rest) E M :=
  fun _ _ ha hM => st_sliceStr hT (ha.rd hx) (by rw [ha.rdo hlo]; exact hl) (by rw [ha.rdo hhi]; exact hh) h1 h2 (hK _ _ (ha.put hd _) hM)
theorem e_idxStr {l : List Nat} {j b : Nat} {k : IntKind} (hT : P.underlying T = some .string) (hx : rd E x = some (sv l)) (hy : rd E y = some (.int k (j : Int))) (hj : l[j]? = some b) (hb : b < 256) (hd : Nat.blt d n = true)
    (h : OpsE P G R ops n K rest ((d, by8 b) :: E) M) : OpsE P G R ops n K (⟨some d, .index T x y, ty, pos, aft, none⟩ :: rest) E M := fun _ _ ha hM => st_idxStr hT (ha.rd hx) (ha.rd hy) hj hb (h _ _ (ha.put hd _) hM)
theorem e_eqStr {l k : List Nat} (hx : rd E x = some (sv l)) (hy : rd E y = some (sv k)) (hd : Nat.blt d n = true) (hl : ∀ b ∈ l, b < 256) (hk : ∀ b ∈ k, b < 256) (h : OpsE P G R ops n K rest ((d, .bool (decide (l = k))) :: E) M) :
    OpsE P G R ops n K (⟨some d, .binOp .eql T x y T', ty, pos, aft, none⟩ :: rest) E M := fun _ _ ha hM => st_eqStr hl hk (ha.rd hx) (ha.rd hy) (h _ _ (ha.put hd _) hM)
theorem e_lenStr {l : List Nat} (hT : P.underlying T = some .string) (hx : rd E x = some (sv l)) (hd : Nat.blt d n = true) (hR : callOk R = true) (h : OpsE P G R ops n K rest ((d, ii l.length) :: E) M) :
    OpsE P G R ops n K (⟨some d, .call ⟨.builtin .len, #[x], #[T]⟩, ty, pos, aft, none⟩ :: rest) E M := fun _ _ ha hM => st_lenStr hR hT (ha.rd hx) (h _ _ (ha.put hd _) hM)

/-! ### Slices that are read -/
def SeenE (G : Mem) (R : Reg) (M : Mm) (B : Mem) : Prop := ∀ z ∈ B, z ∈ G ∨ ∃ i, lkM M i = some z ∧ ∃ js, okX M i js R.X
theorem SeenE.seen {B : Mem} (h : SeenE G R M B) {m : Mem} (hM : FitsM M m) : Seen G R m B := fun z hz => by
  rcases h z hz with h1 | ⟨i, h1, js, h2⟩
  · exact .inl h1
  · exact .inr ⟨hM.has i z h1, okX_not hM h1 h2⟩
theorem seenG : SeenE G R M G := fun _ hz => .inl hz
theorem seenM (i : Nat) {oz : Option Blk} (hi : lkM M i = oz) (hX : ∃ js, okX M i js R.X) : SeenE G R M oz.toList := fun z hz => by
  have : oz = some z := by simpa using hz
  exact .inr ⟨i, hi.trans this, hX⟩
theorem seen1 (i : Nat) {z : Blk} (hi : lkM M i = some z) (hX : ∃ js, okX M i js R.X) : SeenE G R M [z] := fun q hq => by
  simp at hq; subst hq
  exact .inr ⟨i, hi, hX⟩
theorem e_lenV {e : TypeId} {v : Value} {B : Mem} {z k : Nat} {xs : List Value} (hv : Shows B z v k xs) (hT : P.underlying T = some (.slice e)) (hx : rd E x = some v) (hd : Nat.blt d n = true) (hR : callOk R = true) (h : OpsE P G R ops n K rest ((d, ii k) :: E) M) :
    OpsE P G R ops n K (⟨some d, .call ⟨.builtin .len, #[x], #[T]⟩, ty, pos, aft, none⟩ :: rest) E M := fun _ _ ha hM => st_lenS hR hT (ha.rd hx) hv (h _ _ (ha.put hd _) hM)
theorem e_min {k k' : IntKind} {p q : Nat} (hx : rd E x = some (.int k (p : Int))) (hy : rd E y = some (.int k' (q : Int))) (hd : Nat.blt d n = true) (hR : callOk R = true) (h : OpsE P G R ops n K rest ((d, .int k ((min p q : Nat) : Int)) :: E) M) :
    OpsE P G R ops n K (⟨some d, .call ⟨.builtin .min, #[x, y], #[T, T']⟩, ty, pos, aft, none⟩ :: rest) E M := fun _ _ ha hM => st_min hR (ha.rd hx) (ha.rd hy) (h _ _ (ha.put hd _) hM)
theorem e_atV {e : TypeId} {k : IntKind} {v : Value} {B : Mem} {z l j : Nat} {xs : List Value} (hv : Shows B z v l xs) (hT : P.underlying T = some (.slice e)) (hs : (P.info? e).map (·.size) = some z) (hx : rd E x = some v) (hy : rd E y = some (.int k (j : Int))) (hj : j < l) (hd : Nat.blt d n = true)
    (h : OpsE P G R ops n K rest ((d, slAddr v (j * z)) :: E) M) : OpsE P G R ops n K (⟨some d, .indexAddr T x y, ty, pos, aft, none⟩ :: rest) E M := fun _ _ ha hM => st_atV hT hs (ha.rd hx) (ha.rd hy) hv hj (h _ _ (ha.put hd _) hM)
theorem e_loadV {td : TypeDesc} {v u : Value} {B : Mem} {l j : Nat} {xs : List Value} (hv : Shows B 1 v l xs) (hB : SeenE G R M B) (hT : P.underlying T = some td) (hn : rowLike td = false) (hx : rd E x = some (slAddr v j)) (hj : xs[j]? = some u) (hd : Nat.blt d n = true)
    (h : OpsE P G R ops n K rest ((d, u) :: E) M) : OpsE P G R ops n K (⟨some d, .load T x, ty, pos, aft, none⟩ :: rest) E M := fun _ _ ha hM => st_loadV (hB.seen hM) hT hn (ha.rd hx) hv hj (h _ _ (ha.put hd _) hM)
theorem e_sliceV (i j : Nat) {e : TypeId} {v : Value} {B : Mem} {z l : Nat} {xs : List Value} {lo hi : Option Operand} {vl vh : Option Value} (hv : Shows B z v l xs) (hT : P.underlying T = some (.slice e)) (hs : (P.info? e).map (·.size) = some z) (hx : rd E x = some v) (hlo : rdo E lo = some vl) (hhi : rdo E hi = some vh) (hl : isB vl i 0) (hh : isB vh j l)
    (h1 : i ≤ j) (h2 : j ≤ l) (hd : Nat.blt d n = true) (hK : OpsE P G R ops n K rest ((d, slPart z v i j) :: E) M) : OpsE P G R ops n K (⟨some d, .slice T x lo hi none, ty, pos, aft, none⟩ :: rest) E M :=
  fun _ _ ha hM => st_sliceV hT hs (ha.rd hx) hv (by rw [ha.rdo hlo]; exact hl) (by rw [ha.rdo hhi]; exact hh) h1 h2 (hK _ _ (ha.put hd _) hM)
theorem e_conv_strV {e : TypeId} {v : Value} {B : Mem} {l : List Nat} (hv : Shows B 1 v l.length (l.map by8)) (hB : SeenE G R M B) (hs : P.underlying T = some (.slice e)) (he : P.underlying e = some (.int .u8)) (ht : P.underlying T' = some .string) (hx : rd E x = some v) (hd : Nat.blt d n = true) (hq : kconv R T T' = 1)
    (h : OpsE P G R ops n K rest ((d, sv l) :: E) M) : OpsE P G R ops n K (⟨some d, .convert T T' x, ty, pos, aft, none⟩ :: rest) E M := fun _ _ ha hM => st_conv_strV hq (hB.seen hM) hs he ht (ha.rd hx) hv (h _ _ (ha.put hd _) hM)

/-! ### Makes, writes -/
theorem e_make (i : Nat) {e : TypeId} {kl kc k : IntKind} {l b : Nat} {z : Value} (hT : P.underlying T = some (.slice e)) (hs : (P.info? e).map (·.size) = some 1) (hb : (P.info? e).map (·.bytes) = some b) (hz : (P.info? e).bind (·.zero) = some z) (hzc : z.cells = #[.int k 0])
    (hx : rd E x = some (.int kl (l : Int))) (hy : rd E y = some (.int kc (l : Int))) (hn : b * l ≤ 281474976710656) (h63 : l ≤ 9223372036854775807) (hd : Nat.blt d n = true)
    (h : ∀ r, OpsE P G R ops n K rest ((d, .slice (some ⟨r, 0, none⟩) l l) :: E) ((i, some ⟨r, arr k l (fun _ => 0), e⟩) :: M)) : OpsE P G R ops n K (⟨some d, .makeSlice T x y, ty, pos, aft, none⟩ :: rest) E M :=
  fun _ _ ha hM => st_make hT hs hb hz hzc (ha.rd hx) (ha.rd hy) hn h63 fun r hr => h r _ _ (ha.put hd _) (hM.alloc i ⟨r, _, e⟩ hr)
theorem FitsM.change {m m' : Mem} (hM : FitsM M m) (i : Nat) {oz : Option Blk} (h1 : ∀ j x, j ≠ i → lkM M j = some x → x ∈ m') (h2 : ∀ z, oz = some z → z ∈ m' ∧ ∀ j x, j ≠ i → lkM M j = some x → x.b ≠ z.b) : FitsM ((i, oz) :: M) m' := by
  refine ⟨fun j x hx => ?_, fun j k x z hx hz hne => ?_⟩
  · rw [lkM_cons] at hx
    split at hx
    · exact (h2 x hx).1
    · rename_i hne; exact h1 j x (fun e => hne e.symm) hx
  · rw [lkM_cons] at hx hz
    split at hx
    · split at hz
      · rename_i e1 e2; exact absurd (e1.symm.trans e2) hne
      · rename_i e2; exact fun e => (h2 x hx).2 k z (fun e' => e2 e'.symm) hz e.symm
    · split at hz
      · rename_i e1 _; exact (h2 z hz).2 j x (fun e' => e1 e'.symm) hx
      · exact hM.apart j k x z hx hz hne
theorem FitsM.others {m lr : Mem} (hM : FitsM M m) {i : Nat} {oz : Option Blk} (hi : lkM M i = oz) (hp : List.Perm m (oz.toList ++ lr)) : ∀ j x, j ≠ i → lkM M j = some x → x ∈ lr := fun j x hne hx => by
  have hm := hp.mem_iff.1 (hM.has j x hx)
  rcases List.mem_append.1 hm with h | h
  · have : oz = some x := by simpa using h
    exact absurd rfl (hM.apart j i x x hx (hi.trans this) hne)
  · exact h
theorem FitsM.perm1 {m : Mem} (hM : FitsM M m) {i : Nat} {oz : Option Blk} (hi : lkM M i = oz) : ∃ lr, List.Perm m (oz.toList ++ lr) := by
  cases oz with
  | none => exact ⟨m, by simp⟩
  | some z =>
    obtain ⟨l1, l2, h⟩ := List.append_of_mem (hM.has i z hi)
    exact ⟨l1 ++ l2, by rw [h]; simp⟩
theorem FitsM.same {m lr : Mem} (hM : FitsM M m) {i : Nat} {oz oz' : Option Blk} (hi : lkM M i = oz) (hp : List.Perm m (oz.toList ++ lr)) (hid : oz'.toList.map (·.b) = oz.toList.map (·.b)) : FitsM ((i, oz') :: M) (oz'.toList ++ lr) :=
  hM.change i (fun j x hne hx => List.mem_append_right _ (hM.others hi hp j x hne hx)) fun z hz => ⟨by subst hz; simp, fun j x hne hx => by
    subst hz
    cases oz with
    | none => simp at hid
    | some q =>
      simp at hid
      rw [hid]; exact hM.apart j i x q hx hi hne⟩
theorem FitsM.fresh {m lr : Mem} (hM : FitsM M m) (i : Nat) {oz : Option Blk} {l0 : Mem} (hp : List.Perm m (l0 ++ lr)) (hf : FreshM m oz.toList) : FitsM ((i, oz) :: M) (l0 ++ lr ++ oz.toList) :=
  hM.change i (fun j x _ hx => List.mem_append_left _ (hp.mem_iff.1 (hM.has j x hx))) fun z hz => ⟨by subst hz; simp, fun j x _ hx => hf.2 z (by subst hz; simp) x (hM.has j x hx)⟩
theorem e_copyStr {e : TypeId} {b o N dl cap i : Nat} {f : Nat → Nat} {t : TypeId} {l : List Nat} (hT : P.underlying T = some (.slice e)) (hs : (P.info? e).map (·.size) = some 1) (hx : rd E x = some (.slice (some ⟨b, o, none⟩) dl cap)) (hy : rd E y = some (sv l)) (hl : ∀ q ∈ l, q < 256)
    (hm : lkM M i = some ⟨b, arr .u8 N f, t⟩) (ho : o + dl ≤ N) (hd : Nat.blt d n = true)
    (h : OpsE P G R ops n K rest ((d, ii (min l.length dl)) :: E) ((i, some ⟨b, arr .u8 N (fun j => if o ≤ j ∧ j < o + min l.length dl then l.getD (j - o) 0 else f j), t⟩) :: M)) : OpsE P G R ops n K (⟨some d, .call ⟨.builtin .copy, #[x, y], #[T, T']⟩, ty, pos, aft, none⟩ :: rest) E M :=
  fun _ _ ha hM => by
    obtain ⟨k, hk⟩ := hM.at hm
    exact st_copyStr hT hs (ha.rd hx) (ha.rd hy) hl hk ho fun lr hp => h _ _ (ha.put hd _) (hM.same (oz' := some _) hm (by simpa using hp) rfl)
theorem own_opt {e : TypeId} {z k : Nat} {v : Value} {xs : List Value} {l : Mem} (h : OwnS e z v k xs l) : ∃ oz : Option Blk, l = oz.toList := by
  rcases h with ⟨_, _, _, rfl⟩ | ⟨r, cap, c, _, rfl, _⟩
  · exact ⟨none, rfl⟩
  · exact ⟨some _, rfl⟩
theorem e_append (i : Nat) {e : TypeId} {z l k bytes : Nat} {zv v vy : Value} {xs news : List Value} {oz : Option Blk} {B : Mem} (hown : OwnS e z v l xs oz.toList) (hsrc : Shows B z vy k news) (hi : lkM M i = oz) (hB : SeenE G R M B)
    (hT : P.underlying T = some (.slice e)) (hs : (P.info? e).map (·.size) = some z) (hb : (P.info? e).map (·.bytes) = some bytes) (hz : (P.info? e).bind (·.zero) = some zv) (hzs : zv.cells.size = z)
    (hx : rd E x = some v) (hy : rd E y = some vy) (h1 : ∀ u ∈ news, u.oneCell' = true) (h63 : l + k ≤ maxLen) (hbytes : (l + k) * bytes ≤ 140737488355328) (hd : Nat.blt d n = true)
    (h : ∀ v' (oz' : Option Blk), OwnS e z v' (l + k) (xs ++ news) oz'.toList → OpsE P G R ops n K rest ((d, v') :: E) ((i, oz') :: M)) : OpsE P G R ops n K (⟨some d, .call ⟨.builtin .append, #[x, y], #[T, T]⟩, ty, pos, aft, none⟩ :: rest) E M :=
  fun _ m ha hM => by
    obtain ⟨lr, hp⟩ := hM.perm1 hi
    refine st_append hT hs hb hz hzs (ha.rd hx) (ha.rd hy) hown hp hsrc (fun q hq => ?_) h1 h63 hbytes fun v' l' ho => ?_
    · rcases hB q hq with h2 | ⟨j, h2, _⟩
      · exact .inl h2
      · exact .inr (hM.has j q h2)
    · obtain ⟨oz', rfl⟩ := own_opt ho
      refine ⟨fun hid => ?_, fun hf => ?_⟩
      · simpa using h v' oz' ho _ _ (ha.put hd _) (hM.same hi hp hid)
      · exact h v' oz' ho _ _ (ha.put hd _) (hM.fresh i hp hf)
theorem subM_opt {oz : Option Blk} {i : Nat} (hi : lkM M i = oz) : subM oz.toList M := by
  cases oz with
  | none => trivial
  | some z => exact ⟨⟨i, hi⟩, trivial⟩
theorem subM_app : ∀ {g g' : Mem}, subM g M → subM g' M → subM (g ++ g') M
  | [], _, _, h => h
  | _ :: _, _, ⟨h1, h2⟩, h => ⟨h1, subM_app h2 h⟩
/-- A call that makes a slice, mk of which is its value. -/
theorem e_callN (i : Nat) (mk : Value → Value) {fo : Operand} {f : FuncId} {args : Array Operand} {tys : Array TypeId} {vs cap : List Value} {g' : Mem} {e : TypeId} {z k : Nat} {xs : List Value} (hf : rd E fo = some (.func (.func f) #[] cap.toArray)) (hargs : rdl E args.toList = some vs) (he : enters P f = true) (hg : SeenE G R M g')
    (hF : Fx P g' [] f (vs ++ cap).toArray (fun v l1 nw => l1 = [] ∧ ∃ v', v = mk v' ∧ OwnS e z v' k xs nw)) (hk : k ≤ maxLen) (hkx : xs.length = k * z) (hd : Nat.blt d n = true) (hR : callMk R = true)
    (h : ∀ v' (oz : Option Blk), OwnS e z v' k xs oz.toList → OpsE P G R ops n K rest ((d, mk v') :: E) ((i, oz) :: M)) : OpsE P G R ops n K (⟨some d, .call ⟨.value fo, args, tys⟩, ty, pos, aft, none⟩ :: rest) E M :=
  fun _ m ha hM => by
    refine st_callN hR (S := fun v nw => ∃ v', v = mk v' ∧ OwnS e z v' k xs nw) (ha.rd hf) (ha.args hargs) he (by simpa using hF) ?_ (fun w hG hv q hq => (hg.seen hM).rin hG hv hq) ?_
    · intro m'
      obtain ⟨r, hr⟩ := fresh_of m'
      exact ⟨_, [⟨r, xs.toArray, e⟩], ⟨.slice (some ⟨r, 0, none⟩) k k, rfl, .inr ⟨r, k, xs.toArray, rfl, rfl, Nat.le_refl _, hk, by simpa using hkx, hkx, by rw [← hkx]; exact List.take_length⟩⟩, by simp, by simpa using hr⟩
    · rintro v nw ⟨v', rfl, ho⟩ hfr
      obtain ⟨oz, rfl⟩ := own_opt ho
      have := hM.fresh i (l0 := []) (lr := m) (by simp) hfr
      exact h v' oz ho _ _ (ha.put hd _) (by simpa using this)
/-- A call that writes one block. -/
theorem e_callW (i : Nat) {fo : Operand} {f : FuncId} {args : Array Operand} {tys : Array TypeId} {vs cap : List Value} {g' : Mem} {b : Nat} {c c' : Array Value} {t : TypeId} {v : Value} (hf : rd E fo = some (.func (.func f) #[] cap.toArray)) (hargs : rdl E args.toList = some vs) (he : enters P f = true)
    (hm : lkM M i = some ⟨b, c, t⟩) (hg : ∀ z ∈ g', z ∈ G ∨ ∃ j, j ≠ i ∧ lkM M j = some z) (hF : Fx P g' [⟨b, c, t⟩] f (vs ++ cap).toArray (fun v' l1 nw => v' = v ∧ l1 = [⟨b, c', t⟩] ∧ nw = [])) (hd : Nat.blt d n = true) (hR : R.c = 5)
    (h : OpsE P G R ops n K rest ((d, v) :: E) ((i, some ⟨b, c', t⟩) :: M)) : OpsE P G R ops n K (⟨some d, .call ⟨.value fo, args, tys⟩, ty, pos, aft, none⟩ :: rest) E M :=
  fun _ m ha hM => by
    obtain ⟨lr, hp⟩ := hM.perm1 hm
    refine st_callX hR (S := fun v' l1 nw => v' = v ∧ l1 = [⟨b, c', t⟩] ∧ nw = []) (ha.rd hf) (ha.args hargs) he (by simpa using hF) (lr := lr) (by simpa using hp) ⟨v, _, [], ⟨rfl, rfl, rfl⟩, by simp, by simp⟩ ?_ (fun w hG hw z hz => ?_) (by simp) (fun hA z hz => ?_) ?_
    · rintro v' l1 nw ⟨_, rfl, _⟩; rfl
    · rcases hg z hz with h1 | ⟨j, _, h1⟩
      · exact hG z h1
      · exact (hw z (hM.has j z h1)).read
    · rcases hg z hz with h1 | ⟨j, hne, h1⟩
      · simpa using hA z h1 ⟨b, c, t⟩ (hM.has i _ hm)
      · simpa using hM.apart j i z _ h1 hm hne
    · rintro v' l1 nw ⟨rfl, rfl, rfl⟩ _
      have := hM.same (oz' := some ⟨b, c', t⟩) hm hp rfl
      exact h _ _ (ha.put hd _) (by simpa using this)
end

/-! ### A function's end -/
section
variable {P : Program} {G : Mem} {n : Nat}
theorem mapM0 (f : ResultVar → Sem Value) : Array.mapM f #[] = pure #[] := by
  rw [Array.mapM_eq_mapM_toList]; simp
/-- A function that writes one block and answers nothing. -/
def EndW (b : Nat) (c' : Array Value) (t : TypeId) (fn : Func) : Exit → Env → Mm → Prop
  | .normal, _, M | .ret, _, M => fn.results = #[] ∧ ∃ i, lkM M i = some ⟨b, c', t⟩
  | _, _, _ => False
theorem fxW {f : FuncId} {fn : Func} {c : Code} {args : Array Value} {b : Nat} {c0 c' : Array Value} {t : TypeId} (hf : P.funcs[f]? = some fn) (hb : fn.body = some c) (hn : fn.ntmps = n) (ha : args.size ≤ n) (E : Env) (hE : ∀ t v, lk E t = some v → args[t]? = some v)
    (h : SatE P G c n (EndW b c' t fn) E [(0, some ⟨b, c0, t⟩)]) : Fx P G [⟨b, c0, t⟩] f args (fun v' l1 nw => v' = .tuple #[] ∧ l1 = [⟨b, c', t⟩] ∧ nw = []) :=
  fx_of hf hb (sat_mono (h _ [⟨b, c0, t⟩] ⟨by simp [hn]; omega, rfl, fun t v ht => by
    have := hE t v ht
    have hlt := (Array.getElem?_eq_some_iff.1 this).1
    rw [Array.getElem?_append_left hlt]; exact this⟩ ⟨fun i x hx => by
      rw [lkM_cons] at hx
      split at hx
      · cases hx; simp
      · simp [lkM] at hx, fun i j x y hx hy hne => by
      rw [lkM_cons] at hx hy
      split at hx
      · split at hy
        · rename_i e1 e2; exact absurd (e1.symm.trans e2) hne
        · simp [lkM] at hy
      · simp [lkM] at hx⟩) fun e a m ⟨E', M', h1, h0, h2⟩ => by
      have key : (fn.results = #[] ∧ ∃ i, lkM M' i = some ⟨b, c', t⟩) → a.defers = [] ∧ ∃ v l1 nw, (v = Value.tuple #[] ∧ l1 = [(⟨b, c', t⟩ : Blk)] ∧ nw = ([] : Mem)) ∧ (nw.map (·.b)).Nodup ∧ (∀ x ∈ nw, x.b ∉ [(⟨b, c0, t⟩ : Blk)].map (·.b)) ∧ (∀ x ∈ l1 ++ nw, x ∈ m) ∧ ∀ w, MemIn m w → (results fn a.tmps).run P w = .ok v w := fun ⟨hr, i, hi⟩ =>
        ⟨h1.defers, _, _, _, ⟨rfl, rfl, rfl⟩, by simp, by simp, fun x hx => by
          simp at hx; subst hx; exact h0.has i _ hi, fun w _ => by
          rw [results_eq, hr, mapM0]
          simp⟩
      cases e <;> first | exact key h2 | exact h2.elim)
/-- A function that makes a slice: one result. -/
def EndN (P : Program) (e : TypeId) (z k : Nat) (xs : List Value) (fn : Func) : Exit → Env → Mm → Prop
  | .normal, E, M | .ret, E, M => ∃ r v oz i, fn.results = #[r] ∧ Res P E M r v ∧ OwnS e z v k xs (Option.toList oz) ∧ lkM M i = oz
  | _, _, _ => False
/-- The same: the slice, and a number. -/
def EndN2 (P : Program) (e : TypeId) (z k : Nat) (xs : List Value) (u : Value) (fn : Func) : Exit → Env → Mm → Prop
  | .normal, E, M | .ret, E, M => ∃ r r' v oz i, fn.results = #[r, r'] ∧ Res P E M r v ∧ Res P E M r' u ∧ OwnS e z v k xs (Option.toList oz) ∧ lkM M i = oz
  | _, _, _ => False
theorem own_nd {e : TypeId} {z k : Nat} {v : Value} {xs : List Value} {l : Mem} (h : OwnS e z v k xs l) : (l.map (·.b)).Nodup := by
  rcases h with ⟨_, _, _, rfl⟩ | ⟨r, cap, c, _, rfl, _⟩ <;> simp
theorem fxN {f : FuncId} {fn : Func} {c : Code} {args : Array Value} {e : TypeId} {z k : Nat} {xs : List Value} (hf : P.funcs[f]? = some fn) (hb : fn.body = some c) (hn : fn.ntmps = n) (ha : args.size ≤ n) (E : Env) (hE : ∀ t v, lk E t = some v → args[t]? = some v)
    (h : SatE P G c n (EndN P e z k xs fn) E []) : Fx P G [] f args (fun v l1 nw => l1 = [] ∧ ∃ v', v = v' ∧ OwnS e z v' k xs nw) :=
  fx_of hf hb (sat_mono (h _ [] ⟨by simp [hn]; omega, rfl, fun t v ht => by
    have := hE t v ht
    have hlt := (Array.getElem?_eq_some_iff.1 this).1
    rw [Array.getElem?_append_left hlt]; exact this⟩ (FitsM.nil _)) fun e' a m ⟨E', M', h1, h0, h2⟩ => by
      have key : (∃ r v oz i, fn.results = #[r] ∧ Res P E' M' r v ∧ OwnS e z v k xs (Option.toList oz) ∧ lkM M' i = oz) → a.defers = [] ∧ ∃ v l1 nw, (l1 = [] ∧ ∃ v', v = v' ∧ OwnS e z v' k xs nw) ∧ (nw.map (·.b)).Nodup ∧ (∀ x ∈ nw, x.b ∉ ([] : Mem).map (·.b)) ∧ (∀ x ∈ l1 ++ nw, x ∈ m) ∧ ∀ w, MemIn m w → (results fn a.tmps).run P w = .ok v w := fun ⟨r, v, oz, i, hr, hR, ho, hi⟩ =>
        ⟨h1.defers, v, [], oz.toList, ⟨rfl, v, rfl, ho⟩, own_nd ho, by simp, fun x hx => by
          have : oz = some x := by simpa using hx
          exact h0.has i x (hi.trans this), fun w hw => by
          have := res_run h1 h0 hw hR
          rw [results_eq, hr, mapM1]
          simp [this]⟩
      cases e' <;> first | exact key h2 | exact h2.elim)
theorem fxN2 {f : FuncId} {fn : Func} {c : Code} {args : Array Value} {e : TypeId} {z k : Nat} {xs : List Value} {u : Value} (hf : P.funcs[f]? = some fn) (hb : fn.body = some c) (hn : fn.ntmps = n) (ha : args.size ≤ n) (E : Env) (hE : ∀ t v, lk E t = some v → args[t]? = some v)
    (h : SatE P G c n (EndN2 P e z k xs u fn) E []) : Fx P G [] f args (fun v l1 nw => l1 = [] ∧ ∃ v', v = .tuple #[v', u] ∧ OwnS e z v' k xs nw) :=
  fx_of hf hb (sat_mono (h _ [] ⟨by simp [hn]; omega, rfl, fun t v ht => by
    have := hE t v ht
    have hlt := (Array.getElem?_eq_some_iff.1 this).1
    rw [Array.getElem?_append_left hlt]; exact this⟩ (FitsM.nil _)) fun e' a m ⟨E', M', h1, h0, h2⟩ => by
      have key : (∃ r r' v oz i, fn.results = #[r, r'] ∧ Res P E' M' r v ∧ Res P E' M' r' u ∧ OwnS e z v k xs (Option.toList oz) ∧ lkM M' i = oz) → a.defers = [] ∧ ∃ v l1 nw, (l1 = [] ∧ ∃ v', v = Value.tuple #[v', u] ∧ OwnS e z v' k xs nw) ∧ (nw.map (·.b)).Nodup ∧ (∀ x ∈ nw, x.b ∉ ([] : Mem).map (·.b)) ∧ (∀ x ∈ l1 ++ nw, x ∈ m) ∧ ∀ w, MemIn m w → (results fn a.tmps).run P w = .ok v w := fun ⟨r, r', v, oz, i, hr, hR, hR', ho, hi⟩ =>
        ⟨h1.defers, .tuple #[v, u], [], oz.toList, ⟨rfl, v, rfl, ho⟩, own_nd ho, by simp, fun x hx => by
          have : oz = some x := by simpa using hx
          exact h0.has i x (hi.trans this), fun w hw => by
          have := res_run h1 h0 hw hR
          have t' := res_run h1 h0 hw hR'
          rw [results_eq, hr, mapM2]
          simp [this, t']⟩
      cases e' <;> first | exact key h2 | exact h2.elim)
end
end Go.Proofs.Ytoalabpbohkcjaa

/-
  ChaCha20 in plain numbers, as the document's answer reckons it. Plain arithmetic.
-/
namespace Go.Proofs.Ytoalabpbohkcjaa
open Go Go.RowKit

def rotl (n b : Nat) : Nat := (n * 2 ^ b % 4294967296 ||| n / 2 ^ (32 - b)) % 4294967296
def qrt (a b d e : Nat) : Nat × Nat × Nat × Nat :=
  let a1 := (a + b) % 4294967296
  let e1 := rotl ((e ^^^ a1) % 4294967296) 16
  let d1 := (d + e1) % 4294967296
  let b1 := rotl ((b ^^^ d1) % 4294967296) 12
  let a2 := (a1 + b1) % 4294967296
  let e2 := rotl ((e1 ^^^ a2) % 4294967296) 8
  let d2 := (d1 + e2) % 4294967296
  let b2 := rotl ((b1 ^^^ d2) % 4294967296) 7
  (a2, b2, d2, e2)
def rnd (f : Nat → Nat) (t : Nat) : Nat :=
  let q := qrt (f (t % 4)) (f (4 + t % 4)) (f (8 + t % 4)) (f (12 + t % 4))
  if t < 4 then q.1 else if t < 8 then q.2.1 else if t < 12 then q.2.2.1 else q.2.2.2
def sh1 (f : Nat → Nat) (t : Nat) : Nat := f (4 * (t / 4) + (t % 4 + 4 + 1 * (t / 4)) % 4)
def shm (f : Nat → Nat) (t : Nat) : Nat := f (4 * (t / 4) + (t % 4 + 4 - t / 4) % 4)
def dbl (f : Nat → Nat) : Nat → Nat := shm (rnd (sh1 (rnd f)))
def dbls (f : Nat → Nat) : Nat → Nat → Nat
  | 0 => f
  | k + 1 => dbl (dbls f k)
theorem rnd_step {f s : Nat → Nat} {k : Nat} (hk : k < 4) (hs : ∀ t, t < 16 → s t = if t % 4 < k then rnd f t else f t) (q : Nat × Nat × Nat × Nat) (hq : q = qrt (s k) (s (4 + k)) (s (8 + k)) (s (12 + k))) :
    ∀ t, t < 16 → upd (upd (upd (upd s k q.1) (4 + k) q.2.1) (8 + k) q.2.2.1) (12 + k) q.2.2.2 t = if t % 4 < k + 1 then rnd f t else f t := by
  have e0 : s k = f k := by rw [hs k (by omega), if_neg (by omega)]
  have e1 : s (4 + k) = f (4 + k) := by rw [hs _ (by omega), if_neg (by omega)]
  have e2 : s (8 + k) = f (8 + k) := by rw [hs _ (by omega), if_neg (by omega)]
  have e3 : s (12 + k) = f (12 + k) := by rw [hs _ (by omega), if_neg (by omega)]
  rw [e0, e1, e2, e3] at hq
  intro t ht
  by_cases hm : t % 4 = k
  · rw [if_pos (by omega)]
    unfold rnd
    rw [hm, ← hq]
    unfold upd
    have : t = k ∨ t = 4 + k ∨ t = 8 + k ∨ t = 12 + k := by omega
    rcases this with h | h | h | h
    · rw [if_neg (by omega), if_neg (by omega), if_neg (by omega), if_pos h, if_pos (by omega)]
    · rw [if_neg (by omega), if_neg (by omega), if_pos h, if_neg (by omega), if_pos (by omega)]
    · rw [if_neg (by omega), if_pos h, if_neg (by omega), if_neg (by omega), if_pos (by omega)]
    · rw [if_pos h, if_neg (by omega), if_neg (by omega), if_neg (by omega)]
  · unfold upd
    rw [if_neg (by omega), if_neg (by omega), if_neg (by omega), if_neg (by omega), hs t ht]
    by_cases hlt : t % 4 < k
    · rw [if_pos hlt, if_pos (by omega)]
    · rw [if_neg hlt, if_neg (by omega)]
theorem rnd_end {f s : Nat → Nat} (hs : ∀ t, t < 16 → s t = if t % 4 < 4 then rnd f t else f t) : arr .u32 16 s = arr .u32 16 (rnd f) := arr_congr fun t ht => by
  rw [hs t ht, if_pos (by omega)]
theorem rotl_lt (n b : Nat) : rotl n b < 4294967296 := Nat.mod_lt _ (by decide)
theorem rnd_lt (f : Nat → Nat) (t : Nat) : rnd f t < 4294967296 := by
  unfold rnd qrt
  simp only
  split
  · exact Nat.mod_lt _ (by decide)
  · split
    · exact rotl_lt _ _
    · split
      · exact Nat.mod_lt _ (by decide)
      · exact rotl_lt _ _
theorem sh_at (g : (Nat → Nat) → Nat → Nat) (f s : Nat → Nat) {k j v : Nat} (hv : v = g f (4 * k + j)) (hs : ∀ t, t < 4 * k + j → s t = g f t) : ∀ t, t < 4 * k + (j + 1) → upd s (4 * k + j) v t = g f t := fun t ht => by
  unfold upd; split
  · rename_i h; rw [hv, h]
  · exact hs t (by omega)
theorem sh1_v (f : Nat → Nat) {k j : Nat} (hj : j < 4) : f (4 * k + (j + 4 + 1 * k) % 4) = sh1 f (4 * k + j) := by
  unfold sh1
  rw [show (4 * k + j) / 4 = k by omega, show (4 * k + j) % 4 = j by omega]
theorem shm_v (f : Nat → Nat) {k j : Nat} (hj : j < 4) : f (4 * k + (j + 4 - k) % 4) = shm f (4 * k + j) := by
  unfold shm
  rw [show (4 * k + j) / 4 = k by omega, show (4 * k + j) % 4 = j by omega]

/-! ### Numbers as bytes -/
def lowl (n k : Nat) : List Nat := (List.range k).map fun i => n / 256 ^ i % 256
theorem lowl_len (n k : Nat) : (lowl n k).length = k := by simp [lowl]
theorem lowl_succ (n k : Nat) : lowl n k ++ [n / 256 ^ k % 256] = lowl n (k + 1) := by
  unfold lowl; rw [List.range_succ, List.map_append]; rfl
theorem lowl_lt (n k : Nat) : ∀ b ∈ lowl n k, b < 256 := fun b hb => by
  obtain ⟨i, _, rfl⟩ := List.mem_map.1 hb
  exact Nat.mod_lt _ (by decide)
def leN : List Nat → Nat
  | [] => 0
  | b :: l => b + 256 * leN l
theorem leN_lt : ∀ (l : List Nat), (∀ b ∈ l, b < 256) → leN l < 256 ^ l.length
  | [], _ => by simp [leN]
  | b :: l, h => by
    have h1 := leN_lt l (fun x hx => h x (by simp [hx]))
    have h2 := h b (by simp)
    rw [List.length_cons, Nat.pow_succ]
    unfold leN
    omega
theorem leN_drop {l : List Nat} {i : Nat} (hi : i < l.length) : leN (l.drop i) = leN (l.drop (i + 1)) * 256 + l[i] := by
  rw [List.drop_eq_getElem_cons hi]
  show l[i] + 256 * leN (l.drop (i + 1)) = _
  omega
theorem leN_small {l : List Nat} (hl : l.length ≤ 8) (hb : ∀ b ∈ l, b < 256) (i : Nat) : leN (l.drop (i + 1)) < 72057594037927936 := by
  have h1 := leN_lt (l.drop (i + 1)) (fun b h => hb b (List.mem_of_mem_drop h))
  have h2 : (l.drop (i + 1)).length ≤ 7 := by simp; omega
  have h3 : 256 ^ (l.drop (i + 1)).length ≤ 256 ^ 7 := Nat.pow_le_pow_right (by decide) h2
  have h4 : 256 ^ 7 = 72057594037927936 := by decide
  omega

end Go.Proofs.Ytoalabpbohkcjaa

/-
  Walks, written by a program of ours off the loaded functions.
-/
namespace Go.Proofs.Ytoalabpbohkcjaa
open Go Go.RowKit


theorem mixed : Try.prog.follows .mixedOrders = true := by kernel_rfl
theorem ent52 : enters Try.prog 52 = true := by kernel_rfl
theorem siz5 : (Try.prog.info? 5).map (·.size) = some 1 := by kernel_rfl
theorem siz41 : (Try.prog.info? 41).map (·.size) = some 1 := by kernel_rfl
theorem siz69 : (Try.prog.info? 69).map (·.size) = some 4 := by kernel_rfl
theorem siz70 : (Try.prog.info? 70).map (·.size) = some 16 := by kernel_rfl
theorem und5 : Try.prog.underlying 5 = some (.int .u8) := by kernel_rfl
theorem und9 : Try.prog.underlying 9 = some (.string) := by kernel_rfl
theorem und24 : Try.prog.underlying 24 = some (.slice 5) := by kernel_rfl
theorem und41 : Try.prog.underlying 41 = some (.int .u32) := by kernel_rfl
theorem und52 : Try.prog.underlying 52 = some (.int .u64) := by kernel_rfl
theorem und69 : Try.prog.underlying 69 = some (.array 4 41) := by kernel_rfl
theorem und70 : Try.prog.underlying 70 = some (.array 4 69) := by kernel_rfl
theorem zer5 : (Try.prog.info? 5).bind (·.zero) = some (.int .u8 0) := by kernel_rfl
theorem zer70 : (Try.prog.info? 70).bind (·.zero) = some (.agg (arr .u32 16 fun _ => 0)) := by kernel_rfl

variable {G : Mem}

set_option maxHeartbeats 400000 in
theorem left_fn (n b : Nat) (hb : b ≤ 32) : Fn Try.prog G 52 #[uw n, ii b] (uw (rotl n b)) := by
  refine fn1 (n := 13) Try.func52 rfl rfl (by simp) (argE [uw n, ii b] 0) (argE_ok _) ?_
  refine e_seq ?_
  refine e_plain ?_
  refine e_assign rfl rfl ?_
  refine e_nil ?_
  refine e_seq ?_
  refine e_draw mixed (by kernel_rfl) ?_
  refine e_move rfl rfl ?_
  refine e_move rfl rfl ?_
  refine e_shl_w rfl rfl rfl (by omega) ?_
  refine e_move rfl rfl ?_
  refine e_move rfl rfl ?_
  refine e_sub_z (p := 32) rfl rfl rfl (by omega) (by omega) ?_
  refine e_as (congrArg (Value.int .i64) (show (32 : Int) - (b : Int) = ((32 - b : Nat) : Int) by omega)) ?_
  refine e_shr_w rfl rfl rfl (by omega) ?_
  refine e_or_w rfl rfl rfl  ?_
  refine e_assign rfl rfl ?_
  refine e_nil ?_
  refine e_ret ?_
  exact ⟨_, rfl, .tmp rfl⟩

set_option maxHeartbeats 400000 in
theorem round_fn (f : Nat → Nat) : Fn Try.prog G 39 #[.agg (arr .u32 16 f)] (.agg (arr .u32 16 (rnd f))) := by
  refine fn1 (n := 73) Try.func39 rfl rfl (by simp) (argE [.agg (arr .u32 16 f)] 0) (argE_ok _) ?_
  refine e_seq ?_
  refine e_plain ?_
  refine e_box 0 rfl rfl fun r1 => ?_
  refine e_alloc 1 zer70 rfl fun r2 => ?_
  refine e_nil ?_
  refine e_seq ?_
  refine e_seq ?_
  refine e_plain ?_
  refine e_move rfl rfl ?_
  refine e_nil ?_
  refine e_block ?_
  refine e_loop (fun kk E m => ∃ (k : Nat) (s : Nat → Nat), kk = 4 - k ∧ E = [(1, ptr r1), (2, ptr r2), (8, ii k)] ∧ m = [(0, some ⟨r1, arr .u32 16 s, 70⟩), (1, some ⟨r2, arr .u32 16 (fun _ => 0), 70⟩)] ∧ (k ≤ 4) ∧ (∀ t, t < 16 → s t = if t % 4 < k then rnd f t else f t)) [(1, ptr r1), (2, ptr r2), (8, ii 0)] [(0, some ⟨r1, arr .u32 16 f, 70⟩), (1, some ⟨r2, arr .u32 16 (fun _ => 0), 70⟩)] (4 - 0) ⟨rfl, rfl, rfl, trivial⟩ ⟨rfl, rfl, trivial⟩ ⟨0, f, rfl, rfl, rfl, by omega, fun t _ => by rw [if_neg (by omega)]⟩ ?_
  rintro kk E m ⟨k, s, rfl, rfl, rfl, hf0_0, hf0_1⟩
  refine e_seq ?_
  refine e_plain ?_
  refine e_lt rfl rfl rfl ?_
  refine e_nil ?_
  refine e_seq ?_
  refine e_cond rfl ?_ ?_
  · intro hc0
    have hc0 := of_decide_eq_true hc0
    refine e_skip ?_
    refine e_seq ?_
    refine e_block ?_
    refine e_seq ?_
    refine e_plain ?_
    refine e_move rfl rfl ?_
    refine e_assign rfl rfl ?_
    refine e_nil ?_
    refine e_seq ?_
    refine e_draw mixed (by kernel_rfl) ?_
    refine e_move rfl rfl ?_
    refine e_at (0) (j := 0) und70 siz69 rfl rfl (by omega) (by omega) rfl ?_
    refine e_index0 und69 siz41 rfl rfl (by omega) rfl ?_
    refine e_load1 (i := 0) und41 rfl rfl rfl (arr_get (by omega)) rfl ⟨[], trivial⟩ ?_
    refine e_move rfl rfl ?_
    refine e_at (4) (j := 1) und70 siz69 rfl rfl (by omega) (by omega) rfl ?_
    refine e_at (4 + k) und69 siz41 rfl rfl (by omega) (by omega) rfl ?_
    refine e_load1 (i := 0) und41 rfl rfl rfl (arr_get (by omega)) rfl ⟨[], trivial⟩ ?_
    refine e_move rfl rfl ?_
    refine e_at (8) (j := 2) und70 siz69 rfl rfl (by omega) (by omega) rfl ?_
    refine e_at (8 + k) und69 siz41 rfl rfl (by omega) (by omega) rfl ?_
    refine e_load1 (i := 0) und41 rfl rfl rfl (arr_get (by omega)) rfl ⟨[], trivial⟩ ?_
    refine e_move rfl rfl ?_
    refine e_at (12) (j := 3) und70 siz69 rfl rfl (by omega) (by omega) rfl ?_
    refine e_at (12 + k) und69 siz41 rfl rfl (by omega) (by omega) rfl ?_
    refine e_load1 (i := 0) und41 rfl rfl rfl (arr_get (by omega)) rfl ⟨[], trivial⟩ ?_
    refine e_assign rfl rfl ?_
    refine e_assign rfl rfl ?_
    refine e_assign rfl rfl ?_
    refine e_assign rfl rfl ?_
    refine e_nil ?_
    refine e_seq ?_
    refine e_plain ?_
    refine e_move rfl rfl ?_
    refine e_move rfl rfl ?_
    refine e_add_w rfl rfl rfl  ?_
    refine e_assign rfl rfl ?_
    refine e_nil ?_
    refine e_seq ?_
    refine e_plain ?_
    refine e_move rfl rfl ?_
    refine e_move rfl rfl ?_
    refine e_xor_w rfl rfl rfl  ?_
    refine e_call rfl ent52 (left_fn _ _ (by decide)) rfl rfl ?_
    refine e_assign rfl rfl ?_
    refine e_nil ?_
    refine e_seq ?_
    refine e_plain ?_
    refine e_move rfl rfl ?_
    refine e_move rfl rfl ?_
    refine e_add_w rfl rfl rfl  ?_
    refine e_assign rfl rfl ?_
    refine e_nil ?_
    refine e_seq ?_
    refine e_plain ?_
    refine e_move rfl rfl ?_
    refine e_move rfl rfl ?_
    refine e_xor_w rfl rfl rfl  ?_
    refine e_call rfl ent52 (left_fn _ _ (by decide)) rfl rfl ?_
    refine e_assign rfl rfl ?_
    refine e_nil ?_
    refine e_seq ?_
    refine e_plain ?_
    refine e_move rfl rfl ?_
    refine e_move rfl rfl ?_
    refine e_add_w rfl rfl rfl  ?_
    refine e_assign rfl rfl ?_
    refine e_nil ?_
    refine e_seq ?_
    refine e_plain ?_
    refine e_move rfl rfl ?_
    refine e_move rfl rfl ?_
    refine e_xor_w rfl rfl rfl  ?_
    refine e_call rfl ent52 (left_fn _ _ (by decide)) rfl rfl ?_
    refine e_assign rfl rfl ?_
    refine e_nil ?_
    refine e_seq ?_
    refine e_plain ?_
    refine e_move rfl rfl ?_
    refine e_move rfl rfl ?_
    refine e_add_w rfl rfl rfl  ?_
    refine e_assign rfl rfl ?_
    refine e_nil ?_
    refine e_seq ?_
    refine e_plain ?_
    refine e_move rfl rfl ?_
    refine e_move rfl rfl ?_
    refine e_xor_w rfl rfl rfl  ?_
    refine e_call rfl ent52 (left_fn _ _ (by decide)) rfl rfl ?_
    refine e_assign rfl rfl ?_
    refine e_nil ?_
    refine e_plain ?_
    refine e_move rfl rfl ?_
    refine e_move rfl rfl ?_
    refine e_move rfl rfl ?_
    refine e_move rfl rfl ?_
    refine e_move rfl rfl ?_
    refine e_move rfl rfl ?_
    refine e_move rfl rfl ?_
    refine e_move rfl rfl ?_
    refine e_at (0) (j := 0) und70 siz69 rfl rfl (by omega) (by omega) rfl ?_
    refine e_index0 und69 siz41 rfl rfl (by omega) rfl ?_
    refine e_storeN (i := 0) siz41 rfl rfl rfl (by omega) (.inl rfl) ?_
    refine e_at (4) (j := 1) und70 siz69 rfl rfl (by omega) (by omega) rfl ?_
    refine e_at (4 + k) und69 siz41 rfl rfl (by omega) (by omega) rfl ?_
    refine e_storeN (i := 0) siz41 rfl rfl rfl (by omega) (.inl rfl) ?_
    refine e_at (8) (j := 2) und70 siz69 rfl rfl (by omega) (by omega) rfl ?_
    refine e_at (8 + k) und69 siz41 rfl rfl (by omega) (by omega) rfl ?_
    refine e_storeN (i := 0) siz41 rfl rfl rfl (by omega) (.inl rfl) ?_
    refine e_at (12) (j := 3) und70 siz69 rfl rfl (by omega) (by omega) rfl ?_
    refine e_at (12 + k) und69 siz41 rfl rfl (by omega) (by omega) rfl ?_
    refine e_storeN (i := 0) siz41 rfl rfl rfl (by omega) (.inl rfl) ?_
    refine e_nil ?_
    refine e_plain ?_
    refine e_add_i (q := 1) rfl rfl rfl (by omega) ?_
    refine e_move rfl rfl ?_
    refine e_nil ?_
    refine ⟨_, [(1, ptr r1), (2, ptr r2), (8, ii (k + 1))], [(0, some ⟨r1, arr .u32 16 (upd (upd (upd (upd s k _) (4 + k) _) (8 + k) _) (12 + k) _), 70⟩), (1, some ⟨r2, arr .u32 16 (fun _ => 0), 70⟩)], ?_, ⟨rfl, rfl, rfl, trivial⟩, ⟨rfl, rfl, trivial⟩, k + 1, upd (upd (upd (upd s k _) (4 + k) _) (8 + k) _) (12 + k) _, rfl, rfl, rfl, by omega, rnd_step (by omega) hf0_1 _ rfl⟩
    omega
  · intro hc0
    have hc0 := of_decide_eq_false hc0
    have hk : k = 4 := by omega
    subst hk
    refine e_exit ?_
    refine e_seq ?_
    refine e_plain ?_
    refine e_loadA (i := 0) und70 rfl siz70 rfl rfl (arr_size _ _ _) rfl ⟨[], trivial⟩ ?_
    refine e_storeA (i := 1) siz70 rfl rfl (arr_size _ _ _) arr_one rfl (arr_sz _ _ _ _ _) (.inl rfl) ?_
    refine e_nil ?_
    refine e_ret ?_
    rw [← rnd_end hf0_1]
    exact ⟨_, rfl, .cell (i := 1) rfl rfl und70 rfl siz70 (arr_size _ _ _)⟩

set_option maxHeartbeats 400000 in
theorem sh1_fn (f : Nat → Nat) : Fn Try.prog G 38 #[.agg (arr .u32 16 f), ii 1] (.agg (arr .u32 16 (sh1 f))) := by
  refine fn1 (n := 32) Try.func38 rfl rfl (by simp) (argE [.agg (arr .u32 16 f), ii 1] 0) (argE_ok _) ?_
  refine e_seq ?_
  refine e_plain ?_
  refine e_box 0 rfl rfl fun r1 => ?_
  refine e_alloc 1 zer70 rfl fun r2 => ?_
  refine e_nil ?_
  refine e_seq ?_
  refine e_plain ?_
  refine e_alloc 2 zer70 rfl fun r3 => ?_
  refine e_nil ?_
  refine e_seq ?_
  refine e_seq ?_
  refine e_plain ?_
  refine e_move rfl rfl ?_
  refine e_nil ?_
  refine e_block ?_
  refine e_loop (fun kk E m => ∃ (k : Nat) (s : Nat → Nat), kk = 4 - k ∧ E = [(1, ii 1), (2, ptr r1), (4, ptr r2), (5, ptr r3), (8, ii k)] ∧ m = [(0, some ⟨r1, arr .u32 16 f, 70⟩), (1, some ⟨r2, arr .u32 16 (fun _ => 0), 70⟩), (2, some ⟨r3, arr .u32 16 s, 70⟩)] ∧ (k ≤ 4) ∧ (∀ t, t < 4 * k → s t = sh1 f t)) [(1, ii 1), (2, ptr r1), (4, ptr r2), (5, ptr r3), (8, ii 0)] [(0, some ⟨r1, arr .u32 16 f, 70⟩), (1, some ⟨r2, arr .u32 16 (fun _ => 0), 70⟩), (2, some ⟨r3, arr .u32 16 (fun _ => 0), 70⟩)] (4 - 0) ⟨rfl, rfl, rfl, rfl, rfl, trivial⟩ ⟨rfl, rfl, rfl, trivial⟩ ⟨0, fun _ => 0, rfl, rfl, rfl, by omega, fun t ht => absurd ht (Nat.not_lt_zero t)⟩ ?_
  rintro kk E m ⟨k, s, rfl, rfl, rfl, hf0_0, hf0_1⟩
  refine e_seq ?_
  refine e_plain ?_
  refine e_lt rfl rfl rfl ?_
  refine e_nil ?_
  refine e_seq ?_
  refine e_cond rfl ?_ ?_
  · intro hc0
    have hc0 := of_decide_eq_true hc0
    refine e_skip ?_
    refine e_seq ?_
    refine e_block ?_
    refine e_seq ?_
    refine e_plain ?_
    refine e_move rfl rfl ?_
    refine e_assign rfl rfl ?_
    refine e_nil ?_
    refine e_seq ?_
    refine e_plain ?_
    refine e_move rfl rfl ?_
    refine e_nil ?_
    refine e_block ?_
    refine e_loop (fun kk E m => ∃ (j : Nat) (s2 : Nat → Nat), kk = 4 - j ∧ E = [(1, ii 1), (2, ptr r1), (4, ptr r2), (5, ptr r3), (8, ii k), (6, ii k), (11, ii j)] ∧ m = [(0, some ⟨r1, arr .u32 16 f, 70⟩), (1, some ⟨r2, arr .u32 16 (fun _ => 0), 70⟩), (2, some ⟨r3, arr .u32 16 s2, 70⟩)] ∧ (j ≤ 4) ∧ (∀ t, t < 4 * k + j → s2 t = sh1 f t)) [(1, ii 1), (2, ptr r1), (4, ptr r2), (5, ptr r3), (8, ii k), (6, ii k), (11, ii 0)] [(0, some ⟨r1, arr .u32 16 f, 70⟩), (1, some ⟨r2, arr .u32 16 (fun _ => 0), 70⟩), (2, some ⟨r3, arr .u32 16 s, 70⟩)] (4 - 0) ⟨rfl, rfl, rfl, rfl, rfl, rfl, rfl, trivial⟩ ⟨rfl, rfl, rfl, trivial⟩ ⟨0, s, rfl, rfl, rfl, by omega, hf0_1⟩ ?_
    rintro kk E m ⟨j, s2, rfl, rfl, rfl, hf1_0, hf1_1⟩
    refine e_seq ?_
    refine e_plain ?_
    refine e_lt rfl rfl rfl ?_
    refine e_nil ?_
    refine e_seq ?_
    refine e_cond rfl ?_ ?_
    · intro hc1
      have hc1 := of_decide_eq_true hc1
      refine e_skip ?_
      refine e_seq ?_
      refine e_block ?_
      refine e_seq ?_
      refine e_plain ?_
      refine e_move rfl rfl ?_
      refine e_assign rfl rfl ?_
      refine e_nil ?_
      refine e_draw mixed (by kernel_rfl) ?_
      refine e_move rfl rfl ?_
      refine e_move rfl rfl ?_
      refine e_move rfl rfl ?_
      refine e_move rfl rfl ?_
      refine e_add_i (q := 4) rfl rfl rfl (by omega) ?_
      refine e_move rfl rfl ?_
      refine e_move rfl rfl ?_
      refine e_mul_i rfl rfl rfl (by omega) ?_
      refine e_add_i rfl rfl rfl (by omega) ?_
      refine e_rem_i (q := 4) rfl rfl rfl (by omega) ?_
      refine e_at (4 * k) und70 siz69 rfl rfl (by omega) (by omega) rfl ?_
      refine e_at (4 * k + (j + 4 + 1 * k) % 4) und69 siz41 rfl rfl (by omega) (by omega) rfl ?_
      refine e_load1 (i := 0) und41 rfl rfl rfl (arr_get (by omega)) rfl ⟨[], trivial⟩ ?_
      refine e_at (4 * k) und70 siz69 rfl rfl (by omega) (by omega) rfl ?_
      refine e_at (4 * k + j) und69 siz41 rfl rfl (by omega) (by omega) rfl ?_
      refine e_storeN (i := 2) siz41 rfl rfl rfl (by omega) (.inl rfl) ?_
      refine e_nil ?_
      refine e_plain ?_
      refine e_add_i (q := 1) rfl rfl rfl (by omega) ?_
      refine e_move rfl rfl ?_
      refine e_nil ?_
      refine ⟨_, [(1, ii 1), (2, ptr r1), (4, ptr r2), (5, ptr r3), (8, ii k), (6, ii k), (11, ii (j + 1))], [(0, some ⟨r1, arr .u32 16 f, 70⟩), (1, some ⟨r2, arr .u32 16 (fun _ => 0), 70⟩), (2, some ⟨r3, arr .u32 16 (upd s2 (4 * k + j) _), 70⟩)], ?_, ⟨rfl, rfl, rfl, rfl, rfl, rfl, rfl, trivial⟩, ⟨rfl, rfl, rfl, trivial⟩, j + 1, upd s2 (4 * k + j) _, rfl, rfl, rfl, by omega, sh_at sh1 f s2 (sh1_v f (by omega)) hf1_1⟩
      omega
    · intro hc1
      have hc1 := of_decide_eq_false hc1
      have hj4 : j = 4 := by omega
      subst hj4
      refine e_exit ?_
      refine e_plain ?_
      refine e_add_i (q := 1) rfl rfl rfl (by omega) ?_
      refine e_move rfl rfl ?_
      refine e_nil ?_
      refine ⟨_, [(1, ii 1), (2, ptr r1), (4, ptr r2), (5, ptr r3), (8, ii (k + 1))], [(0, some ⟨r1, arr .u32 16 f, 70⟩), (1, some ⟨r2, arr .u32 16 (fun _ => 0), 70⟩), (2, some ⟨r3, arr .u32 16 s2, 70⟩)], ?_, ⟨rfl, rfl, rfl, rfl, rfl, trivial⟩, ⟨rfl, rfl, rfl, trivial⟩, k + 1, s2, rfl, rfl, rfl, by omega, by rw [show 4 * (k + 1) = 4 * k + 4 by omega]; exact hf1_1⟩
      omega
  · intro hc0
    have hc0 := of_decide_eq_false hc0
    have hk : k = 4 := by omega
    subst hk
    refine e_exit ?_
    refine e_seq ?_
    refine e_plain ?_
    refine e_loadA (i := 2) und70 rfl siz70 rfl rfl (arr_size _ _ _) rfl ⟨[], trivial⟩ ?_
    refine e_storeA (i := 1) siz70 rfl rfl (arr_size _ _ _) arr_one rfl (arr_sz _ _ _ _ _) (.inl rfl) ?_
    refine e_nil ?_
    refine e_ret ?_
    rw [← arr_congr hf0_1]
    exact ⟨_, rfl, .cell (i := 1) rfl rfl und70 rfl siz70 (arr_size _ _ _)⟩

set_option maxHeartbeats 400000 in
theorem shm_fn (f : Nat → Nat) : Fn Try.prog G 38 #[.agg (arr .u32 16 f), .int .i64 (-1)] (.agg (arr .u32 16 (shm f))) := by
  refine fn1 (n := 32) Try.func38 rfl rfl (by simp) (argE [.agg (arr .u32 16 f), .int .i64 (-1)] 0) (argE_ok _) ?_
  refine e_seq ?_
  refine e_plain ?_
  refine e_box 0 rfl rfl fun r1 => ?_
  refine e_alloc 1 zer70 rfl fun r2 => ?_
  refine e_nil ?_
  refine e_seq ?_
  refine e_plain ?_
  refine e_alloc 2 zer70 rfl fun r3 => ?_
  refine e_nil ?_
  refine e_seq ?_
  refine e_seq ?_
  refine e_plain ?_
  refine e_move rfl rfl ?_
  refine e_nil ?_
  refine e_block ?_
  refine e_loop (fun kk E m => ∃ (k : Nat) (s : Nat → Nat), kk = 4 - k ∧ E = [(1, .int .i64 (-1)), (2, ptr r1), (4, ptr r2), (5, ptr r3), (8, ii k)] ∧ m = [(0, some ⟨r1, arr .u32 16 f, 70⟩), (1, some ⟨r2, arr .u32 16 (fun _ => 0), 70⟩), (2, some ⟨r3, arr .u32 16 s, 70⟩)] ∧ (k ≤ 4) ∧ (∀ t, t < 4 * k → s t = shm f t)) [(1, .int .i64 (-1)), (2, ptr r1), (4, ptr r2), (5, ptr r3), (8, ii 0)] [(0, some ⟨r1, arr .u32 16 f, 70⟩), (1, some ⟨r2, arr .u32 16 (fun _ => 0), 70⟩), (2, some ⟨r3, arr .u32 16 (fun _ => 0), 70⟩)] (4 - 0) ⟨rfl, rfl, rfl, rfl, rfl, trivial⟩ ⟨rfl, rfl, rfl, trivial⟩ ⟨0, fun _ => 0, rfl, rfl, rfl, by omega, fun t ht => absurd ht (Nat.not_lt_zero t)⟩ ?_
  rintro kk E m ⟨k, s, rfl, rfl, rfl, hf0_0, hf0_1⟩
  refine e_seq ?_
  refine e_plain ?_
  refine e_lt rfl rfl rfl ?_
  refine e_nil ?_
  refine e_seq ?_
  refine e_cond rfl ?_ ?_
  · intro hc0
    have hc0 := of_decide_eq_true hc0
    refine e_skip ?_
    refine e_seq ?_
    refine e_block ?_
    refine e_seq ?_
    refine e_plain ?_
    refine e_move rfl rfl ?_
    refine e_assign rfl rfl ?_
    refine e_nil ?_
    refine e_seq ?_
    refine e_plain ?_
    refine e_move rfl rfl ?_
    refine e_nil ?_
    refine e_block ?_
    refine e_loop (fun kk E m => ∃ (j : Nat) (s2 : Nat → Nat), kk = 4 - j ∧ E = [(1, .int .i64 (-1)), (2, ptr r1), (4, ptr r2), (5, ptr r3), (8, ii k), (6, ii k), (11, ii j)] ∧ m = [(0, some ⟨r1, arr .u32 16 f, 70⟩), (1, some ⟨r2, arr .u32 16 (fun _ => 0), 70⟩), (2, some ⟨r3, arr .u32 16 s2, 70⟩)] ∧ (j ≤ 4) ∧ (∀ t, t < 4 * k + j → s2 t = shm f t)) [(1, .int .i64 (-1)), (2, ptr r1), (4, ptr r2), (5, ptr r3), (8, ii k), (6, ii k), (11, ii 0)] [(0, some ⟨r1, arr .u32 16 f, 70⟩), (1, some ⟨r2, arr .u32 16 (fun _ => 0), 70⟩), (2, some ⟨r3, arr .u32 16 s, 70⟩)] (4 - 0) ⟨rfl, rfl, rfl, rfl, rfl, rfl, rfl, trivial⟩ ⟨rfl, rfl, rfl, trivial⟩ ⟨0, s, rfl, rfl, rfl, by omega, hf0_1⟩ ?_
    rintro kk E m ⟨j, s2, rfl, rfl, rfl, hf1_0, hf1_1⟩
    refine e_seq ?_
    refine e_plain ?_
    refine e_lt rfl rfl rfl ?_
    refine e_nil ?_
    refine e_seq ?_
    refine e_cond rfl ?_ ?_
    · intro hc1
      have hc1 := of_decide_eq_true hc1
      refine e_skip ?_
      refine e_seq ?_
      refine e_block ?_
      refine e_seq ?_
      refine e_plain ?_
      refine e_move rfl rfl ?_
      refine e_assign rfl rfl ?_
      refine e_nil ?_
      refine e_draw mixed (by kernel_rfl) ?_
      refine e_move rfl rfl ?_
      refine e_move rfl rfl ?_
      refine e_move rfl rfl ?_
      refine e_move rfl rfl ?_
      refine e_add_i (q := 4) rfl rfl rfl (by omega) ?_
      refine e_move rfl rfl ?_
      refine e_move rfl rfl ?_
      refine e_mul_z rfl rfl rfl (by omega) (by omega) ?_
      refine e_add_z rfl rfl rfl (by omega) (by omega) ?_
      refine e_as (congrArg (Value.int .i64) (show ((j + 4 : Nat) : Int) + -1 * ((k : Nat) : Int) = ((j + 4 - k : Nat) : Int) by omega)) ?_
      refine e_rem_i (q := 4) rfl rfl rfl (by omega) ?_
      refine e_at (4 * k) und70 siz69 rfl rfl (by omega) (by omega) rfl ?_
      refine e_at (4 * k + (j + 4 - k) % 4) und69 siz41 rfl rfl (by omega) (by omega) rfl ?_
      refine e_load1 (i := 0) und41 rfl rfl rfl (arr_get (by omega)) rfl ⟨[], trivial⟩ ?_
      refine e_at (4 * k) und70 siz69 rfl rfl (by omega) (by omega) rfl ?_
      refine e_at (4 * k + j) und69 siz41 rfl rfl (by omega) (by omega) rfl ?_
      refine e_storeN (i := 2) siz41 rfl rfl rfl (by omega) (.inl rfl) ?_
      refine e_nil ?_
      refine e_plain ?_
      refine e_add_i (q := 1) rfl rfl rfl (by omega) ?_
      refine e_move rfl rfl ?_
      refine e_nil ?_
      refine ⟨_, [(1, .int .i64 (-1)), (2, ptr r1), (4, ptr r2), (5, ptr r3), (8, ii k), (6, ii k), (11, ii (j + 1))], [(0, some ⟨r1, arr .u32 16 f, 70⟩), (1, some ⟨r2, arr .u32 16 (fun _ => 0), 70⟩), (2, some ⟨r3, arr .u32 16 (upd s2 (4 * k + j) _), 70⟩)], ?_, ⟨rfl, rfl, rfl, rfl, rfl, rfl, rfl, trivial⟩, ⟨rfl, rfl, rfl, trivial⟩, j + 1, upd s2 (4 * k + j) _, rfl, rfl, rfl, by omega, sh_at shm f s2 (shm_v f (by omega)) hf1_1⟩
      omega
    · intro hc1
      have hc1 := of_decide_eq_false hc1
      have hj4 : j = 4 := by omega
      subst hj4
      refine e_exit ?_
      refine e_plain ?_
      refine e_add_i (q := 1) rfl rfl rfl (by omega) ?_
      refine e_move rfl rfl ?_
      refine e_nil ?_
      refine ⟨_, [(1, .int .i64 (-1)), (2, ptr r1), (4, ptr r2), (5, ptr r3), (8, ii (k + 1))], [(0, some ⟨r1, arr .u32 16 f, 70⟩), (1, some ⟨r2, arr .u32 16 (fun _ => 0), 70⟩), (2, some ⟨r3, arr .u32 16 s2, 70⟩)], ?_, ⟨rfl, rfl, rfl, rfl, rfl, trivial⟩, ⟨rfl, rfl, rfl, trivial⟩, k + 1, s2, rfl, rfl, rfl, by omega, by rw [show 4 * (k + 1) = 4 * k + 4 by omega]; exact hf1_1⟩
      omega
  · intro hc0
    have hc0 := of_decide_eq_false hc0
    have hk : k = 4 := by omega
    subst hk
    refine e_exit ?_
    refine e_seq ?_
    refine e_plain ?_
    refine e_loadA (i := 2) und70 rfl siz70 rfl rfl (arr_size _ _ _) rfl ⟨[], trivial⟩ ?_
    refine e_storeA (i := 1) siz70 rfl rfl (arr_size _ _ _) arr_one rfl (arr_sz _ _ _ _ _) (.inl rfl) ?_
    refine e_nil ?_
    refine e_ret ?_
    rw [← arr_congr hf0_1]
    exact ⟨_, rfl, .cell (i := 1) rfl rfl und70 rfl siz70 (arr_size _ _ _)⟩

set_option maxHeartbeats 400000 in
theorem low_fn (n k : Nat) (hn : n < 18446744073709551616) (hk : k ≤ 64) : Fn Try.prog G 27 #[u n, ii k] (sv (lowl n k)) := by
  refine fn1 (n := 19) Try.func27 rfl rfl (by simp) (argE [u n, ii k] 0) (argE_ok _) ?_
  refine e_seq ?_
  refine e_plain ?_
  refine e_assign (v := sv []) rfl rfl ?_
  refine e_nil ?_
  refine e_seq ?_
  refine e_plain ?_
  refine e_assign (v := sv []) rfl rfl ?_
  refine e_nil ?_
  refine e_seq ?_
  refine e_seq ?_
  refine e_plain ?_
  refine e_move rfl rfl ?_
  refine e_move rfl rfl ?_
  refine e_nil ?_
  refine e_block ?_
  refine e_loop (fun kk E m => ∃ (i : Nat), kk = k - i ∧ E = [(0, u (n / 256 ^ i)), (1, ii k), (5, sv (lowl n i)), (6, ii k), (7, ii i)] ∧ m = [] ∧ (i ≤ k)) [(0, u (n / 256 ^ 0)), (1, ii k), (5, sv (lowl n 0)), (6, ii k), (7, ii 0)] [] (k - 0) ⟨by rw [Nat.pow_zero, Nat.div_one]; rfl, rfl, rfl, rfl, rfl, trivial⟩ trivial ⟨0, rfl, rfl, rfl, by omega⟩ ?_
  rintro kk E m ⟨i, rfl, rfl, rfl, hf0_0⟩
  have hq : n / 256 ^ i < 18446744073709551616 := Nat.lt_of_le_of_lt (Nat.div_le_self _ _) hn
  have hll := lowl_len n i
  refine e_seq ?_
  refine e_plain ?_
  refine e_lt rfl rfl rfl ?_
  refine e_nil ?_
  refine e_seq ?_
  refine e_cond rfl ?_ ?_
  · intro hc0
    have hc0 := of_decide_eq_true hc0
    refine e_skip ?_
    refine e_seq ?_
    refine e_block ?_
    refine e_seq ?_
    refine e_plain ?_
    refine e_move rfl rfl ?_
    refine e_move rfl rfl ?_
    refine e_conv_u8 und52 und5 rfl rfl rfl ?_
    refine e_buildSl 0 #[by8 (n / 256 ^ i % 256)] und24 siz5 zer5 (by decide) (by decide) rfl (by kernel_rfl) rfl fun r1 => ?_
    refine e_conv_strV (l := [n / 256 ^ i % 256]) (shows_new _ _ (by rfl)) (seen1 0 rfl ⟨[], trivial⟩) und24 und5 und9 rfl rfl rfl ?_
    refine e_catS rfl rfl rfl (by simp; omega) ?_
    refine e_assign rfl rfl ?_
    refine e_nil ?_
    refine e_plain ?_
    refine e_move rfl rfl ?_
    refine e_quo_u (q := 256) rfl rfl rfl (by omega) (by omega) ?_
    refine e_assign rfl rfl ?_
    refine e_nil ?_
    refine e_plain ?_
    refine e_add_i (q := 1) rfl rfl rfl (by omega) ?_
    refine e_move rfl rfl ?_
    refine e_nil ?_
    refine ⟨_, [(0, u (n / 256 ^ (i + 1))), (1, ii k), (5, sv (lowl n (i + 1))), (6, ii k), (7, ii (i + 1))], [], ?_, ⟨by rw [Nat.pow_succ, ← Nat.div_div_eq_div_mul]; rfl, rfl, by rw [← lowl_succ]; rfl, rfl, rfl, trivial⟩, trivial, i + 1, rfl, rfl, rfl, by omega⟩
    omega
  · intro hc0
    have hc0 := of_decide_eq_false hc0
    have hik : i = k := by omega
    subst hik
    refine e_exit ?_
    refine e_seq ?_
    refine e_plain ?_
    refine e_move rfl rfl ?_
    refine e_assign rfl rfl ?_
    refine e_nil ?_
    refine e_ret ?_
    exact ⟨_, rfl, .tmp rfl⟩

set_option maxHeartbeats 400000 in
theorem number_fn (l : List Nat) (hl : l.length ≤ 8) (hb : ∀ b ∈ l, b < 256) : Fn Try.prog G 37 #[sv l] (u (leN l)) := by
  refine fn1 (n := 20) Try.func37 rfl rfl (by simp) (argE [sv l] 0) (argE_ok _) ?_
  refine e_seq ?_
  refine e_plain ?_
  refine e_assign rfl rfl ?_
  refine e_nil ?_
  refine e_seq ?_
  refine e_plain ?_
  refine e_assign rfl rfl ?_
  refine e_nil ?_
  refine e_seq ?_
  refine e_seq ?_
  refine e_plain ?_
  refine e_move rfl rfl ?_
  refine e_lenStr und9 rfl rfl rfl ?_
  refine e_sub_z (q := 1) rfl rfl rfl (by omega) (by omega) ?_
  refine e_assign rfl rfl ?_
  refine e_nil ?_
  refine e_block ?_
  refine e_loop (fun kk E m => ∃ (n : Nat), kk = 2 * n ∧ E = [(0, sv l), (3, u (leN (l.drop n))), (4, .int .i64 (((n : Nat) : Int) - 1))] ∧ m = [] ∧ (n ≤ l.length)) [(0, sv l), (3, u (leN (l.drop l.length))), (4, .int .i64 (((l.length : Nat) : Int) - 1))] [] (2 * l.length) ⟨rfl, by rw [List.drop_length]; rfl, rfl, trivial⟩ trivial ⟨l.length, rfl, rfl, rfl, Nat.le_refl _⟩ ?_
  rintro kk E m ⟨n, rfl, rfl, rfl, hf0_0⟩
  refine e_seq ?_
  refine e_seq ?_
  refine e_plain ?_
  refine e_move rfl rfl ?_
  refine e_ge rfl rfl rfl ?_
  refine e_nil ?_
  refine e_cond rfl ?_ ?_
  · intro hc0
    have hc0 := of_decide_eq_true hc0
    obtain ⟨i, rfl⟩ : ∃ i, n = i + 1 := ⟨n - 1, by omega⟩
    have hsm := leN_small hl hb i
    have hbi : l[i] < 256 := hb _ (List.getElem_mem _)
    refine e_skip ?_
    refine e_seq ?_
    refine e_block ?_
    refine e_plain ?_
    refine e_move rfl rfl ?_
    refine e_mul_u (q := 256) rfl rfl rfl  ?_
    refine e_as (congrArg u (Nat.mod_eq_of_lt (show leN (l.drop (i + 1)) * 256 < 18446744073709551616 by omega))) ?_
    refine e_move rfl rfl ?_
    refine e_move rfl rfl ?_
    refine e_as (congrArg (Value.int .i64) (show ((i + 1 : Nat) : Int) - 1 = ((i : Nat) : Int) by omega)) ?_
    refine e_idxStr und9 rfl rfl (List.getElem?_eq_getElem (show i < l.length by omega)) (hb _ (List.getElem_mem _)) rfl ?_
    refine e_conv_u und5 und52 rfl rfl rfl ?_
    refine e_as (congrArg u (Nat.mod_eq_of_lt (show l[i] < 18446744073709551616 by omega))) ?_
    refine e_add_u rfl rfl rfl  ?_
    refine e_as (congrArg u (Nat.mod_eq_of_lt (show leN (l.drop (i + 1)) * 256 + l[i] < 18446744073709551616 by omega))) ?_
    refine e_assign rfl rfl ?_
    refine e_nil ?_
    refine e_plain ?_
    refine e_move rfl rfl ?_
    refine e_sub_z (q := 1) rfl rfl rfl (by omega) (by omega) ?_
    refine e_assign rfl rfl ?_
    refine e_nil ?_
    refine ⟨_, [(0, sv l), (3, u (leN (l.drop i))), (4, .int .i64 (((i : Nat) : Int) - 1))], [], ?_, ⟨rfl, by rw [leN_drop (show i < l.length by omega)]; rfl, congrArg (fun z => some (Value.int .i64 z)) (show ((i + 1 : Nat) : Int) - 1 - 1 = ((i : Nat) : Int) - 1 by omega), trivial⟩, trivial, i, rfl, rfl, rfl, by omega⟩
    omega
  · intro hc0
    have hc0 := of_decide_eq_false hc0
    have hn0 : n = 0 := by omega
    subst hn0
    refine e_exit ?_
    refine e_seq ?_
    refine e_plain ?_
    refine e_move rfl rfl ?_
    refine e_assign rfl rfl ?_
    refine e_nil ?_
    refine e_ret ?_
    exact ⟨_, rfl, .tmp rfl⟩

end Go.Proofs.Ytoalabpbohkcjaa

/-
  A block and a stream of ChaCha20 in plain numbers. Plain arithmetic.
-/
namespace Go.Proofs.Ytoalabpbohkcjaa
open Go Go.RowKit

abbrev C16 : List Nat := [101, 120, 112, 97, 110, 100, 32, 51, 50, 45, 98, 121, 116, 101, 32, 107]
def allb (k : Nat → Nat) (c : Nat) (nn : Nat → Nat) : List Nat := C16 ++ (List.range 32).map k ++ lowl c 4 ++ (List.range 12).map nn
theorem allb_len (k : Nat → Nat) (c : Nat) (nn : Nat → Nat) : (allb k c nn).length = 64 := by simp [allb, lowl_len]
theorem range_lt {n : Nat} {f : Nat → Nat} (hf : ∀ j, j < n → f j < 256) : ∀ b ∈ (List.range n).map f, b < 256 := fun b hb => by
  obtain ⟨i, hi, rfl⟩ := List.mem_map.1 hb
  exact hf i (by simpa using hi)
theorem allb_lt {k : Nat → Nat} {c : Nat} {nn : Nat → Nat} (hk : ∀ j, j < 32 → k j < 256) (hn : ∀ j, j < 12 → nn j < 256) : ∀ b ∈ allb k c nn, b < 256 := fun b hb => by
  unfold allb at hb
  rcases List.mem_append.1 hb with hb | hb
  · rcases List.mem_append.1 hb with hb | hb
    · rcases List.mem_append.1 hb with hb | hb
      · simp at hb; omega
      · exact range_lt hk b hb
    · exact lowl_lt c 4 b hb
  · exact range_lt hn b hb
def wrd (l : List Nat) (t : Nat) : Nat := leN ((l.drop (4 * t)).take 4)
theorem wrd_lt {l : List Nat} (hb : ∀ b ∈ l, b < 256) (t : Nat) : wrd l t < 4294967296 := by
  have h1 := leN_lt ((l.drop (4 * t)).take 4) (fun b h => hb b (List.mem_of_mem_drop (List.mem_of_mem_take h)))
  have h2 : ((l.drop (4 * t)).take 4).length ≤ 4 := by simp; omega
  have h3 : 256 ^ ((l.drop (4 * t)).take 4).length ≤ 256 ^ 4 := Nat.pow_le_pow_right (by decide) h2
  have h4 : 256 ^ 4 = 4294967296 := by decide
  unfold wrd
  omega
theorem cut4_len (l : List Nat) (t : Nat) : ((l.drop (4 * t)).take 4).length ≤ 8 := by simp; omega
theorem cut4_lt {l : List Nat} (hb : ∀ b ∈ l, b < 256) (t : Nat) : ∀ b ∈ (l.drop (4 * t)).take 4, b < 256 := fun b h => hb b (List.mem_of_mem_drop (List.mem_of_mem_take h))
def outl (v w : Nat → Nat) : Nat → List Nat
  | 0 => []
  | i + 1 => outl v w i ++ lowl ((v i + w i) % 4294967296) 4
theorem outl_len (v w : Nat → Nat) : ∀ i, (outl v w i).length = 4 * i
  | 0 => rfl
  | i + 1 => by rw [outl, List.length_append, outl_len v w i, lowl_len]; omega
theorem outl_lt (v w : Nat → Nat) : ∀ i, ∀ b ∈ outl v w i, b < 256
  | 0, b, h => by simp [outl] at h
  | i + 1, b, h => by
    rcases List.mem_append.1 h with h | h
    · exact outl_lt v w i b h
    · exact lowl_lt _ _ b h
def blkl (k : Nat → Nat) (c : Nat) (nn : Nat → Nat) : List Nat := outl (dbls (wrd (allb k c nn)) 10) (wrd (allb k c nn)) 16
def blkf (k : Nat → Nat) (c : Nat) (nn : Nat → Nat) (j : Nat) : Nat := (blkl k c nn).getD j 0
theorem blkl_len (k : Nat → Nat) (c : Nat) (nn : Nat → Nat) : (blkl k c nn).length = 64 := outl_len _ _ 16
theorem blkf_lt (k : Nat → Nat) (c : Nat) (nn : Nat → Nat) (j : Nat) : blkf k c nn j < 256 := by
  unfold blkf
  rw [List.getD_eq_getElem?_getD]
  cases h : (blkl k c nn)[j]? with
  | none => simp
  | some b => exact outl_lt _ _ 16 b (List.mem_of_getElem? h)
theorem copy_end (l : List Nat) (hl : l.length = 64) : arr .u8 64 (fun j => if 0 + 0 * 1 ≤ j ∧ j < 0 + 0 * 1 + min l.length (64 - 0) then l.getD (j - (0 + 0 * 1)) 0 else 0) = arr .u8 64 (fun j => l.getD j 0) := arr_congr fun j hj => by
  rw [if_pos (by omega)]; rfl
theorem conv_all (f : Nat → Nat) (n : Nat) : Value.string (strOfNums ((List.range n).map fun j => (f (0 + j) : Int))) = sv ((List.range n).map f) := by
  have e : ((List.range n).map fun j => (f (0 + j) : Int)) = ((List.range n).map f).map fun m : Nat => (m : Int) := by
    rw [List.map_map]
    exact List.map_congr_left fun j _ => by simp
  rw [e, str_nums]

/-! ### Streams -/
def strv (k : Nat → Nat) (c : Nat) (nn : Nat → Nat) (l : List Nat) (t : Nat) : Nat := (l.getD t 0 ^^^ blkf k ((c + t / 64 % 4294967296) % 4294967296) nn (t % 64)) % 256
def strl (k : Nat → Nat) (c : Nat) (nn : Nat → Nat) (l : List Nat) (at_ : Nat) : List Nat := (List.range (l.length - at_)).map fun j => strv k c nn l (at_ + j)
def strp (k : Nat → Nat) (c : Nat) (nn : Nat → Nat) (l : List Nat) (at_ i : Nat) : List Nat := (List.range i).map fun j => strv k c nn l (at_ + j)
theorem strp_len (k : Nat → Nat) (c : Nat) (nn : Nat → Nat) (l : List Nat) (at_ i : Nat) : (strp k c nn l at_ i).length = i := by simp [strp]
theorem strl_len (k : Nat → Nat) (c : Nat) (nn : Nat → Nat) (l : List Nat) (at_ : Nat) : (strl k c nn l at_).length = l.length - at_ := by simp [strl]
theorem strp_succ (k : Nat → Nat) (c : Nat) (nn : Nat → Nat) (l : List Nat) (at_ i : Nat) : strp k c nn l at_ i ++ [strv k c nn l (at_ + i)] = strp k c nn l at_ (i + 1) := by
  unfold strp; rw [List.range_succ, List.map_append]; rfl
theorem strp_all (k : Nat → Nat) (c : Nat) (nn : Nat → Nat) (l : List Nat) {at_ i : Nat} (h : (i = 64 ∧ at_ + 64 ≤ l.length) ∨ (at_ + i = l.length)) (hi : i ≤ 64) : strp k c nn l at_ i ++ strl k c nn l (at_ + 64) = strl k c nn l at_ := by
  apply List.ext_getElem
  · simp [strp, strl]; omega
  · intro j h1 h2
    have hj : j < l.length - at_ := by simpa [strl] using h2
    by_cases hji : j < i
    · rw [List.getElem_append_left (by simpa [strp] using hji)]
      simp [strp, strl]
    · rw [List.getElem_append_right (by simp [strp]; omega)]
      simp only [strp, strl, List.length_map, List.length_range, List.getElem_map, List.getElem_range]
      congr 1
      omega
theorem strl_lt (k : Nat → Nat) (c : Nat) (nn : Nat → Nat) (l : List Nat) (at_ : Nat) : ∀ b ∈ strl k c nn l at_, b < 256 := fun b hb => by
  obtain ⟨j, _, rfl⟩ := List.mem_map.1 hb
  exact Nat.mod_lt _ (by decide)
theorem strl_none (k : Nat → Nat) (c : Nat) (nn : Nat → Nat) (l : List Nat) {at_ : Nat} (h : l.length ≤ at_) : strl k c nn l at_ = [] := by
  unfold strl; rw [show l.length - at_ = 0 by omega]; rfl
theorem strv_at (k : Nat → Nat) (c : Nat) (nn : Nat → Nat) (l : List Nat) {at_ i : Nat} (h : at_ + i < l.length) (h64 : at_ % 64 = 0) (hi : i < 64) :
    (l[at_ + i] ^^^ blkf k ((c + at_ / 64 % 4294967296) % 4294967296) nn i) % 256 = strv k c nn l (at_ + i) := by
  unfold strv
  rw [List.getD_eq_getElem?_getD, List.getElem?_eq_getElem h, show (at_ + i) / 64 = at_ / 64 by omega, show (at_ + i) % 64 = i by omega]
  rfl
theorem own_fix {e : TypeId} {z n n' : Nat} {v : Value} {xs xs' : List Value} {l : Mem} (h : OwnS e z v n xs l) (hn : n = n') (hx : xs = xs') : OwnS e z v n' xs' l := hn ▸ hx ▸ h
theorem by8_one {l : List Nat} : ∀ u ∈ l.map by8, u.oneCell' = true := fun u hu => by
  obtain ⟨n, _, rfl⟩ := List.mem_map.1 hu; rfl

end Go.Proofs.Ytoalabpbohkcjaa

/-
  Walks, written by a program of ours off the loaded functions.
-/
namespace Go.Proofs.Ytoalabpbohkcjaa
open Go Go.RowKit


theorem ent27 : enters Try.prog 27 = true := by kernel_rfl
theorem ent37 : enters Try.prog 37 = true := by kernel_rfl
theorem ent38 : enters Try.prog 38 = true := by kernel_rfl
theorem ent39 : enters Try.prog 39 = true := by kernel_rfl
theorem siz44 : (Try.prog.info? 44).map (·.size) = some 64 := by kernel_rfl
theorem und23 : Try.prog.underlying 23 = some (.array 12 5) := by kernel_rfl
theorem und36 : Try.prog.underlying 36 = some (.array 32 5) := by kernel_rfl
theorem und44 : Try.prog.underlying 44 = some (.array 64 5) := by kernel_rfl
theorem zer44 : (Try.prog.info? 44).bind (·.zero) = some (.agg (arr .u8 64 fun _ => 0)) := by kernel_rfl

variable {G : Mem}

set_option maxHeartbeats 2000000 in
theorem blockOf_fn (k : Nat → Nat) (c : Nat) (nn : Nat → Nat) (hk : ∀ j, j < 32 → k j < 256) (hn : ∀ j, j < 12 → nn j < 256) (hc : c < 4294967296) : Fn Try.prog G 24 #[.agg (arr .u8 32 k), uw c, .agg (arr .u8 12 nn)] (.agg (arr .u8 64 (blkf k c nn))) := by
  have hal := allb_len k c nn
  have hab := allb_lt (c := c) hk hn
  obtain ⟨A, hA⟩ : ∃ A, A = allb k c nn := ⟨_, rfl⟩
  rw [← hA] at hal hab
  have hbl := outl_len (dbls (wrd A) 10) (wrd A)
  refine fn1 (n := 79) Try.func24 rfl rfl (by simp) (argE [.agg (arr .u8 32 k), uw c, .agg (arr .u8 12 nn)] 0) (argE_ok _) ?_
  refine e_seq ?_
  refine e_plain ?_
  refine e_box 0 rfl rfl fun r1 => ?_
  refine e_box 1 rfl rfl fun r2 => ?_
  refine e_alloc 2 zer44 rfl fun r3 => ?_
  refine e_nil ?_
  refine e_seq ?_
  refine e_draw mixed (by kernel_rfl) ?_
  refine e_sliceA 0 32 und36 siz5 rfl rfl rfl rfl rfl (by omega) (by omega) (by omega) rfl ?_
  refine e_conv_str (i := 0) und24 und5 und9 rfl rfl (by omega) rfl rfl ⟨[], trivial⟩ ?_
  refine e_as (conv_all k 32) ?_
  refine e_catS (l := [101, 120, 112, 97, 110, 100, 32, 51, 50, 45, 98, 121, 116, 101, 32, 107]) rfl rfl rfl (by simp) ?_
  refine e_move rfl rfl ?_
  refine e_conv_u und41 und52 rfl rfl rfl ?_
  refine e_as (congrArg u (Nat.mod_eq_of_lt (show c < 18446744073709551616 by omega))) ?_
  refine e_call rfl ent27 (low_fn c 4 (by omega) (by decide)) rfl rfl ?_
  refine e_catS rfl rfl rfl (by simp [lowl_len]) ?_
  refine e_sliceA 0 12 und23 siz5 rfl rfl rfl rfl rfl (by omega) (by omega) (by omega) rfl ?_
  refine e_conv_str (i := 1) und24 und5 und9 rfl rfl (by omega) rfl rfl ⟨[], trivial⟩ ?_
  refine e_as (conv_all nn 12) ?_
  refine e_catS rfl rfl rfl (by simp [lowl_len]) ?_
  refine e_as (congrArg sv hA.symm) ?_
  refine e_assign rfl rfl ?_
  refine e_nil ?_
  refine e_seq ?_
  refine e_plain ?_
  refine e_alloc 3 zer70 rfl fun r4 => ?_
  refine e_nil ?_
  refine e_seq ?_
  refine e_seq ?_
  refine e_plain ?_
  refine e_move rfl rfl ?_
  refine e_nil ?_
  refine e_block ?_
  refine e_loop (fun kk E m => ∃ (i : Nat) (s : Nat → Nat), kk = 16 - i ∧ E = [(6, ptr r3), (7, sv A), (8, ptr r4), (24, ii i)] ∧ m = [(0, some ⟨r1, arr .u8 32 k, 36⟩), (1, some ⟨r2, arr .u8 12 nn, 23⟩), (2, some ⟨r3, arr .u8 64 (fun _ => 0), 44⟩), (3, some ⟨r4, arr .u32 16 s, 70⟩)] ∧ (i ≤ 16) ∧ (∀ t, t < i → s t = wrd A t)) [(6, ptr r3), (7, sv A), (8, ptr r4), (24, ii 0)] [(0, some ⟨r1, arr .u8 32 k, 36⟩), (1, some ⟨r2, arr .u8 12 nn, 23⟩), (2, some ⟨r3, arr .u8 64 (fun _ => 0), 44⟩), (3, some ⟨r4, arr .u32 16 (fun _ => 0), 70⟩)] (16 - 0) ⟨rfl, rfl, rfl, rfl, trivial⟩ ⟨rfl, rfl, rfl, rfl, trivial⟩ ⟨0, fun _ => 0, rfl, rfl, rfl, by omega, fun t ht => absurd ht (Nat.not_lt_zero t)⟩ ?_
  rintro kk E m ⟨i, s, rfl, rfl, rfl, hf0_0, hf0_1⟩
  refine e_seq ?_
  refine e_plain ?_
  refine e_lt rfl rfl rfl ?_
  refine e_nil ?_
  refine e_seq ?_
  refine e_cond rfl ?_ ?_
  · intro hc0
    have hc0 := of_decide_eq_true hc0
    refine e_skip ?_
    refine e_seq ?_
    refine e_block ?_
    refine e_seq ?_
    refine e_plain ?_
    refine e_move rfl rfl ?_
    refine e_assign rfl rfl ?_
    refine e_nil ?_
    refine e_draw mixed (by kernel_rfl) ?_
    refine e_move rfl rfl ?_
    refine e_quo_i (q := 4) rfl rfl rfl (by omega) (by omega) ?_
    refine e_move rfl rfl ?_
    refine e_rem_i (q := 4) rfl rfl rfl (by omega) ?_
    refine e_move rfl rfl ?_
    refine e_move rfl rfl ?_
    refine e_mul_i (p := 4) rfl rfl rfl (by omega) ?_
    refine e_move rfl rfl ?_
    refine e_mul_i (p := 4) rfl rfl rfl (by omega) ?_
    refine e_add_i (q := 4) rfl rfl rfl (by omega) ?_
    refine e_sliceStr (4 * i) (4 * i + 4) und9 rfl rfl rfl ⟨_, rfl⟩ ⟨_, rfl⟩ (by omega) (by omega) rfl ?_
    refine e_as (congrArg (fun z => sv ((A.drop (4 * i)).take z)) (show 4 * i + 4 - 4 * i = 4 by omega)) ?_
    refine e_call rfl ent37 (number_fn _ (cut4_len A i) (cut4_lt hab i)) rfl rfl ?_
    refine e_conv_w und52 und41 rfl rfl rfl ?_
    refine e_as (congrArg uw (Nat.mod_eq_of_lt (wrd_lt hab i))) ?_
    refine e_at (4 * (i / 4)) und70 siz69 rfl rfl (by omega) (by omega) rfl ?_
    refine e_at (i) und69 siz41 rfl rfl (by omega) (by omega) rfl ?_
    refine e_storeN (i := 3) siz41 rfl rfl rfl (by omega) (.inl rfl) ?_
    refine e_nil ?_
    refine e_plain ?_
    refine e_add_i (q := 1) rfl rfl rfl (by omega) ?_
    refine e_move rfl rfl ?_
    refine e_nil ?_
    refine ⟨_, [(6, ptr r3), (7, sv A), (8, ptr r4), (24, ii (i + 1))], [(0, some ⟨r1, arr .u8 32 k, 36⟩), (1, some ⟨r2, arr .u8 12 nn, 23⟩), (2, some ⟨r3, arr .u8 64 (fun _ => 0), 44⟩), (3, some ⟨r4, arr .u32 16 (upd s i _), 70⟩)], ?_, ⟨rfl, rfl, rfl, rfl, trivial⟩, ⟨rfl, rfl, rfl, rfl, trivial⟩, i + 1, upd s i _, rfl, rfl, rfl, by omega, upd_lt hf0_1 rfl⟩
    omega
  · intro hc0
    have hc0 := of_decide_eq_false hc0
    have hi16 : i = 16 := by omega
    subst hi16
    have hse : arr .u32 16 s = arr .u32 16 (wrd A) := arr_congr hf0_1
    rw [hse]
    refine e_exit ?_
    refine e_seq ?_
    refine e_plain ?_
    refine e_loadA (i := 3) und70 rfl siz70 rfl rfl (arr_size _ _ _) rfl ⟨[], trivial⟩ ?_
    refine e_alloc 4 zer70 rfl fun r5 => ?_
    refine e_storeA (i := 4) siz70 rfl rfl (arr_size _ _ _) arr_one rfl (arr_sz _ _ _ _ _) (.inl rfl) ?_
    refine e_nil ?_
    refine e_seq ?_
    refine e_seq ?_
    refine e_plain ?_
    refine e_move rfl rfl ?_
    refine e_nil ?_
    refine e_block ?_
    refine e_loop (fun kk E m => ∃ (n : Nat), kk = 10 - n ∧ E = [(6, ptr r3), (8, ptr r4), (10, ptr r5), (44, ii n)] ∧ m = [(0, some ⟨r1, arr .u8 32 k, 36⟩), (1, some ⟨r2, arr .u8 12 nn, 23⟩), (2, some ⟨r3, arr .u8 64 (fun _ => 0), 44⟩), (3, some ⟨r4, arr .u32 16 (wrd A), 70⟩), (4, some ⟨r5, arr .u32 16 (dbls (wrd A) n), 70⟩)] ∧ (n ≤ 10)) [(6, ptr r3), (8, ptr r4), (10, ptr r5), (44, ii 0)] [(0, some ⟨r1, arr .u8 32 k, 36⟩), (1, some ⟨r2, arr .u8 12 nn, 23⟩), (2, some ⟨r3, arr .u8 64 (fun _ => 0), 44⟩), (3, some ⟨r4, arr .u32 16 (wrd A), 70⟩), (4, some ⟨r5, arr .u32 16 (dbls (wrd A) 0), 70⟩)] (10 - 0) ⟨rfl, rfl, rfl, rfl, trivial⟩ ⟨rfl, rfl, rfl, rfl, rfl, trivial⟩ ⟨0, rfl, rfl, rfl, by omega⟩ ?_
    rintro kk E m ⟨n, rfl, rfl, rfl, hf1_0⟩
    refine e_seq ?_
    refine e_plain ?_
    refine e_lt rfl rfl rfl ?_
    refine e_nil ?_
    refine e_seq ?_
    refine e_cond rfl ?_ ?_
    · intro hc1
      have hc1 := of_decide_eq_true hc1
      refine e_skip ?_
      refine e_seq ?_
      refine e_block ?_
      refine e_plain ?_
      refine e_loadA (i := 4) und70 rfl siz70 rfl rfl (arr_size _ _ _) rfl ⟨[], trivial⟩ ?_
      refine e_call rfl ent39 (round_fn _) rfl rfl ?_
      refine e_call rfl ent38 (sh1_fn _) rfl rfl ?_
      refine e_call rfl ent39 (round_fn _) rfl rfl ?_
      refine e_call rfl ent38 (shm_fn _) rfl rfl ?_
      refine e_storeA (i := 4) siz70 rfl rfl (arr_size _ _ _) arr_one rfl (arr_sz _ _ _ _ _) (.inl rfl) ?_
      refine e_nil ?_
      refine e_plain ?_
      refine e_add_i (q := 1) rfl rfl rfl (by omega) ?_
      refine e_move rfl rfl ?_
      refine e_nil ?_
      refine ⟨_, [(6, ptr r3), (8, ptr r4), (10, ptr r5), (44, ii (n + 1))], [(0, some ⟨r1, arr .u8 32 k, 36⟩), (1, some ⟨r2, arr .u8 12 nn, 23⟩), (2, some ⟨r3, arr .u8 64 (fun _ => 0), 44⟩), (3, some ⟨r4, arr .u32 16 (wrd A), 70⟩), (4, some ⟨r5, arr .u32 16 (dbls (wrd A) (n + 1)), 70⟩)], ?_, ⟨rfl, rfl, rfl, rfl, trivial⟩, ⟨rfl, rfl, rfl, rfl, rfl, trivial⟩, n + 1, rfl, rfl, rfl, by omega⟩
      omega
    · intro hc1
      have hc1 := of_decide_eq_false hc1
      have hn10 : n = 10 := by omega
      subst hn10
      refine e_exit ?_
      refine e_seq ?_
      refine e_plain ?_
      refine e_assign (v := sv []) rfl rfl ?_
      refine e_nil ?_
      refine e_seq ?_
      refine e_seq ?_
      refine e_plain ?_
      refine e_move rfl rfl ?_
      refine e_nil ?_
      refine e_block ?_
      refine e_loop (fun kk E m => ∃ (q : Nat), kk = 16 - q ∧ E = [(6, ptr r3), (8, ptr r4), (10, ptr r5), (11, sv (outl (dbls (wrd A) 10) (wrd A) q)), (52, ii q)] ∧ m = [(0, some ⟨r1, arr .u8 32 k, 36⟩), (1, some ⟨r2, arr .u8 12 nn, 23⟩), (2, some ⟨r3, arr .u8 64 (fun _ => 0), 44⟩), (3, some ⟨r4, arr .u32 16 (wrd A), 70⟩), (4, some ⟨r5, arr .u32 16 (dbls (wrd A) 10), 70⟩)] ∧ (q ≤ 16)) [(6, ptr r3), (8, ptr r4), (10, ptr r5), (11, sv (outl (dbls (wrd A) 10) (wrd A) 0)), (52, ii 0)] [(0, some ⟨r1, arr .u8 32 k, 36⟩), (1, some ⟨r2, arr .u8 12 nn, 23⟩), (2, some ⟨r3, arr .u8 64 (fun _ => 0), 44⟩), (3, some ⟨r4, arr .u32 16 (wrd A), 70⟩), (4, some ⟨r5, arr .u32 16 (dbls (wrd A) 10), 70⟩)] (16 - 0) ⟨rfl, rfl, rfl, rfl, rfl, trivial⟩ ⟨rfl, rfl, rfl, rfl, rfl, trivial⟩ ⟨0, rfl, rfl, rfl, by omega⟩ ?_
      rintro kk E m ⟨q, rfl, rfl, rfl, hf2_0⟩
      have hbq := hbl q
      refine e_seq ?_
      refine e_plain ?_
      refine e_lt rfl rfl rfl ?_
      refine e_nil ?_
      refine e_seq ?_
      refine e_cond rfl ?_ ?_
      · intro hc2
        have hc2 := of_decide_eq_true hc2
        refine e_skip ?_
        refine e_seq ?_
        refine e_block ?_
        refine e_seq ?_
        refine e_plain ?_
        refine e_move rfl rfl ?_
        refine e_assign rfl rfl ?_
        refine e_nil ?_
        refine e_draw mixed (by kernel_rfl) ?_
        refine e_move rfl rfl ?_
        refine e_move rfl rfl ?_
        refine e_quo_i (q := 4) rfl rfl rfl (by omega) (by omega) ?_
        refine e_move rfl rfl ?_
        refine e_rem_i (q := 4) rfl rfl rfl (by omega) ?_
        refine e_at (4 * (q / 4)) und70 siz69 rfl rfl (by omega) (by omega) rfl ?_
        refine e_at (q) und69 siz41 rfl rfl (by omega) (by omega) rfl ?_
        refine e_load1 (i := 4) und41 rfl rfl rfl (arr_get (by omega)) rfl ⟨[], trivial⟩ ?_
        refine e_move rfl rfl ?_
        refine e_quo_i (q := 4) rfl rfl rfl (by omega) (by omega) ?_
        refine e_move rfl rfl ?_
        refine e_rem_i (q := 4) rfl rfl rfl (by omega) ?_
        refine e_at (4 * (q / 4)) und70 siz69 rfl rfl (by omega) (by omega) rfl ?_
        refine e_at (q) und69 siz41 rfl rfl (by omega) (by omega) rfl ?_
        refine e_load1 (i := 3) und41 rfl rfl rfl (arr_get (by omega)) rfl ⟨[], trivial⟩ ?_
        refine e_add_w rfl rfl rfl  ?_
        refine e_conv_u und41 und52 rfl rfl rfl ?_
        refine e_as (congrArg u (Nat.mod_eq_of_lt (Nat.lt_trans (Nat.mod_lt _ (by decide)) (by decide)))) ?_
        refine e_call rfl ent27 (low_fn _ 4 (Nat.lt_trans (Nat.mod_lt _ (by decide)) (by decide)) (by decide)) rfl rfl ?_
        refine e_catS rfl rfl rfl (by rw [lowl_len]; omega) ?_
        refine e_assign rfl rfl ?_
        refine e_nil ?_
        refine e_plain ?_
        refine e_add_i (q := 1) rfl rfl rfl (by omega) ?_
        refine e_move rfl rfl ?_
        refine e_nil ?_
        refine ⟨_, [(6, ptr r3), (8, ptr r4), (10, ptr r5), (11, sv (outl (dbls (wrd A) 10) (wrd A) (q + 1))), (52, ii (q + 1))], [(0, some ⟨r1, arr .u8 32 k, 36⟩), (1, some ⟨r2, arr .u8 12 nn, 23⟩), (2, some ⟨r3, arr .u8 64 (fun _ => 0), 44⟩), (3, some ⟨r4, arr .u32 16 (wrd A), 70⟩), (4, some ⟨r5, arr .u32 16 (dbls (wrd A) 10), 70⟩)], ?_, ⟨rfl, rfl, rfl, rfl, rfl, trivial⟩, ⟨rfl, rfl, rfl, rfl, rfl, trivial⟩, q + 1, rfl, rfl, rfl, by omega⟩
        omega
      · intro hc2
        have hc2 := of_decide_eq_false hc2
        have hq16 : q = 16 := by omega
        subst hq16
        refine e_exit ?_
        refine e_seq ?_
        refine e_plain ?_
        refine e_alloc 5 zer44 rfl fun r6 => ?_
        refine e_nil ?_
        refine e_seq ?_
        refine e_plain ?_
        refine e_sliceA 0 64 und44 siz5 rfl rfl rfl rfl rfl (by omega) (by omega) (by omega) rfl ?_
        refine e_move rfl rfl ?_
        refine e_copyStr (i := 5) und24 siz5 rfl rfl (outl_lt _ _ 16) rfl (by omega) rfl ?_
        refine e_nil ?_
        refine e_seq ?_
        refine e_plain ?_
        refine e_loadA (i := 5) und44 rfl siz44 rfl rfl (arr_size _ _ _) rfl ⟨[], trivial⟩ ?_
        refine e_as (congrArg Value.agg (copy_end _ (hbl 16))) ?_
        refine e_storeA (i := 2) siz44 rfl rfl (arr_size _ _ _) arr_one rfl (arr_sz _ _ _ _ _) (.inl rfl) ?_
        refine e_nil ?_
        refine e_ret ?_
        subst hA
        exact ⟨_, rfl, .cell (i := 2) rfl rfl und44 rfl siz44 (arr_size _ _ _)⟩

end Go.Proofs.Ytoalabpbohkcjaa

/-
  Walks, written by a program of ours off the loaded functions.
-/
namespace Go.Proofs.Ytoalabpbohkcjaa
open Go Go.RowKit


theorem byt5 : (Try.prog.info? 5).map (·.bytes) = some 1 := by kernel_rfl
theorem ent23 : enters Try.prog 23 = true := by kernel_rfl
theorem ent24 : enters Try.prog 24 = true := by kernel_rfl
theorem siz23 : (Try.prog.info? 23).map (·.size) = some 12 := by kernel_rfl
theorem siz36 : (Try.prog.info? 36).map (·.size) = some 32 := by kernel_rfl
theorem und3 : Try.prog.underlying 3 = some (.int .i64) := by kernel_rfl

variable {G : Mem}

set_option maxHeartbeats 400000 in
theorem rest_end (k : Nat → Nat) (c : Nat) (nn : Nat → Nat) (v : Value) (l : List Nat) (at_ : Nat) (hv : Shows G 1 v l.length (l.map by8)) (hat : l.length ≤ at_) : Fx Try.prog G [] 23 #[.agg (arr .u8 32 k), uw c, .agg (arr .u8 12 nn), v, ii at_] (fun v l1 nw => l1 = [] ∧ ∃ v', v = v' ∧ OwnS 5 1 v' (l.length - at_) ((strl k c nn l at_).map by8) nw) := by
  refine fxN (n := 61) Try.func23 rfl rfl (by simp) (argE [.agg (arr .u8 32 k), uw c, .agg (arr .u8 12 nn), v, ii at_] 0) (argE_ok _) ?_
  refine e_seq ?_
  refine e_plain ?_
  refine e_box 0 rfl rfl fun r1 => ?_
  refine e_box 1 rfl rfl fun r2 => ?_
  refine e_assign rfl rfl ?_
  refine e_nil ?_
  refine e_seq ?_
  refine e_seq ?_
  refine e_plain ?_
  refine e_move rfl rfl ?_
  refine e_move rfl rfl ?_
  refine e_lenV hv und24 rfl rfl rfl ?_
  refine e_ge rfl rfl rfl ?_
  refine e_as (congrArg Value.bool (decide_eq_true (by omega))) ?_
  refine e_nil ?_
  refine e_cond rfl ?_ ?_
  · intro hc0
    refine e_seq ?_
    refine e_plain ?_
    refine e_assign rfl rfl ?_
    refine e_nil ?_
    refine e_ret ?_
    exact ⟨_, _, _, 99, rfl, .tmp rfl, (own_fix (own_nil _ _) (by omega) (by rw [strl_none k c nn l hat]; rfl)), rfl⟩
  · intro hc0
    cases hc0

set_option maxHeartbeats 2000000 in
theorem rest_step (k : Nat → Nat) (c : Nat) (nn : Nat → Nat) (v : Value) (l : List Nat) (at_ : Nat) (hv : Shows G 1 v l.length (l.map by8)) (hk : ∀ j, j < 32 → k j < 256) (hn : ∀ j, j < 12 → nn j < 256) (hat : at_ < l.length) (h64 : at_ % 64 = 0) (hlen : l.length ≤ 4294967296) (ih : Fx Try.prog G [] 23 #[.agg (arr .u8 32 k), uw c, .agg (arr .u8 12 nn), v, ii (at_ + 64)] (fun v l1 nw => l1 = [] ∧ ∃ v', v = v' ∧ OwnS 5 1 v' (l.length - (at_ + 64)) ((strl k c nn l (at_ + 64)).map by8) nw)) : Fx Try.prog G [] 23 #[.agg (arr .u8 32 k), uw c, .agg (arr .u8 12 nn), v, ii at_] (fun v l1 nw => l1 = [] ∧ ∃ v', v = v' ∧ OwnS 5 1 v' (l.length - at_) ((strl k c nn l at_).map by8) nw) := by
  refine fxN (n := 61) Try.func23 rfl rfl (by simp) (argE [.agg (arr .u8 32 k), uw c, .agg (arr .u8 12 nn), v, ii at_] 0) (argE_ok _) ?_
  refine e_seq ?_
  refine e_plain ?_
  refine e_box 0 rfl rfl fun r1 => ?_
  refine e_box 1 rfl rfl fun r2 => ?_
  refine e_assign rfl rfl ?_
  refine e_nil ?_
  refine e_seq ?_
  refine e_seq ?_
  refine e_plain ?_
  refine e_move rfl rfl ?_
  refine e_move rfl rfl ?_
  refine e_lenV hv und24 rfl rfl rfl ?_
  refine e_ge rfl rfl rfl ?_
  refine e_as (congrArg Value.bool (decide_eq_false (by omega))) ?_
  refine e_nil ?_
  refine e_cond rfl ?_ ?_
  · intro hc0
    cases hc0
  · intro hc0
    refine e_skip ?_
    refine e_seq ?_
    refine e_plain ?_
    refine e_loadA (i := 0) und36 rfl siz36 rfl rfl (arr_size _ _ _) rfl ⟨[], trivial⟩ ?_
    refine e_move rfl rfl ?_
    refine e_move rfl rfl ?_
    refine e_quo_i (q := 64) rfl rfl rfl (by omega) (by omega) ?_
    refine e_conv_w und3 und41 rfl rfl rfl ?_
    refine e_add_w rfl rfl rfl  ?_
    refine e_loadA (i := 1) und23 rfl siz23 rfl rfl (arr_size _ _ _) rfl ⟨[], trivial⟩ ?_
    refine e_call rfl ent24 (blockOf_fn k _ nn hk hn (Nat.mod_lt _ (by decide))) rfl rfl ?_
    refine e_alloc 2 zer44 rfl fun r3 => ?_
    refine e_storeA (i := 2) siz44 rfl rfl (arr_size _ _ _) arr_one rfl (arr_sz _ _ _ _ _) (.inl rfl) ?_
    refine e_nil ?_
    refine e_seq ?_
    refine e_plain ?_
    refine e_assign rfl rfl ?_
    refine e_nil ?_
    refine e_seq ?_
    refine e_seq ?_
    refine e_plain ?_
    refine e_move rfl rfl ?_
    refine e_assign rfl rfl ?_
    refine e_nil ?_
    refine e_block ?_
    refine e_loop (fun kk E m => ∃ (i : Nat) (vo : Value) (oz : Option Blk), kk = l.length - (at_ + i) ∧ E = [(1, uw c), (3, v), (4, ii at_), (5, ptr r1), (7, ptr r2), (11, ptr r3), (12, vo), (13, ii (at_ + i))] ∧ m = [(0, some ⟨r1, arr .u8 32 k, 36⟩), (1, some ⟨r2, arr .u8 12 nn, 23⟩), (2, some ⟨r3, (arr .u8 64 (blkf k ((c + at_ / 64 % 4294967296) % 4294967296) nn)), 44⟩), (9, oz)] ∧ (i ≤ 64) ∧ (at_ + i ≤ l.length) ∧ (OwnS 5 1 vo i ((strp k c nn l at_ i).map by8) (Option.toList oz))) [(1, uw c), (3, v), (4, ii at_), (5, ptr r1), (7, ptr r2), (11, ptr r3), (12, nilS), (13, ii (at_ + 0))] [(0, some ⟨r1, arr .u8 32 k, 36⟩), (1, some ⟨r2, arr .u8 12 nn, 23⟩), (2, some ⟨r3, (arr .u8 64 (blkf k ((c + at_ / 64 % 4294967296) % 4294967296) nn)), 44⟩), (9, none)] (l.length - (at_ + 0)) ⟨rfl, rfl, rfl, rfl, rfl, rfl, rfl, rfl, trivial⟩ ⟨rfl, rfl, rfl, rfl, trivial⟩ ⟨0, nilS, none, rfl, rfl, rfl, by omega, by omega, own_nil _ _⟩ ?_
    rintro kk E m ⟨i, vo, oz, rfl, rfl, rfl, hf0_0, hf0_1, hf0_2⟩
    refine e_seq ?_
    refine e_seq ?_
    rcases (show at_ + i < l.length ∨ ¬ at_ + i < l.length by omega) with hlt | hlt
    · skip
      refine e_plain ?_
      refine e_move rfl rfl ?_
      refine e_move rfl rfl ?_
      refine e_lenV hv und24 rfl rfl rfl ?_
      refine e_lt rfl rfl rfl ?_
      refine e_as (congrArg Value.bool (decide_eq_true (by omega))) ?_
      refine e_move rfl rfl ?_
      refine e_yes rfl rfl rfl ?_
      refine e_move rfl rfl ?_
      refine e_yes rfl rfl rfl ?_
      refine e_move rfl rfl ?_
      refine e_yes rfl rfl rfl ?_
      refine e_add_i (q := 64) rfl rfl rfl (by omega) ?_
      refine e_yes rfl rfl rfl ?_
      refine e_lt rfl rfl rfl ?_
      refine e_pickT rfl rfl rfl rfl ?_
      refine e_nil ?_
      refine e_cond rfl ?_ ?_
      · intro hc1
        have hc1 := of_decide_eq_true hc1
        refine e_skip ?_
        refine e_seq ?_
        refine e_block ?_
        refine e_draw mixed (by kernel_rfl) ?_
        refine e_move rfl rfl ?_
        refine e_move rfl rfl ?_
        refine e_move rfl rfl ?_
        refine e_atV hv und24 siz5 rfl rfl (by omega) rfl ?_
        refine e_as (congrArg (slAddr _) (Nat.mul_one _)) ?_
        refine e_loadV hv seenG und5 rfl rfl (by rw [List.getElem?_map, List.getElem?_eq_getElem (show at_ + i < l.length by omega)]; rfl) rfl ?_
        refine e_move rfl rfl ?_
        refine e_move rfl rfl ?_
        refine e_sub_z rfl rfl rfl (by omega) (by omega) ?_
        refine e_as (congrArg (Value.int .i64) (show ((at_ + i : Nat) : Int) - ((at_ : Nat) : Int) = ((i : Nat) : Int) by omega)) ?_
        refine e_index0 und44 siz5 rfl rfl (by omega) rfl ?_
        refine e_load1 (i := 2) und5 rfl rfl rfl (arr_get (by omega)) rfl ⟨[], trivial⟩ ?_
        refine e_xor_b rfl rfl rfl  ?_
        refine e_as (congrArg by8 (strv_at k c nn l (show at_ + i < l.length by omega) h64 (show i < 64 by omega))) ?_
        refine e_buildSl 3 #[by8 (strv k c nn l (at_ + i))] und24 siz5 zer5 (by decide) (by decide) rfl (by kernel_rfl) rfl fun r4 => ?_
        refine e_append 9 hf0_2 (shows_new _ _ (by rfl)) rfl (seen1 3 rfl ⟨[], trivial⟩) und24 siz5 byt5 zer5 (by rfl) rfl rfl (by simp [Value.oneCell']) (by simp only [maxLen]; omega) (by omega) rfl fun v4_1 oz4_1 ho4_1 => ?_
        refine e_assign rfl rfl ?_
        refine e_nil ?_
        refine e_plain ?_
        refine e_move rfl rfl ?_
        refine e_add_i (q := 1) rfl rfl rfl (by omega) ?_
        refine e_assign rfl rfl ?_
        refine e_nil ?_
        refine ⟨_, [(1, uw c), (3, v), (4, ii at_), (5, ptr r1), (7, ptr r2), (11, ptr r3), (12, _), (13, ii (at_ + (i + 1)))], [(0, some ⟨r1, arr .u8 32 k, 36⟩), (1, some ⟨r2, arr .u8 12 nn, 23⟩), (2, some ⟨r3, (arr .u8 64 (blkf k ((c + at_ / 64 % 4294967296) % 4294967296) nn)), 44⟩), (9, _)], ?_, ⟨rfl, rfl, rfl, rfl, rfl, rfl, rfl, rfl, trivial⟩, ⟨rfl, rfl, rfl, rfl, trivial⟩, i + 1, _, _, rfl, rfl, rfl, by omega, by omega, own_fix ho4_1 rfl (by rw [← strp_succ, List.map_append]; rfl)⟩
        omega
      · intro hc1
        have hc1 := of_decide_eq_false hc1
        have hfin : (i = 64 ∧ at_ + 64 ≤ l.length) ∨ (at_ + i = l.length) := by omega
        refine e_exit ?_
        refine e_seq ?_
        refine e_plainR ⟨[], 4, []⟩ ?_
        refine e_move rfl rfl ?_
        refine e_loadA (i := 0) und36 rfl siz36 rfl rfl (arr_size _ _ _) rfl ⟨[], trivial⟩ ?_
        refine e_move rfl rfl ?_
        refine e_loadA (i := 1) und23 rfl siz23 rfl rfl (arr_size _ _ _) rfl ⟨[], trivial⟩ ?_
        refine e_move rfl rfl ?_
        refine e_move rfl rfl ?_
        refine e_add_i (q := 64) rfl rfl rfl (by omega) ?_
        refine e_callN 3 (fun v => v) rfl rfl ent23 seenG ih (by simp only [maxLen]; omega) (by rw [List.length_map, strl_len, Nat.mul_one]) rfl rfl fun v4_1 oz4_1 ho4_1 => ?_
        refine e_append 9 hf0_2 ho4_1.shows rfl (seenM 3 rfl ⟨[], trivial⟩) und24 siz5 byt5 zer5 (by rfl) rfl rfl by8_one (by simp only [maxLen]; omega) (by omega) rfl fun v4_2 oz4_2 ho4_2 => ?_
        refine e_assign rfl rfl ?_
        refine e_nil ?_
        refine e_ret ?_
        exact ⟨_, _, _, 9, rfl, .tmp rfl, (own_fix ho4_2 (by omega) (by rw [← List.map_append, strp_all k c nn l hfin (by omega)])), rfl⟩
    · skip
      refine e_plain ?_
      refine e_move rfl rfl ?_
      refine e_move rfl rfl ?_
      refine e_lenV hv und24 rfl rfl rfl ?_
      refine e_lt rfl rfl rfl ?_
      refine e_as (congrArg Value.bool (decide_eq_false (by omega))) ?_
      refine e_move rfl rfl ?_
      refine e_no rfl rfl (by decide) rfl ?_
      refine e_no rfl rfl (by decide) rfl ?_
      refine e_no rfl rfl (by decide) rfl ?_
      refine e_no rfl rfl (by decide) rfl ?_
      refine e_pickF rfl rfl rfl rfl ?_
      refine e_nil ?_
      refine e_cond rfl ?_ ?_
      · intro hc1
        cases hc1
      · intro hc1
        have hfin : (i = 64 ∧ at_ + 64 ≤ l.length) ∨ (at_ + i = l.length) := by omega
        refine e_exit ?_
        refine e_seq ?_
        refine e_plainR ⟨[], 4, []⟩ ?_
        refine e_move rfl rfl ?_
        refine e_loadA (i := 0) und36 rfl siz36 rfl rfl (arr_size _ _ _) rfl ⟨[], trivial⟩ ?_
        refine e_move rfl rfl ?_
        refine e_loadA (i := 1) und23 rfl siz23 rfl rfl (arr_size _ _ _) rfl ⟨[], trivial⟩ ?_
        refine e_move rfl rfl ?_
        refine e_move rfl rfl ?_
        refine e_add_i (q := 64) rfl rfl rfl (by omega) ?_
        refine e_callN 3 (fun v => v) rfl rfl ent23 seenG ih (by simp only [maxLen]; omega) (by rw [List.length_map, strl_len, Nat.mul_one]) rfl rfl fun v4_1 oz4_1 ho4_1 => ?_
        refine e_append 9 hf0_2 ho4_1.shows rfl (seenM 3 rfl ⟨[], trivial⟩) und24 siz5 byt5 zer5 (by rfl) rfl rfl by8_one (by simp only [maxLen]; omega) (by omega) rfl fun v4_2 oz4_2 ho4_2 => ?_
        refine e_assign rfl rfl ?_
        refine e_nil ?_
        refine e_ret ?_
        exact ⟨_, _, _, 9, rfl, .tmp rfl, (own_fix ho4_2 (by omega) (by rw [← List.map_append, strp_all k c nn l hfin (by omega)])), rfl⟩

end Go.Proofs.Ytoalabpbohkcjaa

/-
  Walks, written by a program of ours off the loaded functions.
-/
namespace Go.Proofs.Ytoalabpbohkcjaa
open Go Go.RowKit

theorem rest_fn {G : Mem} (k : Nat → Nat) (c : Nat) (nn : Nat → Nat) (v : Value) (l : List Nat) (hv : Shows G 1 v l.length (l.map by8)) (hk : ∀ j, j < 32 → k j < 256) (hn : ∀ j, j < 12 → nn j < 256) (hlen : l.length ≤ 4294967296) :
    ∀ m at_, at_ % 64 = 0 → l.length ≤ at_ + 64 * m → Fx Try.prog G [] 23 #[.agg (arr .u8 32 k), uw c, .agg (arr .u8 12 nn), v, ii at_] (fun v l1 nw => l1 = [] ∧ ∃ v', v = v' ∧ OwnS 5 1 v' (l.length - at_) ((strl k c nn l at_).map by8) nw)
  | 0, at_, _, h => rest_end k c nn v l at_ hv (by omega)
  | m + 1, at_, h64, h => by
    by_cases hat : l.length ≤ at_
    · exact rest_end k c nn v l at_ hv hat
    · exact rest_step k c nn v l at_ hv hk hn (by omega) h64 hlen (rest_fn k c nn v l hv hk hn hlen m (at_ + 64) (by omega) (by omega))


variable {G : Mem}

set_option maxHeartbeats 400000 in
theorem streamed_big (k : Nat → Nat) (c : Nat) (nn : Nat → Nat) (v : Value) (l : List Nat) (hv : Shows G 1 v l.length (l.map by8)) (hb : 1600 < l.length) : Fn Try.prog G 16 #[.agg (arr .u8 32 k), uw c, .agg (arr .u8 12 nn), v] (.tuple #[nilS, ii 1]) := by
  refine fn2 (n := 25) Try.func16 rfl rfl (by simp) (argE [.agg (arr .u8 32 k), uw c, .agg (arr .u8 12 nn), v] 0) (argE_ok _) ?_
  refine e_seq ?_
  refine e_plain ?_
  refine e_box 0 rfl rfl fun r1 => ?_
  refine e_box 1 rfl rfl fun r2 => ?_
  refine e_assign rfl rfl ?_
  refine e_assign rfl rfl ?_
  refine e_nil ?_
  refine e_seq ?_
  refine e_seq ?_
  refine e_plain ?_
  refine e_move rfl rfl ?_
  refine e_lenV hv und24 rfl rfl rfl ?_
  refine e_gt rfl rfl rfl ?_
  refine e_as (congrArg Value.bool (decide_eq_true (by omega))) ?_
  refine e_nil ?_
  refine e_cond rfl ?_ ?_
  · intro hc0
    refine e_seq ?_
    refine e_plain ?_
    refine e_assign rfl rfl ?_
    refine e_assign rfl rfl ?_
    refine e_nil ?_
    refine e_ret ?_
    exact ⟨_, _, rfl, .tmp rfl, .tmp rfl⟩
  · intro hc0
    cases hc0

set_option maxHeartbeats 400000 in
theorem streamed_over (k : Nat → Nat) (c : Nat) (nn : Nat → Nat) (v : Value) (l : List Nat) (hv : Shows G 1 v l.length (l.map by8)) (hc : c < 4294967296) (hb : l.length ≤ 1600) (ho : 64 * (4294967296 - c) < l.length) : Fn Try.prog G 16 #[.agg (arr .u8 32 k), uw c, .agg (arr .u8 12 nn), v] (.tuple #[nilS, ii 11]) := by
  refine fn2 (n := 25) Try.func16 rfl rfl (by simp) (argE [.agg (arr .u8 32 k), uw c, .agg (arr .u8 12 nn), v] 0) (argE_ok _) ?_
  refine e_seq ?_
  refine e_plain ?_
  refine e_box 0 rfl rfl fun r1 => ?_
  refine e_box 1 rfl rfl fun r2 => ?_
  refine e_assign rfl rfl ?_
  refine e_assign rfl rfl ?_
  refine e_nil ?_
  refine e_seq ?_
  refine e_seq ?_
  refine e_plain ?_
  refine e_move rfl rfl ?_
  refine e_lenV hv und24 rfl rfl rfl ?_
  refine e_gt rfl rfl rfl ?_
  refine e_as (congrArg Value.bool (decide_eq_false (by omega))) ?_
  refine e_nil ?_
  refine e_cond rfl ?_ ?_
  · intro hc0
    cases hc0
  · intro hc0
    refine e_skip ?_
    refine e_seq ?_
    refine e_seq ?_
    refine e_plain ?_
    refine e_move rfl rfl ?_
    refine e_lenV hv und24 rfl rfl rfl ?_
    refine e_move rfl rfl ?_
    refine e_conv_i und41 und3 rfl rfl rfl (by omega) ?_
    refine e_sub_z (p := 4294967296) rfl rfl rfl (by omega) (by omega) ?_
    refine e_as (congrArg (Value.int .i64) (show (4294967296 : Int) - ((c : Nat) : Int) = ((4294967296 - c : Nat) : Int) by omega)) ?_
    refine e_mul_i (p := 64) rfl rfl rfl (by omega) ?_
    refine e_gt rfl rfl rfl ?_
    refine e_as (congrArg Value.bool (decide_eq_true (by omega))) ?_
    refine e_nil ?_
    refine e_cond rfl ?_ ?_
    · intro hc1
      refine e_seq ?_
      refine e_plain ?_
      refine e_assign rfl rfl ?_
      refine e_assign rfl rfl ?_
      refine e_nil ?_
      refine e_ret ?_
      exact ⟨_, _, rfl, .tmp rfl, .tmp rfl⟩
    · intro hc1
      cases hc1

set_option maxHeartbeats 400000 in
theorem streamed_ok (k : Nat → Nat) (c : Nat) (nn : Nat → Nat) (v : Value) (l : List Nat) (hv : Shows G 1 v l.length (l.map by8)) (hk : ∀ j, j < 32 → k j < 256) (hn : ∀ j, j < 12 → nn j < 256) (hc : c < 4294967296) (hb : l.length ≤ 1600) (ho : ¬ 64 * (4294967296 - c) < l.length) : Fx Try.prog G [] 16 #[.agg (arr .u8 32 k), uw c, .agg (arr .u8 12 nn), v] (fun v l1 nw => l1 = [] ∧ ∃ v', v = .tuple #[v', ii 0] ∧ OwnS 5 1 v' (l.length - 0) ((strl k c nn l 0).map by8) nw) := by
  refine fxN2 (n := 25) Try.func16 rfl rfl (by simp) (argE [.agg (arr .u8 32 k), uw c, .agg (arr .u8 12 nn), v] 0) (argE_ok _) ?_
  refine e_seq ?_
  refine e_plain ?_
  refine e_box 0 rfl rfl fun r1 => ?_
  refine e_box 1 rfl rfl fun r2 => ?_
  refine e_assign rfl rfl ?_
  refine e_assign rfl rfl ?_
  refine e_nil ?_
  refine e_seq ?_
  refine e_seq ?_
  refine e_plain ?_
  refine e_move rfl rfl ?_
  refine e_lenV hv und24 rfl rfl rfl ?_
  refine e_gt rfl rfl rfl ?_
  refine e_as (congrArg Value.bool (decide_eq_false (by omega))) ?_
  refine e_nil ?_
  refine e_cond rfl ?_ ?_
  · intro hc0
    cases hc0
  · intro hc0
    refine e_skip ?_
    refine e_seq ?_
    refine e_seq ?_
    refine e_plain ?_
    refine e_move rfl rfl ?_
    refine e_lenV hv und24 rfl rfl rfl ?_
    refine e_move rfl rfl ?_
    refine e_conv_i und41 und3 rfl rfl rfl (by omega) ?_
    refine e_sub_z (p := 4294967296) rfl rfl rfl (by omega) (by omega) ?_
    refine e_as (congrArg (Value.int .i64) (show (4294967296 : Int) - ((c : Nat) : Int) = ((4294967296 - c : Nat) : Int) by omega)) ?_
    refine e_mul_i (p := 64) rfl rfl rfl (by omega) ?_
    refine e_gt rfl rfl rfl ?_
    refine e_as (congrArg Value.bool (decide_eq_false (by omega))) ?_
    refine e_nil ?_
    refine e_cond rfl ?_ ?_
    · intro hc1
      cases hc1
    · intro hc1
      refine e_skip ?_
      refine e_seq ?_
      refine e_plainR ⟨[], 4, []⟩ ?_
      refine e_loadA (i := 0) und36 rfl siz36 rfl rfl (arr_size _ _ _) rfl ⟨[], trivial⟩ ?_
      refine e_move rfl rfl ?_
      refine e_loadA (i := 1) und23 rfl siz23 rfl rfl (arr_size _ _ _) rfl ⟨[], trivial⟩ ?_
      refine e_move rfl rfl ?_
      refine e_callN 2 (fun v => v) rfl rfl ent23 seenG (rest_fn k c nn v l hv hk hn (by omega) 25 0 rfl (by omega)) (by simp only [maxLen]; omega) (by rw [List.length_map, strl_len, Nat.mul_one]) rfl rfl fun v3_1 oz3_1 ho3_1 => ?_
      refine e_assign rfl rfl ?_
      refine e_assign rfl rfl ?_
      refine e_nil ?_
      refine e_ret ?_
      exact ⟨_, _, _, _, 2, rfl, .tmp rfl, .tmp rfl, ho3_1, rfl⟩

end Go.Proofs.Ytoalabpbohkcjaa
