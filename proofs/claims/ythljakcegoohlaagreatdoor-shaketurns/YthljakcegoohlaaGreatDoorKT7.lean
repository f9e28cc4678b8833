import Derived.Test.YthljakcegoohlaaGreatDoorKT6
import Derived.Test.YthljakcegoohlaaGreatDoorRows
set_option maxRecDepth 30000
/-
  Facts on this program's types, in tables.
-/
namespace Go.Proofs.YthljakcegoohlaaGreatDoor
open Go Go.RowKit
def lkT {α : Type} : List (Nat × α) → Nat → Option α
  | [], _ => none
  | (k, a) :: l, t => bif Nat.beq k t then some a else lkT l t
theorem lkT_map {α : Type} {f : Nat → Option α} : ∀ {L : List (Nat × α)} {t : Nat} {d : α}, L.map (fun p => f p.1) = L.map (fun p => some p.2) → lkT L t = some d → f t = some d
  | [], _, _, _, h => by cases h
  | (k, a) :: L, t, d, h, hk => by
    rw [List.map_cons, List.map_cons, List.cons.injEq] at h
    unfold lkT at hk
    cases hb : Nat.beq k t with
    | true => rw [hb] at hk; rw [← Nat.eq_of_beq_eq_true hb, h.1]; exact hk
    | false => rw [hb] at hk; exact lkT_map h.2 hk
theorem mixed : Tryz.prog.follows .mixedOrders = true := by kernel_rfl
def tbu : List (Nat × TypeDesc) := [(3, (.int .i64)), (4, (.bool)), (5, (.int .u8)), (9, (.string)), (22, (.slice 5)), (23, (.array 32 5)), (24, (.slice 30)), (25, (.slice 3)), (26, (.array 2 25)), (27, (.slice 25)), (29, (.struct #[.mk "Base" 9 0 false "" "" 0, .mk "Late" 4 1 false "" "" 16, .mk "Psks" 25 2 false "" "" 24, .mk "Pre" 26 3 false "" "" 48, .mk "Turns" 27 5 false "" "" 96])), (30, (.array 32 5)), (31, (.int .u64)), (33, (.struct #[.mk "Has" 4 0 false "" "" 0, .mk "Key" 30 1 false "" "" 1, .mk "N" 31 33 false "" "" 40])), (35, (.struct #[.mk "Cipher" 33 0 false "" "" 0, .mk "Chain" 30 34 false "" "" 48, .mk "Hash" 30 66 false "" "" 80])), (37, (.struct #[.mk "Pattern" 29 0 false "" "" 0, .mk "First" 4 6 false "" "" 120, .mk "Turn" 3 7 false "" "" 128, .mk "Dead" 4 8 false "" "" 136, .mk "Sym" 35 9 false "" "" 144, .mk "Own" 30 107 false "" "" 256, .mk "Fresh" 30 139 false "" "" 288, .mk "Has" 4 171 false "" "" 320, .mk "Their" 30 172 false "" "" 321, .mk "Knows" 4 204 false "" "" 353, .mk "Newest" 30 205 false "" "" 354, .mk "Saw" 4 237 false "" "" 386, .mk "Psks" 24 238 false "" "" 392, .mk "Used" 3 239 false "" "" 416])), (54, (.struct #[.mk "own" 30 0 false "" "signet/signetkeep" 0, .mk "fresh" 30 32 false "" "signet/signetkeep" 32])), (57, (.array 2 33)), (86, (.array 6 9)), (91, (.slice 54)), (102, (.array 3 30)), (118, (.int .u32)), (119, (.array 2 30)), (123, (.array 4 31)), (126, (.array 2 123)), (128, (.array 2 126)), (142, (.slice 9)), (146, (.array 8 118)), (147, (.array 64 5)), (149, (.struct #[.mk "H" 146 0 false "" "" 0, .mk "Held" 147 8 false "" "" 32, .mk "N" 3 72 false "" "" 96, .mk "Len" 3 73 false "" "" 104])), (156, (.array 16 31)), (158, (.struct #[.mk "x" 156 0 false "" "signet/signetref" 0, .mk "z" 156 16 false "" "signet/signetref" 128])), (171, (.slice 174)), (174, (.struct #[.mk "who" 3 0 false "" "signet/signetref" 0, .mk "token" 3 1 false "" "signet/signetref" 8])), (179, (.array 12 5)), (198, (.slice 22)), (202, (.int .u64)), (212, (.array 32 31)), (213, (.array 3 4)), (214, (.array 2 213)), (215, (.array 8 4)), (217, (.struct #[.mk "keys" 214 0 false "" "signet/pattern" 0, .mk "been" 215 6 false "" "signet/pattern" 6])), (246, (.array 256 5)), (249, (.array 4 118)), (250, (.array 4 249)), (263, (.array 16 5)), (268, (.array 64 5)), (273, (.array 16 118)), (290, (.array 2 31)), (291, (.array 3 31)), (293, (.struct #[.mk "R" 290 0 false "" "" 0, .mk "Pad" 290 2 false "" "" 16, .mk "Acc" 291 4 false "" "" 32, .mk "Held" 263 7 false "" "" 56, .mk "N" 3 23 false "" "" 72])), (308, (.array 8 31)), (312, (.array 16 3)), (313, (.array 10 312)), (325, (.array 2 3)), (342, (.array 16 118)), (345, (.array 5 31)), (346, (.array 5 31)), (358, (.array 3 31))]
theorem tbu_ok : tbu.map (fun p => (fun t => Tryz.prog.underlying t) p.1) = tbu.map (fun p => some p.2) := by kernel_rfl
set_option maxRecDepth 100000 in
theorem Tu {T : TypeId} {d : TypeDesc} (h : lkT tbu T = some d) : Tryz.prog.underlying T = some d := lkT_map (L := tbu) (f := fun t => Tryz.prog.underlying t) tbu_ok h
theorem Uu (T : TypeId) {d : TypeDesc} (h : lkT tbu T = some d := by rfl) : Tryz.prog.underlying T = some d := Tu h
def tbz : List (Nat × Nat) := [(3, 1), (4, 1), (5, 1), (9, 1), (22, 1), (23, 32), (24, 1), (25, 1), (26, 2), (27, 1), (29, 6), (30, 32), (31, 1), (33, 34), (35, 98), (37, 240), (54, 64), (57, 68), (102, 96), (118, 1), (119, 64), (123, 4), (126, 8), (128, 16), (146, 8), (147, 64), (149, 74), (156, 16), (158, 32), (174, 2), (179, 12), (213, 3), (214, 6), (215, 8), (249, 4), (250, 16), (263, 16), (268, 64), (273, 16), (290, 2), (291, 3), (293, 24), (308, 8), (312, 16), (325, 2), (342, 16), (345, 5), (346, 5), (358, 3)]
theorem tbz_ok : tbz.map (fun p => (fun t => (Tryz.prog.info? t).map (·.size)) p.1) = tbz.map (fun p => some p.2) := by kernel_rfl
set_option maxRecDepth 100000 in
theorem Tz {T : TypeId} {d : Nat} (h : lkT tbz T = some d) : (Tryz.prog.info? T).map (·.size) = some d := lkT_map (L := tbz) (f := fun t => (Tryz.prog.info? t).map (·.size)) tbz_ok h
theorem Uz (T : TypeId) {d : Nat} (h : lkT tbz T = some d := by rfl) : (Tryz.prog.info? T).map (·.size) = some d := Tz h
def tby : List (Nat × Nat) := [(3, 8), (5, 1), (9, 16), (25, 24), (30, 32), (174, 16)]
theorem tby_ok : tby.map (fun p => (fun t => (Tryz.prog.info? t).map (·.bytes)) p.1) = tby.map (fun p => some p.2) := by kernel_rfl
set_option maxRecDepth 100000 in
theorem Ty {T : TypeId} {d : Nat} (h : lkT tby T = some d) : (Tryz.prog.info? T).map (·.bytes) = some d := lkT_map (L := tby) (f := fun t => (Tryz.prog.info? t).map (·.bytes)) tby_ok h
theorem Uy (T : TypeId) {d : Nat} (h : lkT tby T = some d := by rfl) : (Tryz.prog.info? T).map (·.bytes) = some d := Ty h
def tbb : List (Nat × Value) := [(3, (.int .i64 0)), (5, (.int .u8 0)), (9, (.string ByteArray.empty)), (22, (.slice none 0 0)), (23, (.agg (arr .u8 32 fun _ => 0))), (25, (.slice none 0 0)), (26, (.agg #[.slice none 0 0, .slice none 0 0])), (29, (.agg (cells 6 [pV (.string ByteArray.empty), pV (.bool false), pV (.slice none 0 0), pV (.slice none 0 0), pV (.slice none 0 0), pV (.slice none 0 0)]))), (30, (.agg (arr .u8 32 fun _ => 0))), (33, (.agg (cells 34 [pV (.bool false), pI .u8 32 fun _ => 0, pV (.int .u64 0)]))), (35, (.agg (cells 98 [pV (.bool false), pI .u8 32 fun _ => 0, pV (.int .u64 0), pI .u8 32 fun _ => 0, pI .u8 32 fun _ => 0]))), (37, (.agg (cells 240 [pV (.string ByteArray.empty), pV (.bool false), pV (.slice none 0 0), pV (.slice none 0 0), pV (.slice none 0 0), pV (.slice none 0 0), pV (.bool false), pV (.int .i64 0), pV (.bool false), pV (.bool false), pI .u8 32 fun _ => 0, pV (.int .u64 0), pI .u8 32 fun _ => 0, pI .u8 32 fun _ => 0, pI .u8 32 fun _ => 0, pI .u8 32 fun _ => 0, pV (.bool false), pI .u8 32 fun _ => 0, pV (.bool false), pI .u8 32 fun _ => 0, pV (.bool false), pV (.slice none 0 0), pV (.int .i64 0)]))), (54, (.agg (arr .u8 64 fun _ => 0))), (57, (.agg (cells 68 [pV (.bool false), pI .u8 32 fun _ => 0, pV (.int .u64 0), pV (.bool false), pI .u8 32 fun _ => 0, pV (.int .u64 0)]))), (102, (.agg (arr .u8 96 fun _ => 0))), (119, (.agg (arr .u8 64 fun _ => 0))), (123, (.agg (arr .u64 4 fun _ => 0))), (126, (.agg (arr .u64 8 fun _ => 0))), (128, (.agg (arr .u64 16 fun _ => 0))), (146, (.agg (arr .u32 8 fun _ => 0))), (147, (.agg (arr .u8 64 fun _ => 0))), (149, (.agg (cells 74 [pI .u32 8 fun _ => 0, pI .u8 64 fun _ => 0, pV (.int .i64 0), pV (.int .i64 0)]))), (156, (.agg (arr .u64 16 fun _ => 0))), (158, (.agg (arr .u64 32 fun _ => 0))), (174, (.agg (arr .i64 2 fun _ => 0))), (179, (.agg (arr .u8 12 fun _ => 0))), (212, (.agg (arr .u64 32 fun _ => 0))), (217, (.agg (arrv 14 fun _ => .bool false))), (250, (.agg (arr .u32 16 fun _ => 0))), (263, (.agg (arr .u8 16 fun _ => 0))), (268, (.agg (arr .u8 64 fun _ => 0))), (273, (.agg (arr .u32 16 fun _ => 0))), (290, (.agg (arr .u64 2 fun _ => 0))), (291, (.agg (arr .u64 3 fun _ => 0))), (293, (.agg (cells 24 [pI .u64 2 fun _ => 0, pI .u64 2 fun _ => 0, pI .u64 3 fun _ => 0, pI .u8 16 fun _ => 0, pV (.int .i64 0)]))), (308, (.agg (arr .u64 8 fun _ => 0))), (325, (.agg (arr .i64 2 fun _ => 0))), (342, (.agg (arr .u32 16 fun _ => 0))), (345, (.agg (arr .u64 5 fun _ => 0))), (346, (.agg (arr .u64 5 fun _ => 0))), (358, (.agg (arr .u64 3 fun _ => 0)))]
theorem tbb_ok : tbb.map (fun p => (fun t => (Tryz.prog.info? t).bind (·.zero)) p.1) = tbb.map (fun p => some p.2) := by kernel_rfl
set_option maxRecDepth 100000 in
theorem Tb {T : TypeId} {d : Value} (h : lkT tbb T = some d) : (Tryz.prog.info? T).bind (·.zero) = some d := lkT_map (L := tbb) (f := fun t => (Tryz.prog.info? t).bind (·.zero)) tbb_ok h
theorem Ub (T : TypeId) {d : Value} (h : lkT tbb T = some d := by rfl) : (Tryz.prog.info? T).bind (·.zero) = some d := Tb h
def tbn : List Nat := [8, 11, 14, 16, 17, 20, 21, 22, 23, 24, 25, 26, 27, 28, 30, 33, 34, 37, 38, 39, 40, 46, 47, 48, 49, 50, 51, 53, 54, 55, 56, 57, 58, 59, 60, 61, 62, 63, 64, 65, 66, 67, 68, 69, 71, 74, 75, 76, 77, 78, 79, 80, 81, 82, 83, 84, 85, 86, 87, 88, 89, 90, 91, 92, 93, 94, 95, 96, 97, 98, 99, 100, 101, 102, 103, 104, 105, 106, 107, 108, 109, 110, 111, 112, 113, 114, 115, 116, 117, 118, 119, 120, 121, 122, 123, 124, 125, 126, 127, 128, 129, 130, 131, 132, 133, 134, 135, 136, 137, 138, 139, 140, 141, 142, 143, 144, 145, 146, 148, 149, 150, 151, 152, 153, 154, 155, 156, 157, 158, 159, 160, 161, 162, 163, 164, 165, 166, 167, 168, 169, 170, 171, 172, 173, 174, 178, 179, 180, 181, 182, 183, 184, 185, 186, 187, 188, 189, 190, 191, 192, 193, 194, 195, 197, 199, 202, 203, 204, 205, 206, 207, 208, 209, 210, 211, 212, 213, 214, 215, 216, 217, 218, 219, 220, 221, 222, 223, 224, 227, 228, 231, 232, 233, 234, 235, 236, 241, 242, 243, 244, 245, 246, 247, 248, 249, 250, 251, 252, 258, 259, 260, 261, 265, 266, 267, 268, 269, 270, 271, 277, 278, 279, 280, 281, 282, 283, 284, 285, 286, 287, 288, 289, 292, 293, 294, 295, 296, 297, 298, 299, 300, 301, 302, 303, 304, 305]
theorem tbn_ok : tbn.all (fun f => enters Tryz.prog f) = true := by kernel_rfl
theorem Un (f : FuncId) (h : tbn.contains f = true := by rfl) : enters Tryz.prog f = true := List.all_eq_true.1 tbn_ok f (List.contains_iff_mem.1 h)
end Go.Proofs.YthljakcegoohlaaGreatDoor
/-
  Rules with short names.
-/
namespace Go.Proofs.YthljakcegoohlaaGreatDoor
open Go Go.RowKit
variable {G : Mem} {R : Reg} {ops : Array Oper} {n : Nat} {K : Env → Mm → Prop} {Q : Exit → Env → Mm → Prop} {rest : List Oper} {E : Env} {M : Mm} {d : Nat} {ty : TypeId} {pos : String} {aft : Array Edge} {T : TypeId} {T' : TypeId} {x : Operand} {y : Operand}
theorem Qs {c : Code} {c' : Code} : (SatE Tryz.prog G c n (thenE (SatE Tryz.prog G c' n Q) Q) E M) → SatE Tryz.prog G (.seq c c') n Q E M := fun h => e_seq h
theorem Qp {id : Nat} : (OpsE Tryz.prog G noReg ops n (Q .normal) ops.toList E M) → SatE Tryz.prog G (.region id ops false) n Q E M := fun h => e_plain h
theorem Qn : (K E M) → OpsE Tryz.prog G R ops n K [] E M := fun h => e_nil h
theorem Qk : (Q .normal E M) → SatE Tryz.prog G .skip n Q E M := fun h => e_skip h
theorem Qb {id : Nat} {c : Code} : (SatE Tryz.prog G c n (inBlockE id Q) E M) → SatE Tryz.prog G (.block id c) n Q E M := fun h => e_block h
theorem Qe {id : Nat} : (Q (.exit id) E M) → SatE Tryz.prog G (.exit id) n Q E M := fun h => e_exit h
theorem Qr : (Q .ret E M) → SatE Tryz.prog G .ret n Q E M := fun h => e_ret h
theorem Qm {v : Value} (hx : rd E x = some v := by rfl) (hd : Nat.blt d n = true := by rfl) : (OpsE Tryz.prog G R ops n K rest ((d, v) :: E) M) → OpsE Tryz.prog G R ops n K (⟨some d, .move x, ty, pos, aft, none⟩ :: rest) E M := fun h => e_move hx hd h
theorem Qa {v : Value} (hx : rd E x = some v := by rfl) (hd : Nat.blt d n = true := by rfl) : (OpsE Tryz.prog G R ops n K rest ((d, v) :: E) M) → OpsE Tryz.prog G R ops n K (⟨some d, .assign x, ty, pos, aft, none⟩ :: rest) E M := fun h => e_assign hx hd h
theorem Qx {i : Nat} {vs : Array Value} {v : Value} (hx : rd E x = some (.tuple vs) := by rfl) (hv : vs[i]? = some v := by rfl) (hd : Nat.blt d n = true := by rfl) : (OpsE Tryz.prog G R ops n K rest ((d, v) :: E) M) → OpsE Tryz.prog G R ops n K (⟨some d, .extract x i, ty, pos, aft, none⟩ :: rest) E M := fun h => e_extract hx hv hd h
theorem Qy {dd : Option Tmp} {op : Op} {g : Nat} {s : Nat} {want : Bool} {b : Bool} (hg : (ops[g]?).bind (·.dst) = some s := by rfl) (hb : lk E s = some (.bool b) := by rfl) (hw : b = want := by rfl) : (OpsE Tryz.prog G R ops n K (⟨dd, op, ty, pos, aft, none⟩ :: rest) E M) → OpsE Tryz.prog G R ops n K (⟨dd, op, ty, pos, aft, some (g, want)⟩ :: rest) E M := fun h => e_yes hg hb hw h
theorem Qo {op : Op} {g : Nat} {s : Nat} {want : Bool} {b : Bool} (hg : (ops[g]?).bind (·.dst) = some s := by rfl) (hb : lk E s = some (.bool b) := by rfl) (hw : b ≠ want := by decide) (hd : Nat.blt d n = true := by rfl) : (OpsE Tryz.prog G R ops n K rest ((d, undef) :: E) M) → OpsE Tryz.prog G R ops n K (⟨some d, op, ty, pos, aft, some (g, want)⟩ :: rest) E M := fun h => e_no hg hb hw hd h
theorem QT {p : Operand} {q : Operand} {r : Operand} {t : Bool} {v : Value} (hc : rd E p = some (.bool t) := by rfl) (ht : t = true := by rfl) (hv : rd E q = some v := by rfl) (hd : Nat.blt d n = true := by rfl) : (OpsE Tryz.prog G R ops n K rest ((d, v) :: E) M) → OpsE Tryz.prog G R ops n K (⟨some d, .pick p q r, ty, pos, aft, none⟩ :: rest) E M := fun h => e_pickT hc ht hv hd h
theorem QF {p : Operand} {q : Operand} {r : Operand} {t : Bool} {v : Value} (hc : rd E p = some (.bool t) := by rfl) (ht : t = false := by rfl) (hv : rd E r = some v := by rfl) (hd : Nat.blt d n = true := by rfl) : (OpsE Tryz.prog G R ops n K rest ((d, v) :: E) M) → OpsE Tryz.prog G R ops n K (⟨some d, .pick p q r, ty, pos, aft, none⟩ :: rest) E M := fun h => e_pickF hc ht hv hd h
theorem Qg {id : Nat} (hm : Tryz.prog.follows .mixedOrders = true := by exact mixed) (hok : orderOk noReg ops (List.range ops.size) = true := by kernel_rfl) : (OpsE Tryz.prog G noReg ops n (Q .normal) ops.toList E M) → SatE Tryz.prog G (.region id ops true) n Q E M := fun h => e_draw hm hok h
theorem QR {id : Nat} (R : Reg) : (OpsE Tryz.prog G R ops n (Q .normal) ops.toList E M) → SatE Tryz.prog G (.region id ops false) n Q E M := fun h => e_plainR R h
theorem Qq {id : Nat} (R : Reg) (hm : Tryz.prog.follows .mixedOrders = true := by exact mixed) (hok : orderOk R ops (List.range ops.size) = true := by kernel_rfl) : (OpsE Tryz.prog G R ops n (Q .normal) ops.toList E M) → SatE Tryz.prog G (.region id ops true) n Q E M := fun h => e_drawR R hm hok h
theorem Ql {k : IntKind} {p : Int} {q : Int} (hx : rd E x = some (.int k p) := by rfl) (hy : rd E y = some (.int k q) := by rfl) (hd : Nat.blt d n = true := by rfl) : (OpsE Tryz.prog G R ops n K rest ((d, .bool (decide (p < q))) :: E) M) → OpsE Tryz.prog G R ops n K (⟨some d, .binOp .lss T x y T', ty, pos, aft, none⟩ :: rest) E M := fun h => e_lt hx hy hd h
theorem QG {k : IntKind} {p : Int} {q : Int} (hx : rd E x = some (.int k p) := by rfl) (hy : rd E y = some (.int k q) := by rfl) (hd : Nat.blt d n = true := by rfl) : (OpsE Tryz.prog G R ops n K rest ((d, .bool (decide (q < p))) :: E) M) → OpsE Tryz.prog G R ops n K (⟨some d, .binOp .gtr T x y T', ty, pos, aft, none⟩ :: rest) E M := fun h => e_gt hx hy hd h
theorem QL {k : IntKind} {p : Int} {q : Int} (hx : rd E x = some (.int k p) := by rfl) (hy : rd E y = some (.int k q) := by rfl) (hd : Nat.blt d n = true := by rfl) : (OpsE Tryz.prog G R ops n K rest ((d, .bool (decide (p ≤ q))) :: E) M) → OpsE Tryz.prog G R ops n K (⟨some d, .binOp .leq T x y T', ty, pos, aft, none⟩ :: rest) E M := fun h => e_le hx hy hd h
theorem QE {k : IntKind} {p : Int} {q : Int} (hx : rd E x = some (.int k p) := by rfl) (hy : rd E y = some (.int k q) := by rfl) (hd : Nat.blt d n = true := by rfl) : (OpsE Tryz.prog G R ops n K rest ((d, .bool (decide (q ≤ p))) :: E) M) → OpsE Tryz.prog G R ops n K (⟨some d, .binOp .geq T x y T', ty, pos, aft, none⟩ :: rest) E M := fun h => e_ge hx hy hd h
theorem Qc {k : IntKind} {p : Int} {q : Int} (hx : rd E x = some (.int k p) := by rfl) (hy : rd E y = some (.int k q) := by rfl) (hd : Nat.blt d n = true := by rfl) : (OpsE Tryz.prog G R ops n K rest ((d, .bool (decide (p = q))) :: E) M) → OpsE Tryz.prog G R ops n K (⟨some d, .binOp .eql T x y T', ty, pos, aft, none⟩ :: rest) E M := fun h => e_eq hx hy hd h
theorem QN {k : IntKind} {p : Int} {q : Int} (hx : rd E x = some (.int k p) := by rfl) (hy : rd E y = some (.int k q) := by rfl) (hd : Nat.blt d n = true := by rfl) : (OpsE Tryz.prog G R ops n K rest ((d, .bool (decide (p ≠ q))) :: E) M) → OpsE Tryz.prog G R ops n K (⟨some d, .binOp .neq T x y T', ty, pos, aft, none⟩ :: rest) E M := fun h => e_ne hx hy hd h
theorem Q0 {b : Bool} (hx : rd E x = some (.bool b) := by rfl) (hd : Nat.blt d n = true := by rfl) : (OpsE Tryz.prog G R ops n K rest ((d, .bool (!b)) :: E) M) → OpsE Tryz.prog G R ops n K (⟨some d, .unOp .not T x, ty, pos, aft, none⟩ :: rest) E M := fun h => e_not hx hd h
theorem Qd {b : Nat} {l : Nat} {c : Array Value} {t : TypeId} {td : TypeDesc} (i : Nat) (hT : Tryz.prog.underlying T = some td := by exact Tu rfl) (hn : rowLike td = true := by rfl) (hs : (Tryz.prog.info? T).map (·.size) = some l := by exact Tz rfl) (hx : rd E x = some (.pointer (some ⟨b, 0, none⟩)) := by rfl) (hm : lkM M i = some ⟨b, c, t⟩ := by rfl) (hl : c.size = l := by exact (arr_size _ _ _)) (hd : Nat.blt d n = true := by rfl) (hX : ∃ js, okXL M i js R := by exact ⟨[], trivial⟩) : (OpsE Tryz.prog G R ops n K rest ((d, .agg c) :: E) M) → OpsE Tryz.prog G R ops n K (⟨some d, .load T x, ty, pos, aft, none⟩ :: rest) E M := fun h => e_loadA (i := i) hT hn hs hx hm hl hd hX h
theorem QD {b : Nat} {l : Nat} {c : Array Value} {t : TypeId} {td : TypeDesc} (i : Nat) (hT : Tryz.prog.underlying T = some td := by exact Tu rfl) (hn : rowLike td = true := by rfl) (hs : (Tryz.prog.info? T).map (·.size) = some l := by exact Tz rfl) (hx : rd E x = some (.pointer (some ⟨b, 0, none⟩)) := by rfl) (hm : lkM M i = some ⟨b, c, t⟩ := by rfl) (hl : c.size = l := by exact (arrv_size _ _)) (hd : Nat.blt d n = true := by rfl) (hX : ∃ js, okXL M i js R := by exact ⟨[], trivial⟩) : (OpsE Tryz.prog G R ops n K rest ((d, .agg c) :: E) M) → OpsE Tryz.prog G R ops n K (⟨some d, .load T x, ty, pos, aft, none⟩ :: rest) E M := fun h => e_loadA (i := i) hT hn hs hx hm hl hd hX h
theorem Q1 {b : Nat} {o : Nat} {c : Array Value} {t : TypeId} {v : Value} {td : TypeDesc} (i : Nat) (hT : Tryz.prog.underlying T = some td := by exact Tu rfl) (hn : rowLike td = false := by rfl) (hx : rd E x = some (.pointer (some ⟨b, o, none⟩)) := by rfl) (hm : lkM M i = some ⟨b, c, t⟩ := by rfl) (hc : c[o]? = some v := by exact (arr_get (by omega))) (hd : Nat.blt d n = true := by rfl) (hX : ∃ js, okXL M i js R := by exact ⟨[], trivial⟩) : (OpsE Tryz.prog G R ops n K rest ((d, v) :: E) M) → OpsE Tryz.prog G R ops n K (⟨some d, .load T x, ty, pos, aft, none⟩ :: rest) E M := fun h => e_load1 (i := i) hT hn hx hm hc hd hX h
theorem Qt {b : Nat} {l : Nat} {c : Array Value} {c' : Array Value} {t : TypeId} (i : Nat) (hs : (Tryz.prog.info? T).map (·.size) = some l := by exact Tz rfl) (hx : rd E x = some (.pointer (some ⟨b, 0, none⟩)) := by rfl) (hy : rd E y = some (.agg c') := by rfl) (hl : c'.size = l := by exact (arr_size _ _ _)) (hv : ∀ v ∈ c', v.oneCell' = true := by exact arr_one) (hm : lkM M i = some ⟨b, c, t⟩ := by rfl) (ho : c'.size = c.size := by exact (arr_sz _ _ _ _ _)) (hX : R.X = [] ∨ b ∈ R.X := by exact (.inl rfl)) : (OpsE Tryz.prog G R ops n K rest E ((i, some ⟨b, c', t⟩) :: M)) → OpsE Tryz.prog G R ops n K (⟨none, .store T x y, ty, pos, aft, none⟩ :: rest) E M := fun h => e_storeA (i := i) hs hx hy hl hv hm ho hX h
theorem Qu {b : Nat} {o : Nat} {l : Nat} {v : Nat} {k : IntKind} {f : Nat → Nat} {t : TypeId} (i : Nat) (hs : (Tryz.prog.info? T).map (·.size) = some 1 := by exact Tz rfl) (hx : rd E x = some (.pointer (some ⟨b, o, none⟩)) := by rfl) (hy : rd E y = some (.int k (v : Int)) := by rfl) (hm : lkM M i = some ⟨b, arr k l f, t⟩ := by rfl) (ho : o < l := by omega) (hX : R.X = [] ∨ b ∈ R.X := by exact (.inl rfl)) : (OpsE Tryz.prog G R ops n K rest E ((i, some ⟨b, arr k l (upd f o v), t⟩) :: M)) → OpsE Tryz.prog G R ops n K (⟨none, .store T x y, ty, pos, aft, none⟩ :: rest) E M := fun h => e_storeN (i := i) hs hx hy hm ho hX h
theorem Qf {b : Nat} {o : Nat} {f : Nat} {sz : Nat} {fs : Array Field} {fd : Field} (o' : Nat) (hT : Tryz.prog.underlying T = some (.struct fs) := by exact Tu rfl) (hf : fs[f]? = some fd := by rfl) (hs : (Tryz.prog.info? fd.type).map (·.size) = some (sz + 1) := by exact Tz rfl) (hx : rd E x = some (.pointer (some ⟨b, o, none⟩)) := by rfl) (ho : o + fd.offset = o' := by rfl) (hd : Nat.blt d n = true := by rfl) : (OpsE Tryz.prog G R ops n K rest ((d, .pointer (some ⟨b, o', none⟩)) :: E) M) → OpsE Tryz.prog G R ops n K (⟨some d, .fieldAddr T x f, ty, pos, aft, none⟩ :: rest) E M := fun h => e_fld o' hT hf hs hx ho hd h
theorem Qi {b : Nat} {j : Nat} {l : Nat} {k : IntKind} {e : TypeId} (hT : Tryz.prog.underlying T = some (.array l e) := by exact Tu rfl) (hs : (Tryz.prog.info? e).map (·.size) = some 1 := by exact Tz rfl) (hx : rd E x = some (.pointer (some ⟨b, 0, none⟩)) := by rfl) (hy : rd E y = some (.int k (j : Int)) := by rfl) (hj : j < l := by omega) (hd : Nat.blt d n = true := by rfl) : (OpsE Tryz.prog G R ops n K rest ((d, .pointer (some ⟨b, j, none⟩)) :: E) M) → OpsE Tryz.prog G R ops n K (⟨some d, .indexAddr T x y, ty, pos, aft, none⟩ :: rest) E M := fun h => e_index0 hT hs hx hy hj hd h
theorem Qj {b : Nat} {l : Nat} {k : IntKind} {e : TypeId} (j : Nat) (hT : Tryz.prog.underlying T = some (.array l e) := by exact Tu rfl) (hs : (Tryz.prog.info? e).map (·.size) = some 1 := by exact Tz rfl) (hx : rd E x = some (.pointer (some ⟨b, 0, none⟩)) := by rfl) (hy : rd E y = some (.int k (j : Int)) := by rfl) (hj : j < l := by omega) (hd : Nat.blt d n = true := by rfl) : (OpsE Tryz.prog G R ops n K rest ((d, .pointer (some ⟨b, j, none⟩)) :: E) M) → OpsE Tryz.prog G R ops n K (⟨some d, .indexAddr T x y, ty, pos, aft, none⟩ :: rest) E M := fun h => e_index0 (j := j) hT hs hx hy hj hd h
theorem QA {b : Nat} {o : Nat} {l : Nat} {z : Nat} {k : IntKind} {e : TypeId} (o' : Nat) (j : Nat) (hT : Tryz.prog.underlying T = some (.array l e) := by exact Tu rfl) (hs : (Tryz.prog.info? e).map (·.size) = some (z + 1) := by exact Tz rfl) (hx : rd E x = some (.pointer (some ⟨b, o, none⟩)) := by rfl) (hy : rd E y = some (.int k (j : Int)) := by rfl) (hj : j < l := by omega) (ho : o + j * (z + 1) = o' := by omega) (hd : Nat.blt d n = true := by rfl) : (OpsE Tryz.prog G R ops n K rest ((d, .pointer (some ⟨b, o', none⟩)) :: E) M) → OpsE Tryz.prog G R ops n K (⟨some d, .indexAddr T x y, ty, pos, aft, none⟩ :: rest) E M := fun h => e_at (j := j) o' hT hs hx hy hj ho hd h
theorem QB {b : Nat} {o : Nat} {j : Nat} {l : Nat} {z : Nat} {k : IntKind} {e : TypeId} (o' : Nat) (hT : Tryz.prog.underlying T = some (.array l e) := by exact Tu rfl) (hs : (Tryz.prog.info? e).map (·.size) = some (z + 1) := by exact Tz rfl) (hx : rd E x = some (.pointer (some ⟨b, o, none⟩)) := by rfl) (hy : rd E y = some (.int k (j : Int)) := by rfl) (hj : j < l := by omega) (ho : o + j * (z + 1) = o' := by omega) (hd : Nat.blt d n = true := by rfl) : (OpsE Tryz.prog G R ops n K rest ((d, .pointer (some ⟨b, o', none⟩)) :: E) M) → OpsE Tryz.prog G R ops n K (⟨some d, .indexAddr T x y, ty, pos, aft, none⟩ :: rest) E M := fun h => e_at o' hT hs hx hy hj ho hd h
theorem Qh {v : Value} (i : Nat) (hx : rd E x = some v := by rfl) (hd : Nat.blt d n = true := by rfl) : (∀ r, OpsE Tryz.prog G R ops n K rest ((d, ptr r) :: E) ((i, some ⟨r, v.cells, T⟩) :: M)) → OpsE Tryz.prog G R ops n K (⟨some d, .box T x, ty, pos, aft, none⟩ :: rest) E M := fun h => e_box i hx hd h
theorem QH {z : Value} (i : Nat) (hz : (Tryz.prog.info? T).bind (·.zero) = some z := by exact Tb rfl) (hd : Nat.blt d n = true := by rfl) : (∀ r, OpsE Tryz.prog G R ops n K rest ((d, ptr r) :: E) ((i, some ⟨r, z.cells, T⟩) :: M)) → OpsE Tryz.prog G R ops n K (⟨some d, .alloc T, ty, pos, aft, none⟩ :: rest) E M := fun h => e_alloc i hz hd h
theorem Qv {b : Nat} {o : Nat} {l : Nat} {N : Nat} {kd : IntKind} {f : Nat → Nat} {ps : List Part} {t : TypeId} {td : TypeDesc} (k : Nat) (i : Nat) (hT : Tryz.prog.underlying T = some td := by exact Tu rfl) (hn : rowLike td = true := by rfl) (hs : (Tryz.prog.info? T).map (·.size) = some l := by exact Tz rfl) (hx : rd E x = some (.pointer (some ⟨b, o, none⟩)) := by rfl) (hm : lkM M i = some ⟨b, cells N ps, t⟩ := by rfl) (hk : catAt ps k = some (o, pI kd l f) := by rfl) (ho : o + l ≤ N := by decide) (hd : Nat.blt d n = true := by rfl) (hX : ∃ js, okXL M i js R := by exact ⟨[], trivial⟩) : (OpsE Tryz.prog G R ops n K rest ((d, .agg (arr kd l f)) :: E) M) → OpsE Tryz.prog G R ops n K (⟨some d, .load T x, ty, pos, aft, none⟩ :: rest) E M := fun h => e_ldC (i := i) k hT hn hs hx hm hk ho hd hX h
theorem QV {b : Nat} {o : Nat} {N : Nat} {v : Value} {ps : List Part} {t : TypeId} {td : TypeDesc} (k : Nat) (i : Nat) (hT : Tryz.prog.underlying T = some td := by exact Tu rfl) (hn : rowLike td = false := by rfl) (hx : rd E x = some (.pointer (some ⟨b, o, none⟩)) := by rfl) (hm : lkM M i = some ⟨b, cells N ps, t⟩ := by rfl) (hk : catAt ps k = some (o, pV v) := by rfl) (hN : o < N := by decide) (hd : Nat.blt d n = true := by rfl) (hX : ∃ js, okXL M i js R := by exact ⟨[], trivial⟩) : (OpsE Tryz.prog G R ops n K rest ((d, v) :: E) M) → OpsE Tryz.prog G R ops n K (⟨some d, .load T x, ty, pos, aft, none⟩ :: rest) E M := fun h => e_ldV1 (i := i) k hT hn hx hm hk hN hd hX h
theorem QI {b : Nat} {o : Nat} {o' : Nat} {l : Nat} {N : Nat} {kd : IntKind} {f : Nat → Nat} {ps : List Part} {t : TypeId} {td : TypeDesc} (k : Nat) (j : Nat) (i : Nat) (hT : Tryz.prog.underlying T = some td := by exact Tu rfl) (hn : rowLike td = false := by rfl) (hx : rd E x = some (.pointer (some ⟨b, o', none⟩)) := by rfl) (hm : lkM M i = some ⟨b, cells N ps, t⟩ := by rfl) (hk : catAt ps k = some (o, pI kd l f) := by rfl) (ho : o' = o + j := by rfl) (hj : j < l := by decide) (hN : o' < N := by decide) (hd : Nat.blt d n = true := by rfl) (hX : ∃ js, okXL M i js R := by exact ⟨[], trivial⟩) : (OpsE Tryz.prog G R ops n K rest ((d, .int kd (f j : Int)) :: E) M) → OpsE Tryz.prog G R ops n K (⟨some d, .load T x, ty, pos, aft, none⟩ :: rest) E M := fun h => e_ldI (i := i) k j hT hn hx hm hk ho hj hN hd hX h
theorem Q2 {p : Nat} (q : Nat) (hx : rd E x = some (ii p) := by rfl) (hy : rd E y = some (ii q) := by rfl) (hd : Nat.blt d n = true := by rfl) (hb : p + q < 9223372036854775808 := by omega) : (OpsE Tryz.prog G R ops n K rest ((d, ii (p + q)) :: E) M) → OpsE Tryz.prog G R ops n K (⟨some d, .binOp .add T x y T', ty, pos, aft, none⟩ :: rest) E M := fun h => e_add_i (q := q) hx hy hd hb h
theorem Q3 {p : Nat} {q : Nat} (hx : rd E x = some (ii p) := by rfl) (hy : rd E y = some (ii q) := by rfl) (hd : Nat.blt d n = true := by rfl) (hb : p + q < 9223372036854775808 := by omega) : (OpsE Tryz.prog G R ops n K rest ((d, ii (p + q)) :: E) M) → OpsE Tryz.prog G R ops n K (⟨some d, .binOp .add T x y T', ty, pos, aft, none⟩ :: rest) E M := fun h => e_add_i hx hy hd hb h
theorem Q4 {p : Nat} (q : Nat) (hx : rd E x = some (ii p) := by rfl) (hy : rd E y = some (ii q) := by rfl) (hd : Nat.blt d n = true := by rfl) (hq : 0 < q := by omega) : (OpsE Tryz.prog G R ops n K rest ((d, ii (p % q)) :: E) M) → OpsE Tryz.prog G R ops n K (⟨some d, .binOp .rem T x y T', ty, pos, aft, none⟩ :: rest) E M := fun h => e_rem_i (q := q) hx hy hd hq h
theorem Q5 {p : Nat} (q : Nat) (hx : rd E x = some (ii p) := by rfl) (hy : rd E y = some (ii q) := by rfl) (hd : Nat.blt d n = true := by rfl) (hp : p < 9223372036854775808 := by omega) (hq : 0 < q := by omega) : (OpsE Tryz.prog G R ops n K rest ((d, ii (p / q)) :: E) M) → OpsE Tryz.prog G R ops n K (⟨some d, .binOp .quo T x y T', ty, pos, aft, none⟩ :: rest) E M := fun h => e_quo_i (q := q) hx hy hd hp hq h
theorem Q6 {p : Nat} (q : Nat) (hx : rd E x = some (ii p) := by rfl) (hy : rd E y = some (ii q) := by rfl) (hd : Nat.blt d n = true := by rfl) (hb : p * q < 9223372036854775808 := by omega) : (OpsE Tryz.prog G R ops n K rest ((d, ii (p * q)) :: E) M) → OpsE Tryz.prog G R ops n K (⟨some d, .binOp .mul T x y T', ty, pos, aft, none⟩ :: rest) E M := fun h => e_mul_i (q := q) hx hy hd hb h
theorem Q7 {q : Nat} (p : Nat) (hx : rd E x = some (ii p) := by rfl) (hy : rd E y = some (ii q) := by rfl) (hd : Nat.blt d n = true := by rfl) (hb : p * q < 9223372036854775808 := by omega) : (OpsE Tryz.prog G R ops n K rest ((d, ii (p * q)) :: E) M) → OpsE Tryz.prog G R ops n K (⟨some d, .binOp .mul T x y T', ty, pos, aft, none⟩ :: rest) E M := fun h => e_mul_i (p := p) hx hy hd hb h
theorem Q8 {k : IntKind} {p : Nat} (s : Nat) (hx : rd E x = some (u p) := by rfl) (hy : rd E y = some (.int k (s : Int)) := by rfl) (hd : Nat.blt d n = true := by rfl) (hs : s ≤ 64 := by omega) : (OpsE Tryz.prog G R ops n K rest ((d, u (p / 2 ^ s)) :: E) M) → OpsE Tryz.prog G R ops n K (⟨some d, .binOp .shr T x y T', ty, pos, aft, none⟩ :: rest) E M := fun h => e_shr_u (s := s) hx hy hd hs h
theorem Q9 {p : Nat} (q : Nat) (hx : rd E x = some (u p) := by rfl) (hy : rd E y = some (u q) := by rfl) (hd : Nat.blt d n = true := by rfl) : (OpsE Tryz.prog G R ops n K rest ((d, u ((p &&& q) % 18446744073709551616)) :: E) M) → OpsE Tryz.prog G R ops n K (⟨some d, .binOp .and T x y T', ty, pos, aft, none⟩ :: rest) E M := fun h => e_and_u (q := q) hx hy hd h
theorem QU {l : List Nat} (hT : Tryz.prog.underlying T = some .string := by exact Tu rfl) (hx : rd E x = some (sv l) := by rfl) (hd : Nat.blt d n = true := by rfl) (hR : callOk R = true := by rfl) : (OpsE Tryz.prog G R ops n K rest ((d, ii l.length) :: E) M) → OpsE Tryz.prog G R ops n K (⟨some d, .call ⟨.builtin .len, #[x], #[T]⟩, ty, pos, aft, none⟩ :: rest) E M := fun h => e_lenStr hT hx hd hR h
theorem QX {j : Nat} {l : Nat} {k : IntKind} {k' : IntKind} {k2 : IntKind} {e : TypeId} {f : Nat → Nat} (hT : Tryz.prog.underlying T = some (.array l e) := by exact Tu rfl) (he : Tryz.prog.underlying e = some (.int k') := by exact Tu rfl) (hs : (Tryz.prog.info? e).map (·.size) = some 1 := by exact Tz rfl) (hx : rd E x = some (.agg (arr k l f)) := by rfl) (hy : rd E y = some (.int k2 (j : Int)) := by rfl) (hj : j < l := by omega) (hd : Nat.blt d n = true := by rfl) : (OpsE Tryz.prog G R ops n K rest ((d, .int k (f j : Int)) :: E) M) → OpsE Tryz.prog G R ops n K (⟨some d, .index T x y, ty, pos, aft, none⟩ :: rest) E M := fun h => e_idx hT he hs hx hy hj hd h
theorem QY {fn : Go.Fn} {fs : Array Operand} {cs : Array Operand} {vf : List Value} {vc : List Value} (h1 : rdl E fs.toList = some vf := by rfl) (h2 : rdl E cs.toList = some vc := by rfl) (hd : Nat.blt d n = true := by rfl) : (OpsE Tryz.prog G R ops n K rest ((d, .func fn vf.toArray vc.toArray) :: E) M) → OpsE Tryz.prog G R ops n K (⟨some d, .makeFunc fn fs cs, ty, pos, aft, none⟩ :: rest) E M := fun h => e_func h1 h2 hd h
theorem QC {e : TypeId} {v : Value} {B : Mem} {z : Nat} {k : Nat} {xs : List Value} (hv : Shows B z v k xs) (hT : Tryz.prog.underlying T = some (.slice e) := by exact Tu rfl) (hx : rd E x = some v := by rfl) (hd : Nat.blt d n = true := by rfl) (hR : callOk R = true := by rfl) : (OpsE Tryz.prog G R ops n K rest ((d, ii k) :: E) M) → OpsE Tryz.prog G R ops n K (⟨some d, .call ⟨.builtin .len, #[x], #[T]⟩, ty, pos, aft, none⟩ :: rest) E M := fun h => e_lenV hv hT hx hd hR h
theorem QS {l : List Oper} {s : Nat} {v : Value} {v' : Value} (hv : v = v' := by exact (congrArg (slAddr _) (Nat.mul_one _))) : (OpsE Tryz.prog G R ops n K l ((s, v') :: E) M) → OpsE Tryz.prog G R ops n K l ((s, v) :: E) M := fun h => e_as hv h
theorem Qat {l : List Oper} {s : Nat} {v : Value} {v' : Value} (hv : v = v' := by exact (congrArg Value.bool (decide_eq_true (by omega)))) : (OpsE Tryz.prog G R ops n K l ((s, v') :: E) M) → OpsE Tryz.prog G R ops n K l ((s, v) :: E) M := fun h => e_as hv h
theorem Qaf {l : List Oper} {s : Nat} {v : Value} {v' : Value} (hv : v = v' := by exact (congrArg Value.bool (decide_eq_false (by omega)))) : (OpsE Tryz.prog G R ops n K l ((s, v') :: E) M) → OpsE Tryz.prog G R ops n K l ((s, v) :: E) M := fun h => e_as hv h
theorem Qar {l : List Oper} {s : Nat} {v : Value} {v' : Value} (hv : v = v' := by exact (congrArg Value.bool (decide_eq_true rfl))) : (OpsE Tryz.prog G R ops n K l ((s, v') :: E) M) → OpsE Tryz.prog G R ops n K l ((s, v) :: E) M := fun h => e_as hv h
theorem Qct {c : Operand} {p : Code} {q : Code} (hc : rd E c = some (.bool true) := by rfl) : (SatE Tryz.prog G p n Q E M) → SatE Tryz.prog G (.cond c p q) n Q E M := fun h => e_condT hc h
theorem Qcf {c : Operand} {p : Code} {q : Code} (hc : rd E c = some (.bool false) := by rfl) : (SatE Tryz.prog G q n Q E M) → SatE Tryz.prog G (.cond c p q) n Q E M := fun h => e_condF hc h
theorem Qz {c : Code} (I : Nat → Env → Mm → Prop) {E0 : Env} {M0 : Mm} {k : Nat} (h0 : I k E0 M0) (hs : sub E0 E) (hl : subL M0 M) (round : ∀ k E M, I k E M → SatE Tryz.prog G c n (thenE (fun E' M' => ∃ k' E'' M'', k' < k ∧ sub E'' E' ∧ subL M'' M' ∧ I k' E'' M'') Q) E M) : SatE Tryz.prog G (.loop c) n Q E M := e_loop I E0 M0 k hs hl h0 round
theorem QzK {c : Code} (Ek : Env) (Mk : Mm) (I : Nat → Env → Mm → Prop) {E0 : Env} {M0 : Mm} {k : Nat} (h0 : I k E0 M0) (hs : sub (catE E0 Ek) E) (hl : subL (catL M0 Mk) M) (round : ∀ k E M, I k E M → SatE Tryz.prog G c n (thenE (fun E' M' => ∃ k' E'' M'', k' < k ∧ sub (catE E'' Ek) E' ∧ subL (catL M'' Mk) M' ∧ I k' E'' M'') Q) (catE E Ek) (catL M Mk)) : SatE Tryz.prog G (.loop c) n Q E M := e_loopK Ek Mk I E0 M0 k hs hl h0 round
theorem Qzr {I : Nat → Env → Mm → Prop} {k k' : Nat} {E' : Env} {M' : Mm} {E'' : Env} {M'' : Mm} (h : I k' E'' M'') (hs : sub E'' E') (hl : subL M'' M') (hk : k' < k) : ∃ k' E'' M'', k' < k ∧ sub E'' E' ∧ subL M'' M' ∧ I k' E'' M'' := ⟨_, _, _, hk, hs, hl, h⟩
theorem QzL {I : Nat → Env → Mm → Prop} {k k' : Nat} {Ek : Env} {Mk : Mm} {E' : Env} {M' : Mm} {E'' : Env} {M'' : Mm} (h : I k' E'' M'') (hs : sub (catE E'' Ek) E') (hl : subL (catL M'' Mk) M') (hk : k' < k) : ∃ k' E'' M'', k' < k ∧ sub (catE E'' Ek) E' ∧ subL (catL M'' Mk) M' ∧ I k' E'' M'' := ⟨_, _, _, hk, hs, hl, h⟩
theorem Qf1 {f : FuncId} {fn : Func} {c : Code} {vs : List Value} {v : Value} (hf : Tryz.prog.funcs[f]? = some fn) (h : SatE Tryz.prog G c n (End1 Tryz.prog fn v) (argE vs 0) []) (hb : fn.body = some c := by rfl) (hn : fn.ntmps = n := by rfl) (ha : vs.toArray.size ≤ n := by simp) : Fn Tryz.prog G f vs.toArray v := fn1 hf hb hn ha (argE vs 0) (argE_ok vs) h
theorem Qf2 {f : FuncId} {fn : Func} {c : Code} {vs : List Value} {v v' : Value} (hf : Tryz.prog.funcs[f]? = some fn) (h : SatE Tryz.prog G c n (End2 Tryz.prog fn v v') (argE vs 0) []) (hb : fn.body = some c := by rfl) (hn : fn.ntmps = n := by rfl) (ha : vs.toArray.size ≤ n := by simp) : Fn Tryz.prog G f vs.toArray (.tuple #[v, v']) := fn2 hf hb hn ha (argE vs 0) (argE_ok vs) h
theorem Qf3 {f : FuncId} {fn : Func} {c : Code} {vs : List Value} {v v' v'' : Value} (hf : Tryz.prog.funcs[f]? = some fn) (h : SatE Tryz.prog G c n (End3 Tryz.prog fn v v' v'') (argE vs 0) []) (hb : fn.body = some c := by rfl) (hn : fn.ntmps = n := by rfl) (ha : vs.toArray.size ≤ n := by simp) : Fn Tryz.prog G f vs.toArray (.tuple #[v, v', v'']) := fn3 hf hb hn ha (argE vs 0) (argE_ok vs) h
theorem QfN {f : FuncId} {fn : Func} {c : Code} {vs : List Value} {e : TypeId} {z k : Nat} {xs : List Value} (hf : Tryz.prog.funcs[f]? = some fn) (h : SatE Tryz.prog G c n (EndN Tryz.prog e z k xs fn) (argE vs 0) []) (hb : fn.body = some c := by rfl) (hn : fn.ntmps = n := by rfl) (ha : vs.toArray.size ≤ n := by simp) : Fx Tryz.prog G [] f vs.toArray (fun v l1 nw => l1 = [] ∧ ∃ v', v = v' ∧ OwnS e z v' k xs nw) := fxN hf hb hn ha (argE vs 0) (argE_ok vs) h
theorem QfM {f : FuncId} {fn : Func} {c : Code} {vs : List Value} {e : TypeId} {z k : Nat} {xs : List Value} {u : Value} (hf : Tryz.prog.funcs[f]? = some fn) (h : SatE Tryz.prog G c n (EndN2 Tryz.prog e z k xs u fn) (argE vs 0) []) (hb : fn.body = some c := by rfl) (hn : fn.ntmps = n := by rfl) (ha : vs.toArray.size ≤ n := by simp) : Fx Tryz.prog G [] f vs.toArray (fun v l1 nw => l1 = [] ∧ ∃ v', v = .tuple #[v', u] ∧ OwnS e z v' k xs nw) := fxN2 hf hb hn ha (argE vs 0) (argE_ok vs) h
theorem QfO {f : FuncId} {fn : Func} {c : Code} {vs : List Value} {e : TypeId} {z k : Nat} {xs : List Value} {q u : Value} (hf : Tryz.prog.funcs[f]? = some fn) (h : SatE Tryz.prog G c n (EndN3 Tryz.prog e z k xs q u fn) (argE vs 0) []) (hb : fn.body = some c := by rfl) (hn : fn.ntmps = n := by rfl) (ha : vs.toArray.size ≤ n := by simp) : Fx Tryz.prog G [] f vs.toArray (fun v l1 nw => l1 = [] ∧ ∃ v', v = .tuple #[q, v', u] ∧ OwnS e z v' k xs nw) := fxN3 hf hb hn ha (argE vs 0) (argE_ok vs) h
theorem QfW {f : FuncId} {fn : Func} {c : Code} {vs : List Value} {b : Nat} {c0 c' : Array Value} {t : TypeId} (hf : Tryz.prog.funcs[f]? = some fn) (h : SatE Tryz.prog G c n (EndW b c' t fn) (argE vs 0) [(0, some ⟨b, c0, t⟩)]) (hb : fn.body = some c := by rfl) (hn : fn.ntmps = n := by rfl) (ha : vs.toArray.size ≤ n := by simp) : Fx Tryz.prog G [⟨b, c0, t⟩] f vs.toArray (fun v' l1 nw => v' = .tuple #[] ∧ l1 = [⟨b, c', t⟩] ∧ nw = []) := fxW hf hb hn ha (argE vs 0) (argE_ok vs) h
abbrev Sh (G : Mem) (v : Value) (l : List Nat) : Prop := Shows G 1 v l.length (l.map by8)
abbrev By (l : List Nat) : Prop := ∀ b ∈ l, b < 256
abbrev L8 (n : Nat) (f : Nat → Nat) : Prop := ∀ j, j < n → f j < 256
end Go.Proofs.YthljakcegoohlaaGreatDoor
namespace Go.Proofs.YthljakcegoohlaaGreatDoor
open Go Go.RowKit
theorem eqg30 : Tryz.prog.eqGuardType Tryz.prog.depth 30 = false := by kernel_rfl
theorem eqg33 : Tryz.prog.eqGuardType Tryz.prog.depth 33 = false := by kernel_rfl
theorem eqg290 : Tryz.prog.eqGuardType Tryz.prog.depth 290 = false := by kernel_rfl
theorem pls33 (w : World) : (((#[.mk "Has" 4 0 false "" "" 0, .mk "Key" 30 1 false "" "" 1, .mk "N" 31 33 false "" "" 40] : Array Field).mapM fun f => do pure (f.offset, ← sizeOf f.type) : Sem (Array (Nat × Nat)))).run Tryz.prog w = .ok #[(0, 1), (1, 32), (33, 1)] w := places_run (l := [(0, 1), (1, 32), (33, 1)]) (by kernel_rfl) w
theorem pls35 (w : World) : (((#[.mk "Cipher" 33 0 false "" "" 0, .mk "Chain" 30 34 false "" "" 48, .mk "Hash" 30 66 false "" "" 80] : Array Field).mapM fun f => do pure (f.offset, ← sizeOf f.type) : Sem (Array (Nat × Nat)))).run Tryz.prog w = .ok #[(0, 34), (34, 32), (66, 32)] w := places_run (l := [(0, 34), (34, 32), (66, 32)]) (by kernel_rfl) w
theorem pls149 (w : World) : (((#[.mk "H" 146 0 false "" "" 0, .mk "Held" 147 8 false "" "" 32, .mk "N" 3 72 false "" "" 96, .mk "Len" 3 73 false "" "" 104] : Array Field).mapM fun f => do pure (f.offset, ← sizeOf f.type) : Sem (Array (Nat × Nat)))).run Tryz.prog w = .ok #[(0, 8), (8, 64), (72, 1), (73, 1)] w := places_run (l := [(0, 8), (8, 64), (72, 1), (73, 1)]) (by kernel_rfl) w
theorem pls293 (w : World) : (((#[.mk "R" 290 0 false "" "" 0, .mk "Pad" 290 2 false "" "" 16, .mk "Acc" 291 4 false "" "" 32, .mk "Held" 263 7 false "" "" 56, .mk "N" 3 23 false "" "" 72] : Array Field).mapM fun f => do pure (f.offset, ← sizeOf f.type) : Sem (Array (Nat × Nat)))).run Tryz.prog w = .ok #[(0, 2), (2, 2), (4, 3), (7, 16), (23, 1)] w := places_run (l := [(0, 2), (2, 2), (4, 3), (7, 16), (23, 1)]) (by kernel_rfl) w
theorem sis5 : ((Tryz.prog.info? 5).map (·.size)).isSome = true := by kernel_rfl
theorem sis31 : ((Tryz.prog.info? 31).map (·.size)).isSome = true := by kernel_rfl
theorem s_und33 : Tryz.prog.underlying 33 = some (.struct #[.mk "Has" 4 0 false "" "" 0, .mk "Key" 30 1 false "" "" 1, .mk "N" 31 33 false "" "" 40]) := by kernel_rfl
theorem s_und4 : Tryz.prog.underlying 4 = some (.bool) := by kernel_rfl
theorem s_und30 : Tryz.prog.underlying 30 = some (.array 32 5) := by kernel_rfl
theorem s_siz30 : (Tryz.prog.info? 30).map (·.size) = some 32 := by kernel_rfl
theorem s_und5 : Tryz.prog.underlying 5 = some (.int .u8) := by kernel_rfl
theorem s_siz5 : (Tryz.prog.info? 5).map (·.size) = some 1 := by kernel_rfl
theorem s_und31 : Tryz.prog.underlying 31 = some (.int .u64) := by kernel_rfl
theorem eqv33 {f0 g0 : Bool} {f1 g1 : Nat → Nat} {f2 g2 : Int} : Eqv Tryz.prog 10000 33 (.agg (cells 34 [pV (.bool f0), pI .u8 32 f1, pV (.int .u64 f2)])) (.agg (cells 34 [pV (.bool g0), pI .u8 32 g1, pV (.int .u64 g2)])) ([(f0 == g0), allEq 32 f1 g1, (f2 == g2)].all id) := eqv_struct s_und33 (by kernel_rfl) ⟨⟨by decide, _, _, shown_one (k := 0) s_und4 rfl rfl rfl (Nat.le_of_ble_eq_true rfl), shown_one (k := 0) s_und4 rfl rfl rfl (Nat.le_of_ble_eq_true rfl), eqv_bool s_und4⟩, ⟨by decide, _, _, shown_row (k := 1) s_und30 rfl s_siz30 rfl rfl (Nat.le_of_ble_eq_true rfl), shown_row (k := 1) s_und30 rfl s_siz30 rfl rfl (Nat.le_of_ble_eq_true rfl), eqv_arr s_und30 s_und5 s_siz5⟩, ⟨by decide, _, _, shown_one (k := 2) s_und31 rfl rfl rfl (Nat.le_of_ble_eq_true rfl), shown_one (k := 2) s_und31 rfl rfl rfl (Nat.le_of_ble_eq_true rfl), eqv_int s_und31⟩, trivial⟩
end Go.Proofs.YthljakcegoohlaaGreatDoor
namespace Go.Proofs.YthljakcegoohlaaGreatDoor
open Go Go.RowKit
theorem eqg35 : Tryz.prog.eqGuardType Tryz.prog.depth 35 = false := by kernel_rfl
theorem pls37 (w : World) : (((#[.mk "Pattern" 29 0 false "" "" 0, .mk "First" 4 6 false "" "" 120, .mk "Turn" 3 7 false "" "" 128, .mk "Dead" 4 8 false "" "" 136, .mk "Sym" 35 9 false "" "" 144, .mk "Own" 30 107 false "" "" 256, .mk "Fresh" 30 139 false "" "" 288, .mk "Has" 4 171 false "" "" 320, .mk "Their" 30 172 false "" "" 321, .mk "Knows" 4 204 false "" "" 353, .mk "Newest" 30 205 false "" "" 354, .mk "Saw" 4 237 false "" "" 386, .mk "Psks" 24 238 false "" "" 392, .mk "Used" 3 239 false "" "" 416] : Array Field).mapM fun f => do pure (f.offset, ← sizeOf f.type) : Sem (Array (Nat × Nat)))).run Tryz.prog w = .ok #[(0, 6), (6, 1), (7, 1), (8, 1), (9, 98), (107, 32), (139, 32), (171, 1), (172, 32), (204, 1), (205, 32), (237, 1), (238, 1), (239, 1)] w := places_run (l := [(0, 6), (6, 1), (7, 1), (8, 1), (9, 98), (107, 32), (139, 32), (171, 1), (172, 32), (204, 1), (205, 32), (237, 1), (238, 1), (239, 1)]) (by kernel_rfl) w
theorem pls54 (w : World) : (((#[.mk "own" 30 0 false "" "signet/signetkeep" 0, .mk "fresh" 30 32 false "" "signet/signetkeep" 32] : Array Field).mapM fun f => do pure (f.offset, ← sizeOf f.type) : Sem (Array (Nat × Nat)))).run Tryz.prog w = .ok #[(0, 32), (32, 32)] w := places_run (l := [(0, 32), (32, 32)]) (by kernel_rfl) w
theorem sis33 : ((Tryz.prog.info? 33).map (·.size)).isSome = true := by kernel_rfl
theorem s_und35 : Tryz.prog.underlying 35 = some (.struct #[.mk "Cipher" 33 0 false "" "" 0, .mk "Chain" 30 34 false "" "" 48, .mk "Hash" 30 66 false "" "" 80]) := by kernel_rfl
theorem s_siz33 : (Tryz.prog.info? 33).map (·.size) = some 34 := by kernel_rfl
theorem sam35 {f0 : Bool} {f1 : Nat → Nat} {f2 : Int} {f3 : Nat → Nat} {f4 : Nat → Nat} : Same Tryz.prog 10000 35 (.agg (cells 98 [pV (.bool f0), pI .u8 32 f1, pV (.int .u64 f2), pI .u8 32 f3, pI .u8 32 f4])) := (same_struct s_und35 (by kernel_rfl) (List.forall_mem_cons.2 ⟨⟨_, shown_sub (k := 0) (c := 3) s_und33 rfl s_siz33 rfl rfl rfl (Nat.le_of_ble_eq_true rfl), (same_struct s_und33 (by kernel_rfl) (List.forall_mem_cons.2 ⟨⟨_, shown_one (k := 0) s_und4 rfl rfl rfl (Nat.le_of_ble_eq_true rfl), same_bool s_und4⟩, (List.forall_mem_cons.2 ⟨⟨_, shown_row (k := 1) s_und30 rfl s_siz30 rfl rfl (Nat.le_of_ble_eq_true rfl), same_arr s_und30 s_und5 s_siz5⟩, (List.forall_mem_cons.2 ⟨⟨_, shown_one (k := 2) s_und31 rfl rfl rfl (Nat.le_of_ble_eq_true rfl), same_int s_und31⟩, (fun _ h => by cases h)⟩)⟩)⟩))⟩, (List.forall_mem_cons.2 ⟨⟨_, shown_row (k := 3) s_und30 rfl s_siz30 rfl rfl (Nat.le_of_ble_eq_true rfl), same_arr s_und30 s_und5 s_siz5⟩, (List.forall_mem_cons.2 ⟨⟨_, shown_row (k := 4) s_und30 rfl s_siz30 rfl rfl (Nat.le_of_ble_eq_true rfl), same_arr s_und30 s_und5 s_siz5⟩, (fun _ h => by cases h)⟩)⟩)⟩))
end Go.Proofs.YthljakcegoohlaaGreatDoor
namespace Go.Proofs.YthljakcegoohlaaGreatDoor
open Go Go.RowKit
variable {G : Mem}
set_option maxHeartbeats 400000 in
theorem grow_zero (n : Nat) (hn : n = 0) : Fx Tryz.prog G [] 144 #[nilS, ii n] (fun v l1 nw => l1 = [] ∧ ∃ v', v = v' ∧ OwnS 5 1 v' 0 [] nw) := by
  refine QfN Tryz.func144 ?_
  refine Qs<|Qp<|(Qa)<|Qn<|Qs<|Qs<|Qp<|(Qm)<|(Ql)<|(Qaf)<|Qn<|(Qcf)<|Qk<|Qs<|Qs<|Qp<|(Qm)<|(Qm) ?_
  refine e_capSl (Uu 22) rfl rfl rfl ?_
  refine (Qm)<|(QC (shows_nil [] 1)) ?_
  refine e_sub_in rfl rfl rfl (by omega) (by omega) ?_
  refine e_as (show _ = ii 0 from rfl) ?_
  refine e_sub_in rfl rfl rfl (by omega) (by omega) ?_
  refine e_as (show _ = ii n from rfl) ?_
  refine (Qa)<|Qn<|Qs<|Qp<|(Qm)<|(QG)<|(Qaf)<|Qn<|(Qcf)<|Qk<|Qs<|Qp<|(Qm)<|(Qa)<|Qn<|Qr ?_
  exact ⟨_, _, _, 99, rfl, .tmp rfl, (own_nil _ _), rfl⟩
set_option maxHeartbeats 400000 in
theorem grow_some (n : Nat) (hn : 0 < n) (hm : n ≤ 1099511627776) : Fx Tryz.prog G [] 144 #[nilS, ii n] (fun v l1 nw => l1 = [] ∧ ∃ v', v = v' ∧ OwnS 5 1 v' 0 [] nw) := by
  refine QfN Tryz.func144 ?_
  refine Qs<|Qp<|(Qa)<|Qn<|Qs<|Qs<|Qp<|(Qm)<|(Ql)<|(Qaf)<|Qn<|(Qcf)<|Qk<|Qs<|Qs<|Qp<|(Qm)<|(Qm) ?_
  refine e_capSl (Uu 22) rfl rfl rfl ?_
  refine (Qm)<|(QC (shows_nil [] 1)) ?_
  refine e_sub_in rfl rfl rfl (by omega) (by omega) ?_
  refine e_as (show _ = ii 0 from rfl) ?_
  refine e_sub_in rfl rfl rfl (by omega) (by omega) ?_
  refine e_as (show _ = ii n from rfl) ?_
  refine (Qa)<|Qn<|Qs<|Qp<|(Qm)<|(QG)<|(Qat)<|Qn<|(Qct)<|Qp<|(Qm)<|(Qm) ?_
  refine e_capSl (Uu 22) rfl rfl rfl ?_
  refine e_sliceV 0 0 (shows_nil [] 1) (Uu 22) (Uz 5) rfl rfl rfl rfl ⟨_, rfl⟩ (by omega) (by omega) rfl ?_
  refine (Qm) ?_
  refine e_appendZ 0 (Uu 22) (Uu 3) (Uz 5) (Uy 5) (Ub 5) rfl rfl rfl (by omega) (by simp only [maxLen]; omega) (by omega) rfl fun v3_1 oz3_1 xs3_1 ho3_1 => ?_
  refine (Qm)<|(QC (shows_nil [] 1)) ?_
  refine e_sliceV 0 0 ho3_1.shows (Uu 22) (Uz 5) rfl rfl rfl rfl ⟨_, rfl⟩ (by omega) (by omega) rfl ?_
  refine (Qa)<|Qn<|Qs<|Qp<|(Qm)<|(Qa)<|Qn<|Qr ?_
  exact ⟨_, _, _, 0, rfl, .tmp rfl, (own_fix (OwnS.cut ho3_1 (Nat.zero_le _)) rfl rfl), rfl⟩
end Go.Proofs.YthljakcegoohlaaGreatDoor
namespace Go.Proofs.YthljakcegoohlaaGreatDoor
open Go Go.RowKit
theorem grow_fn {G : Mem} (n : Nat) (hm : n ≤ 1099511627776) : Fx Tryz.prog G [] 144 #[nilS, ii n] (fun v l1 nw => l1 = [] ∧ ∃ v', v = v' ∧ OwnS 5 1 v' 0 [] nw) := by
  by_cases h : n = 0
  · exact grow_zero n h
  · exact grow_some n (by omega) hm
variable {G : Mem}
set_option maxHeartbeats 2000000 in
theorem concat_fn (v : Value) (vs : List Value) (ls : List (List Nat)) (hv : Shows G 1 v vs.length vs) (hL : ShowsL G vs ls) (hn : vs.length ≤ 1099511627776) (hm : ls.flatten.length ≤ 1099511627776) : Fx Tryz.prog G [] 92 #[v] (fun v l1 nw => l1 = [] ∧ ∃ v', v = v' ∧ OwnS 5 1 v' ls.flatten.length (ls.flatten.map by8) nw) := by
  have hvl := hL.1
  have hup := upto_le ls
  refine QfN Tryz.func92 ?_
  refine Qs<|Qp<|(Qa)<|Qn<|Qs<|Qp<|(Qa)<|Qn<|Qs<|Qs<|Qp<|(Qm)<|(QC hv)<|(Qm)<|Qn<|Qb ?_
  refine QzK [(0, _), (2, _), (9, _), (10, _)] [] (fun kk E m => ∃ (i : Nat) (s : Nat), kk = vs.length - i ∧ E = [(3, ii s), (11, ii i)] ∧ m = [] ∧ (i ≤ vs.length) ∧ (s = (upto ls i).length)) ⟨0, 0, rfl, rfl, rfl, by omega, rfl⟩ ⟨rfl, rfl, rfl, rfl, rfl, rfl, trivial⟩ trivial ?_
  rintro kk E m ⟨i, s, rfl, rfl, rfl, hf0_0, hf0_1⟩
  simp only [catE, catL]
  have hs1 := hup (i + 1)
  have hs2 : i < ls.length → (upto ls (i + 1)).length = (upto ls i).length + (ls.getD i []).length := fun h => by rw [upto_next h, List.length_append]
  refine Qs<|Qp<|(Ql)<|Qn<|Qs ?_
  refine e_cond rfl ?_ ?_
  · intro hc0
    have hc0 : i < vs.length := by have := of_decide_eq_true hc0; omega
    refine Qk<|Qs<|Qb<|Qs<|Qp ?_
    refine e_atV hv (Uu 198) (Uz 22) rfl rfl (by omega) rfl ?_
    refine (QS) ?_
    refine e_loadV hv seenG (Uu 22) rfl rfl (get_getD (by omega)) rfl ?_
    refine (Qa)<|Qn<|Qs<|Qp<|(Qm)<|(Qm)<|(QC (hL.2 i (by omega))) ?_
    refine e_add_i rfl rfl rfl (by have := hs2 (by omega); omega) ?_
    refine (Qa)<|Qn<|Qs<|Qp<|(Qm)<|(Ql)<|(Qaf)<|Qn<|(Qcf)<|Qk<|Qp<|(Q2 1)<|(Qm)<|Qn ?_
    refine QzL ⟨i + 1, _, rfl, rfl, rfl, by omega, (by rw [upto_next (by omega), List.length_append, hf0_1])⟩ ⟨rfl, rfl, rfl, rfl, rfl, rfl, trivial⟩ trivial ?_
    omega
  · intro hc0
    have hc0 := of_decide_eq_false hc0
    have hz0 : i = vs.length := by omega
    refine Qe<|Qs<|QR ⟨[], 4, [], none⟩<|(Qm) ?_
    refine e_callN 0 (fun v => v) rfl rfl (Un 144) seenG (grow_fn s (by have := hup i; omega)) (by decide) rfl rfl rfl fun v2_1 oz2_1 ho2_1 => ?_
    refine (Qa)<|Qn<|Qs<|Qs<|Qp<|(Qm)<|(QC hv)<|(Qm)<|Qn<|Qb ?_
    refine QzK [(0, _), (2, _), (3, _), (9, _), (10, _), (11, _), (25, _), (26, _)] [] (fun kk E m => ∃ (j : Nat) (w : Value) (oz : Option Blk), kk = vs.length - j ∧ E = [(6, w), (27, ii j)] ∧ m = [(0, oz)] ∧ (j ≤ vs.length) ∧ (OwnS 5 1 w (upto ls j).length ((upto ls j).map by8) (Option.toList oz))) ⟨0, v2_1, oz2_1, rfl, rfl, rfl, by omega, ho2_1⟩ ⟨rfl, rfl, rfl, rfl, rfl, rfl, rfl, rfl, rfl, rfl, trivial⟩ ⟨rfl, trivial⟩ ?_
    rintro kk E m ⟨j, w, oz, rfl, rfl, rfl, hf1_0, hf1_1⟩
    simp only [catE, catL]
    have hs3 := hup (j + 1)
    have hs4 : j < ls.length → (upto ls (j + 1)).length = (upto ls j).length + (ls.getD j []).length := fun h => by rw [upto_next h, List.length_append]
    refine Qs<|Qp<|(Ql)<|Qn<|Qs ?_
    refine e_cond rfl ?_ ?_
    · intro hc2
      have hc2 : j < vs.length := by have := of_decide_eq_true hc2; omega
      refine Qk<|Qs<|Qb<|Qs<|Qp ?_
      refine e_atV hv (Uu 198) (Uz 22) rfl rfl (by omega) rfl ?_
      refine (QS) ?_
      refine e_loadV hv seenG (Uu 22) rfl rfl (get_getD (by omega)) rfl ?_
      refine (Qa)<|Qn<|Qp<|(Qm)<|(Qm) ?_
      refine e_append 0 hf1_1 (hL.2 j (by omega)) rfl seenG (Uu 22) (Uz 5) (Uy 5) (Ub 5) (by rfl) rfl rfl by8_one (by have := hs4 (by omega); simp only [maxLen]; omega) (by have := hs4 (by omega); omega) rfl fun v3_2 oz3_2 ho3_2 => ?_
      refine (Qa)<|Qn<|Qp<|(Q2 1)<|(Qm)<|Qn ?_
      refine QzL ⟨j + 1, _, _, rfl, rfl, rfl, by omega, (own_fix ho3_2 (by rw [upto_next (by omega), List.length_append]) (by rw [upto_next (by omega), List.map_append]))⟩ ⟨rfl, rfl, rfl, rfl, rfl, rfl, rfl, rfl, rfl, rfl, trivial⟩ ⟨rfl, trivial⟩ ?_
      omega
    · intro hc2
      have hc2 := of_decide_eq_false hc2
      have hz1 : j = vs.length := by omega
      refine Qe<|Qs<|Qp<|(Qm)<|(Qa)<|Qn<|Qr ?_
      exact ⟨_, _, _, 0, rfl, .tmp rfl, (own_fix hf1_1 (by rw [hz1, hvl, upto_all]) (by rw [hz1, hvl, upto_all])), rfl⟩
set_option maxHeartbeats 400000 in
theorem dfill_fn (n : Nat) : Fx Tryz.prog G [] 284 #[ii n] (fun v l1 nw => l1 = [] ∧ ∃ v', v = v' ∧ OwnS 5 1 v' ((16 - n % 16) % 16) ((zrs ((16 - n % 16) % 16)).map by8) nw) := by
  refine QfN Tryz.func284 ?_
  refine Qs<|Qp<|(Qa)<|Qn<|Qs<|Qp<|(Qm)<|(Q4 16) ?_
  refine e_sub_in (p := 16) rfl rfl rfl (by omega) (by omega) ?_
  refine (Q4 16) ?_
  refine e_make 0 (Uu 22) (Uz 5) (Uy 5) (Ub 5) rfl rfl rfl (by omega) (by omega) rfl fun r1 => ?_
  refine (Qa)<|Qn<|Qr ?_
  exact ⟨_, _, _, 0, rfl, .tmp rfl, (own_made (zrs_len _) (by simp only [maxLen]; omega) (fun j hj => zrs_at hj)), rfl⟩
set_option maxHeartbeats 2000000 in
theorem deight_fn (n : Nat) : Fx Tryz.prog G [] 285 #[ii n] (fun v l1 nw => l1 = [] ∧ ∃ v', v = v' ∧ OwnS 5 1 v' 8 ((lowl n 8).map by8) nw) := by
  refine QfN Tryz.func285 ?_
  refine Qs<|Qp<|(Qa)<|Qn<|Qs<|Qp ?_
  refine e_make 0 (l := 8) (Uu 22) (Uz 5) (Uy 5) (Ub 5) rfl rfl rfl (by omega) (by omega) rfl fun r1 => ?_
  refine (Qa)<|Qn<|Qs<|Qs<|Qp<|(Qm) ?_
  refine e_lenSl (Uu 22) rfl rfl rfl ?_
  refine (Qm)<|Qn<|Qb ?_
  refine QzK [(0, _), (2, _), (3, _), (7, _)] [] (fun kk E m => ∃ (i : Nat) (s : Nat → Nat), kk = 8 - i ∧ E = [(8, ii i)] ∧ m = [(0, some ⟨r1, arr .u8 8 s, 5⟩)] ∧ (i ≤ 8) ∧ (∀ t, t < i → s t = (lowl n 8).getD t 0)) ⟨0, fun _ => 0, rfl, rfl, rfl, by omega, fun t ht => absurd ht (Nat.not_lt_zero t)⟩ ⟨rfl, rfl, rfl, rfl, rfl, trivial⟩ ⟨rfl, trivial⟩ ?_
  rintro kk E m ⟨i, s, rfl, rfl, rfl, hf0_0, hf0_1⟩
  simp only [catE, catL]
  refine Qs<|Qp<|(Ql)<|Qn<|Qs ?_
  refine e_cond rfl ?_ ?_
  · intro hc0
    have hc0 : i < 8 := by have := of_decide_eq_true hc0; omega
    refine Qk<|Qs<|Qb<|Qs<|Qp<|(Qm)<|(Qa)<|Qn<|Qp<|(Qm)<|(Qm)<|(Qm)<|(Qm)<|(Q7 8) ?_
    refine e_shr_i rfl rfl rfl (by omega) ?_
    refine e_conv_u8 (Uu 3) (Uu 5) rfl rfl rfl ?_
    refine e_atSl (i) (Uu 22) (Uz 5) rfl rfl (by omega) (by omega) rfl ?_
    refine (Qu 0)<|Qn<|Qp<|(Q2 1)<|(Qm)<|Qn ?_
    refine QzL ⟨i + 1, upd s i _, rfl, rfl, rfl, by omega, upd_lt hf0_1 (low_at n (by omega))⟩ ⟨rfl, rfl, rfl, rfl, rfl, trivial⟩ ⟨rfl, trivial⟩ ?_
    omega
  · intro hc0
    have hc0 := of_decide_eq_false hc0
    have hz0 : i = 8 := by omega
    subst hz0
    refine Qe<|Qs<|Qp<|(Qm)<|(Qa)<|Qn<|Qr ?_
    exact ⟨_, _, _, 0, rfl, .tmp rfl, (own_made (lowl_len n 8) (by decide) hf0_1), rfl⟩
end Go.Proofs.YthljakcegoohlaaGreatDoor
namespace Go.Proofs.YthljakcegoohlaaGreatDoor
open Go Go.RowKit
variable {G : Mem}
set_option maxHeartbeats 400000 in
theorem rot32_fn (x s : Nat) (hs : s < 32) : Fn Tryz.prog G 261 #[uw x, ii s] (uw (rotl x s)) := by
  refine Qf1 Tryz.func261 ?_
  refine Qs<|Qp<|(Qa)<|Qn<|Qs<|Qp<|(Qm) ?_
  refine e_conv_u (Uu 3) (Uu 202) rfl rfl rfl ?_
  refine e_as (congrArg u (Nat.mod_eq_of_lt (show s < 18446744073709551616 by omega))) ?_
  refine (Q9 31) ?_
  refine e_as (congrArg u (and31 hs)) ?_
  refine (Qa)<|Qn<|Qs<|Qp<|(Qm)<|(Qm) ?_
  refine e_shl_w rfl rfl rfl (by omega) ?_
  refine (Qm)<|(Qm) ?_
  refine e_sub_u (p := 32) rfl rfl rfl (by omega) ?_
  refine e_as (congrArg u (show (32 + 18446744073709551616 - s) % 18446744073709551616 = 32 - s by omega)) ?_
  refine e_shr_w rfl rfl rfl (by omega) ?_
  refine e_or_w rfl rfl rfl  ?_
  refine (Qa)<|Qn<|Qr ?_
  exact ⟨_, rfl, .tmp rfl⟩
set_option maxHeartbeats 400000 in
theorem quarter_fn (f : Nat → Nat) (r a b c d : Nat) (ha : a < 16) (hb : b < 16) (hc : c < 16) (hd : d < 16) : Fx Tryz.prog G [⟨r, arr .u32 16 f, 342⟩] 292 #[ii a, ii b, ii c, ii d, ptr r] (fun v l1 nw => v = .tuple #[] ∧ l1 = [⟨r, arr .u32 16 (qst f a b c d), 342⟩] ∧ nw = []) := by
  refine QfW Tryz.func292 ?_
  refine Qs<|(Qg)<|(Qm)<|(Qi)<|(Q1 0)<|(Qm)<|(Qi)<|(Q1 0) ?_
  refine e_add_w rfl rfl rfl  ?_
  refine (Qi)<|(Qu 0)<|Qn<|Qs<|(Qg)<|(Qm)<|(Qm)<|(Qi)<|(Q1 0)<|(Qm)<|(Qi)<|(Q1 0) ?_
  refine e_xor_w rfl rfl rfl  ?_
  refine e_call rfl (Un 261) (rot32_fn _ _ (by decide)) rfl rfl ?_
  refine (Qi)<|(Qu 0)<|Qn<|Qs<|(Qg)<|(Qm)<|(Qi)<|(Q1 0)<|(Qm)<|(Qi)<|(Q1 0) ?_
  refine e_add_w rfl rfl rfl  ?_
  refine (Qi)<|(Qu 0)<|Qn<|Qs<|(Qg)<|(Qm)<|(Qm)<|(Qi)<|(Q1 0)<|(Qm)<|(Qi)<|(Q1 0) ?_
  refine e_xor_w rfl rfl rfl  ?_
  refine e_call rfl (Un 261) (rot32_fn _ _ (by decide)) rfl rfl ?_
  refine (Qi)<|(Qu 0)<|Qn<|Qs<|(Qg)<|(Qm)<|(Qi)<|(Q1 0)<|(Qm)<|(Qi)<|(Q1 0) ?_
  refine e_add_w rfl rfl rfl  ?_
  refine (Qi)<|(Qu 0)<|Qn<|Qs<|(Qg)<|(Qm)<|(Qm)<|(Qi)<|(Q1 0)<|(Qm)<|(Qi)<|(Q1 0) ?_
  refine e_xor_w rfl rfl rfl  ?_
  refine e_call rfl (Un 261) (rot32_fn _ _ (by decide)) rfl rfl ?_
  refine (Qi)<|(Qu 0)<|Qn<|Qs<|(Qg)<|(Qm)<|(Qi)<|(Q1 0)<|(Qm)<|(Qi)<|(Q1 0) ?_
  refine e_add_w rfl rfl rfl  ?_
  refine (Qi)<|(Qu 0)<|Qn<|(Qg)<|(Qm)<|(Qm)<|(Qi)<|(Q1 0)<|(Qm)<|(Qi)<|(Q1 0) ?_
  refine e_xor_w rfl rfl rfl  ?_
  refine e_call rfl (Un 261) (rot32_fn _ _ (by decide)) rfl rfl ?_
  refine (Qi)<|(Qu 0)<|Qn ?_
  exact ⟨rfl, 0, rfl⟩
set_option maxHeartbeats 2000000 in
theorem rounds_fn (f : Nat → Nat) : Fn Tryz.prog G 280 #[.agg (arr .u32 16 f)] (.agg (arr .u32 16 (dbls f 10))) := by
  refine Qf1 Tryz.func280 ?_
  refine Qs<|Qp<|(Qh 0) fun r1=>(QH 1) fun r2=>Qn<|Qs<|Qp<|(QY)<|(Qa)<|Qn<|Qs<|Qs<|Qp<|(Qm)<|Qn<|Qb ?_
  refine Qz (fun kk E m => ∃ (n : Nat), kk = 10 - n ∧ E = [(1, ptr r1), (2, ptr r2), (3, .func (.func 292) #[] #[ptr r1]), (7, ii n)] ∧ m = [(0, some ⟨r1, arr .u32 16 (twoN f n), 342⟩), (1, some ⟨r2, arr .u32 16 (fun _ => 0), 342⟩)] ∧ (n ≤ 10)) ⟨0, rfl, rfl, rfl, by omega⟩ ⟨rfl, rfl, rfl, rfl, trivial⟩ ⟨rfl, rfl, trivial⟩ ?_
  rintro kk E m ⟨n, rfl, rfl, rfl, hf0_0⟩
  refine Qs<|Qp<|(Ql)<|Qn<|Qs ?_
  refine e_cond rfl ?_ ?_
  · intro hc0
    have hc0 := of_decide_eq_true hc0
    refine Qk<|Qs<|Qb<|Qs<|Qs<|Qp<|(Qm)<|Qn<|Qb ?_
    refine Qz (fun kk E m => ∃ (i : Nat), kk = 4 - i ∧ E = [(1, ptr r1), (2, ptr r2), (3, .func (.func 292) #[] #[ptr r1]), (7, ii n), (9, ii i)] ∧ m = [(0, some ⟨r1, arr .u32 16 (colN (twoN f n) i), 342⟩), (1, some ⟨r2, arr .u32 16 (fun _ => 0), 342⟩)] ∧ (i ≤ 4)) ⟨0, rfl, rfl, rfl, by omega⟩ ⟨rfl, rfl, rfl, rfl, rfl, trivial⟩ ⟨rfl, rfl, trivial⟩ ?_
    rintro kk E m ⟨i, rfl, rfl, rfl, hf1_0⟩
    refine Qs<|Qp<|(Ql)<|Qn<|Qs ?_
    refine e_cond rfl ?_ ?_
    · intro hc1
      have hc1 := of_decide_eq_true hc1
      refine Qk<|Qs<|Qb<|Qs<|Qp<|(Qm)<|(Qa)<|Qn<|QR ⟨[], 5, [], none⟩<|(Qm)<|(Qm)<|(Qm) ?_
      refine e_add_i (p := 4) rfl rfl rfl (by omega) ?_
      refine (Qm) ?_
      refine e_add_i (p := 8) rfl rfl rfl (by omega) ?_
      refine (Qm) ?_
      refine e_add_i (p := 12) rfl rfl rfl (by omega) ?_
      refine e_callW 0 rfl rfl (Un 292) rfl (by simp) (quarter_fn (G := []) _ r1 i (4 + i) (8 + i) (12 + i) (by omega) (by omega) (by omega) (by omega)) rfl rfl ?_
      refine Qn<|Qp<|(Q2 1)<|(Qm)<|Qn ?_
      refine Qzr ⟨i + 1, rfl, rfl, rfl, by omega⟩ ⟨rfl, rfl, rfl, rfl, rfl, trivial⟩ ⟨rfl, rfl, trivial⟩ ?_
      omega
    · intro hc1
      have hc1 := of_decide_eq_false hc1
      have hz1 : i = 4 := by omega
      subst hz1
      refine Qe<|Qs<|Qp<|(Qm)<|Qn<|Qb ?_
      refine Qz (fun kk E m => ∃ (j : Nat), kk = 4 - j ∧ E = [(1, ptr r1), (2, ptr r2), (3, .func (.func 292) #[] #[ptr r1]), (7, ii n), (22, ii j)] ∧ m = [(0, some ⟨r1, arr .u32 16 (diaN (colN (twoN f n) 4) j), 342⟩), (1, some ⟨r2, arr .u32 16 (fun _ => 0), 342⟩)] ∧ (j ≤ 4)) ⟨0, rfl, rfl, rfl, by omega⟩ ⟨rfl, rfl, rfl, rfl, rfl, trivial⟩ ⟨rfl, rfl, trivial⟩ ?_
      rintro kk E m ⟨j, rfl, rfl, rfl, hf2_0⟩
      refine Qs<|Qp<|(Ql)<|Qn<|Qs ?_
      refine e_cond rfl ?_ ?_
      · intro hc2
        have hc2 := of_decide_eq_true hc2
        refine Qk<|Qs<|Qb<|Qs<|Qp<|(Qm)<|(Qa)<|Qn<|QR ⟨[], 5, [], none⟩<|(Qm)<|(Qm)<|(Qm)<|(Q2 1)<|(Q4 4) ?_
        refine e_add_i (p := 4) rfl rfl rfl (by omega) ?_
        refine (Qm)<|(Q2 2)<|(Q4 4) ?_
        refine e_add_i (p := 8) rfl rfl rfl (by omega) ?_
        refine (Qm)<|(Q2 3)<|(Q4 4) ?_
        refine e_add_i (p := 12) rfl rfl rfl (by omega) ?_
        refine e_callW 0 rfl rfl (Un 292) rfl (by simp) (quarter_fn (G := []) _ r1 j (4 + (j + 1) % 4) (8 + (j + 2) % 4) (12 + (j + 3) % 4) (by omega) (by omega) (by omega) (by omega)) rfl rfl ?_
        refine Qn<|Qp<|(Q2 1)<|(Qm)<|Qn ?_
        refine Qzr ⟨j + 1, rfl, rfl, rfl, by omega⟩ ⟨rfl, rfl, rfl, rfl, rfl, trivial⟩ ⟨rfl, rfl, trivial⟩ ?_
        omega
      · intro hc2
        have hc2 := of_decide_eq_false hc2
        have hz2 : j = 4 := by omega
        subst hz2
        refine Qe<|Qp<|(Q2 1)<|(Qm)<|Qn ?_
        refine Qzr ⟨n + 1, rfl, rfl, rfl, by omega⟩ ⟨rfl, rfl, rfl, rfl, trivial⟩ ⟨rfl, rfl, trivial⟩ ?_
        omega
  · intro hc0
    have hc0 := of_decide_eq_false hc0
    have hz0 : n = 10 := by omega
    subst hz0
    refine Qe<|Qs<|Qp<|(Qd 0)<|(Qt 1)<|Qn<|Qr ?_
    rw [← arr_congr (k := .u32) (n := 16) (twoN_dbls f 10)]
    exact ⟨_, rfl, .cell (i := 1) rfl rfl (Uu 342) rfl (Uz 342) (arr_size _ _ _)⟩
end Go.Proofs.YthljakcegoohlaaGreatDoor
namespace Go.Proofs.YthljakcegoohlaaGreatDoor
open Go Go.RowKit
variable {G : Mem}
set_option maxHeartbeats 2000000 in
theorem start_fn (k : Nat → Nat) (c : Nat) (nn : Nat → Nat) (hk : L8 32 k) (hn : L8 12 nn) (hc : c < 4294967296) : Fn Tryz.prog G 279 #[.agg (arr .u8 32 k), uw c, .agg (arr .u8 12 nn)] (.agg (arr .u32 16 (wrd (allb k c nn)))) := by
  refine Qf1 Tryz.func279 ?_
  refine Qs<|Qp<|(Qh 0) fun r1=>(Qh 1) fun r2=>(QH 2) fun r3=>Qn<|Qs<|Qp<|(Qm) ?_
  refine e_build (arr .u32 16 (fun t => if t = 0 then 1634760805 else if t = 1 then 857760878 else if t = 2 then 2036477234 else if t = 3 then 1797285236 else if t = 12 then c else 0)) (Ub 342 rfl) (Uu 342 rfl) (Uz 118 rfl) rfl (by kernel_rfl) rfl ?_
  refine (QH 3) fun r4=>(Qt 3)<|Qn<|Qs<|Qs<|Qp<|(Qd 0)<|(Qm)<|Qn<|Qb ?_
  refine Qz (fun kk E m => ∃ (i : Nat) (s : Nat → Nat), kk = 32 - i ∧ E = [(3, ptr r1), (5, ptr r2), (6, ptr r3), (7, ptr r4), (14, .agg (arr .u8 32 k)), (15, ii i)] ∧ m = [(0, some ⟨r1, arr .u8 32 k, 30⟩), (1, some ⟨r2, arr .u8 12 nn, 179⟩), (2, some ⟨r3, arr .u32 16 (fun _ => 0), 342⟩), (3, some ⟨r4, arr .u32 16 s, 342⟩)] ∧ (i ≤ 32) ∧ (∀ t, t < 16 → s t = stw k c nn i 0 t)) ⟨0, (fun t => if t = 0 then 1634760805 else if t = 1 then 857760878 else if t = 2 then 2036477234 else if t = 3 then 1797285236 else if t = 12 then c else 0), rfl, rfl, rfl, by omega, stw_first k c nn⟩ ⟨rfl, rfl, rfl, rfl, rfl, rfl, trivial⟩ ⟨rfl, rfl, rfl, rfl, trivial⟩ ?_
  rintro kk E m ⟨i, s, rfl, rfl, rfl, hf0_0, hf0_1⟩
  refine Qs<|Qp<|(Ql)<|Qn<|Qs ?_
  refine e_cond rfl ?_ ?_
  · intro hc0
    have hc0 := of_decide_eq_true hc0
    refine Qk<|Qs<|Qb<|Qs<|Qp<|(Qm)<|(QX)<|(Qa)<|(Qa)<|Qn<|(Qg)<|(Qm)<|(Q5 4) ?_
    refine e_add_i (p := 4) rfl rfl rfl (by omega) ?_
    refine (Qi)<|(Q1 3)<|(Qm) ?_
    refine e_conv_w (Uu 5) (Uu 118) rfl rfl rfl ?_
    refine e_as (congrArg uw (Nat.mod_eq_of_lt (Nat.lt_trans (hk i (by omega)) (by decide)))) ?_
    refine (Qm)<|(Q4 4)<|(Q6 8) ?_
    refine e_shl_w rfl rfl rfl (by omega) ?_
    refine e_or_w rfl rfl rfl  ?_
    refine (Qi)<|(Qu 3)<|Qn<|Qp<|(Q2 1)<|(Qm)<|Qn ?_
    refine Qzr ⟨i + 1, upd s (4 + i / 4) _, rfl, rfl, rfl, by omega, stw_key hk (by omega) hf0_1⟩ ⟨rfl, rfl, rfl, rfl, rfl, rfl, trivial⟩ ⟨rfl, rfl, rfl, rfl, trivial⟩ ?_
    omega
  · intro hc0
    have hc0 := of_decide_eq_false hc0
    have hz0 : i = 32 := by omega
    subst hz0
    refine Qe<|Qs<|Qs<|Qp<|(Qd 1)<|(Qm)<|Qn<|Qb ?_
    refine Qz (fun kk E m => ∃ (q : Nat) (s2 : Nat → Nat), kk = 12 - q ∧ E = [(3, ptr r1), (5, ptr r2), (6, ptr r3), (7, ptr r4), (33, .agg (arr .u8 12 nn)), (34, ii q)] ∧ m = [(0, some ⟨r1, arr .u8 32 k, 30⟩), (1, some ⟨r2, arr .u8 12 nn, 179⟩), (2, some ⟨r3, arr .u32 16 (fun _ => 0), 342⟩), (3, some ⟨r4, arr .u32 16 s2, 342⟩)] ∧ (q ≤ 12) ∧ (∀ t, t < 16 → s2 t = stw k c nn 32 q t)) ⟨0, s, rfl, rfl, rfl, by omega, hf0_1⟩ ⟨rfl, rfl, rfl, rfl, rfl, rfl, trivial⟩ ⟨rfl, rfl, rfl, rfl, trivial⟩ ?_
    rintro kk E m ⟨q, s2, rfl, rfl, rfl, hf1_0, hf1_1⟩
    refine Qs<|Qp<|(Ql)<|Qn<|Qs ?_
    refine e_cond rfl ?_ ?_
    · intro hc1
      have hc1 := of_decide_eq_true hc1
      refine Qk<|Qs<|Qb<|Qs<|Qp<|(Qm)<|(QX)<|(Qa)<|(Qa)<|Qn<|(Qg)<|(Qm)<|(Q5 4) ?_
      refine e_add_i (p := 13) rfl rfl rfl (by omega) ?_
      refine (Qi)<|(Q1 3)<|(Qm) ?_
      refine e_conv_w (Uu 5) (Uu 118) rfl rfl rfl ?_
      refine e_as (congrArg uw (Nat.mod_eq_of_lt (Nat.lt_trans (hn q (by omega)) (by decide)))) ?_
      refine (Qm)<|(Q4 4)<|(Q6 8) ?_
      refine e_shl_w rfl rfl rfl (by omega) ?_
      refine e_or_w rfl rfl rfl  ?_
      refine (Qi)<|(Qu 3)<|Qn<|Qp<|(Q2 1)<|(Qm)<|Qn ?_
      refine Qzr ⟨q + 1, upd s2 (13 + q / 4) _, rfl, rfl, rfl, by omega, stw_nonce hn (by omega) hf1_1⟩ ⟨rfl, rfl, rfl, rfl, rfl, rfl, trivial⟩ ⟨rfl, rfl, rfl, rfl, trivial⟩ ?_
      omega
    · intro hc1
      have hc1 := of_decide_eq_false hc1
      have hz1 : q = 12 := by omega
      subst hz1
      refine Qe<|Qs<|Qp<|(Qd 3)<|(Qt 2)<|Qn<|Qr ?_
      rw [← arr_congr (k := .u32) (n := 16) (stw_end k nn hc), ← arr_congr (k := .u32) (n := 16) hf1_1]
      exact ⟨_, rfl, .cell (i := 2) rfl rfl (Uu 342) rfl (Uz 342) (arr_size _ _ _)⟩
set_option maxHeartbeats 2000000 in
theorem block_fn (k : Nat → Nat) (c : Nat) (nn : Nat → Nat) (hk : L8 32 k) (hn : L8 12 nn) (hc : c < 4294967296) : Fn Tryz.prog G 267 #[.agg (arr .u8 32 k), uw c, .agg (arr .u8 12 nn)] (.agg (arr .u8 64 (blkf k c nn))) := by
  obtain ⟨w, hw⟩ : ∃ w, w = wrd (allb k c nn) := ⟨_, rfl⟩
  obtain ⟨v, hv⟩ : ∃ v, v = dbls (wrd (allb k c nn)) 10 := ⟨_, rfl⟩
  refine Qf1 Tryz.func267 ?_
  refine Qs<|Qp<|(Qh 0) fun r1=>(Qh 1) fun r2=>(QH 2) fun r3=>Qn<|Qs<|Qp<|(Qd 0)<|(Qm)<|(Qd 1) ?_
  refine e_call rfl (Un 279) (start_fn k c nn hk hn hc) rfl rfl ?_
  refine e_as (congrArg (fun f => Value.agg (arr .u32 16 f)) hw.symm) ?_
  refine (QH 3) fun r4=>(Qt 3)<|Qn<|Qs<|Qp<|(Qd 3) ?_
  refine e_call rfl (Un 280) (rounds_fn w) rfl rfl ?_
  refine e_as (congrArg (fun f => Value.agg (arr .u32 16 f)) (show dbls w 10 = v by rw [hv, hw])) ?_
  refine (QH 4) fun r5=>(Qt 4)<|Qn<|Qs<|Qp<|(QH 5) fun r6=>Qn<|Qs<|Qs<|Qp<|(Qm)<|Qn<|Qb ?_
  refine Qz (fun kk E m => ∃ (i : Nat) (s : Nat → Nat), kk = 64 - i ∧ E = [(6, ptr r3), (7, ptr r4), (8, ptr r5), (9, ptr r6), (17, ii i)] ∧ m = [(0, some ⟨r1, arr .u8 32 k, 30⟩), (1, some ⟨r2, arr .u8 12 nn, 179⟩), (2, some ⟨r3, arr .u8 64 (fun _ => 0), 147⟩), (3, some ⟨r4, arr .u32 16 w, 342⟩), (4, some ⟨r5, arr .u32 16 v, 342⟩), (5, some ⟨r6, arr .u8 64 s, 147⟩)] ∧ (i ≤ 64) ∧ (∀ t, t < i → s t = blkf k c nn t)) ⟨0, fun _ => 0, rfl, rfl, rfl, by omega, fun t ht => absurd ht (Nat.not_lt_zero t)⟩ ⟨rfl, rfl, rfl, rfl, rfl, trivial⟩ ⟨rfl, rfl, rfl, rfl, rfl, rfl, trivial⟩ ?_
  rintro kk E m ⟨i, s, rfl, rfl, rfl, hf0_0, hf0_1⟩
  refine Qs<|Qp<|(Ql)<|Qn<|Qs ?_
  refine e_cond rfl ?_ ?_
  · intro hc0
    have hc0 := of_decide_eq_true hc0
    refine Qk<|Qs<|Qb<|Qs<|Qp<|(Qm)<|(Qa)<|Qn<|(Qg)<|(Qm)<|(Qm)<|(Q5 4)<|(Qi)<|(Q1 4)<|(Qm)<|(Q5 4)<|(Qi)<|(Q1 3) ?_
    refine e_add_w rfl rfl rfl  ?_
    refine (Qm)<|(Q4 4)<|(Q6 8) ?_
    refine e_shr_w rfl rfl rfl (by omega) ?_
    refine e_conv_u8 (Uu 118) (Uu 5) rfl rfl rfl ?_
    refine (Qi)<|(Qu 5)<|Qn<|Qp<|(Q2 1)<|(Qm)<|Qn ?_
    refine Qzr ⟨i + 1, upd s i _, rfl, rfl, rfl, by omega, upd_lt hf0_1 (blk_at k c nn hv hw (by omega))⟩ ⟨rfl, rfl, rfl, rfl, rfl, trivial⟩ ⟨rfl, rfl, rfl, rfl, rfl, rfl, trivial⟩ ?_
    omega
  · intro hc0
    have hc0 := of_decide_eq_false hc0
    have hz0 : i = 64 := by omega
    subst hz0
    refine Qe<|Qs<|Qp<|(Qd 5)<|(Qt 2)<|Qn<|Qr ?_
    rw [← arr_congr (k := .u8) (n := 64) hf0_1]
    exact ⟨_, rfl, .cell (i := 2) rfl rfl (Uu 147) rfl (Uz 147) (arr_size _ _ _)⟩
end Go.Proofs.YthljakcegoohlaaGreatDoor
namespace Go.Proofs.YthljakcegoohlaaGreatDoor
open Go Go.RowKit
variable {G : Mem}
set_option maxHeartbeats 400000 in
theorem blocks_fn (n : Nat) (hn : n < 9223372036854775808) : Fn Tryz.prog G 278 #[ii n] (u ((n + 63) / 64)) := by
  refine Qf1 Tryz.func278 ?_
  refine Qs<|Qp<|(Qa)<|Qn<|Qs<|Qp<|(Qm) ?_
  refine e_conv_u (Uu 3) (Uu 31) rfl rfl rfl ?_
  refine e_as (congrArg u (Nat.mod_eq_of_lt (show n < 18446744073709551616 by omega))) ?_
  refine e_add_u (q := 63) rfl rfl rfl  ?_
  refine e_as (congrArg u (Nat.mod_eq_of_lt (show n + 63 < 18446744073709551616 by omega))) ?_
  refine e_quo_u (q := 64) rfl rfl rfl (by omega) (by omega) ?_
  refine (Qa)<|Qn<|Qr ?_
  exact ⟨_, rfl, .tmp rfl⟩
set_option maxHeartbeats 2000000 in
theorem stream_ok (k : Nat → Nat) (c : Nat) (nn : Nat → Nat) (v : Value) (l : List Nat) (hv : Sh G v l) (hk : L8 32 k) (hn : L8 12 nn) (hc : c < 4294967296) (hl : l.length ≤ 1600) (ho : ¬ 64 * (4294967296 - c) < l.length) : Fx Tryz.prog G [] 266 #[.agg (arr .u8 32 k), uw c, .agg (arr .u8 12 nn), v] (fun v l1 nw => l1 = [] ∧ ∃ v', v = .tuple #[v', ii 0] ∧ OwnS 5 1 v' (l.length - 0) ((strl k c nn l 0).map by8) nw) := by
  refine QfM Tryz.func266 ?_
  refine Qs<|Qp<|(Qh 0) fun r1=>(Qh 1) fun r2=>(Qa)<|(Qa)<|Qn<|Qs<|Qs<|Qp<|(Qm)<|(QC hv)<|(QG)<|(Qaf)<|Qn<|(Qcf)<|Qk<|Qs<|Qs<|Qp<|(Qm) ?_
  refine e_conv_u (Uu 118) (Uu 31) rfl rfl rfl ?_
  refine e_as (congrArg u (Nat.mod_eq_of_lt (show c < 18446744073709551616 by omega))) ?_
  refine (Qm)<|(QC hv) ?_
  refine e_call rfl (Un 278) (blocks_fn _ (by omega)) rfl rfl ?_
  refine e_add_u rfl rfl rfl  ?_
  refine e_as (congrArg u (Nat.mod_eq_of_lt (show c + (l.length + 63) / 64 < 18446744073709551616 by omega))) ?_
  refine (QG)<|(Qaf)<|Qn<|(Qcf)<|Qk<|Qs<|Qp<|(Qm)<|(QC hv) ?_
  refine e_make 2 (Uu 22) (Uz 5) (Uy 5) (Ub 5) rfl rfl rfl (by omega) (by omega) rfl fun r3 => ?_
  refine (Qa)<|Qn<|Qs<|Qp<|(QH 3) fun r4=>Qn<|Qs<|Qs<|Qp<|(Qm)<|(QC hv)<|(Qm)<|Qn<|Qb ?_
  refine Qz (fun kk E m => ∃ (i : Nat) (s : Nat → Nat) (p : Nat → Nat), kk = l.length - i ∧ E = [(1, uw c), (4, ptr r1), (6, ptr r2), (10, .slice (some ⟨r3, 0, none⟩) l.length l.length), (11, ptr r4), (27, v), (28, ii l.length), (29, ii i)] ∧ m = [(0, some ⟨r1, arr .u8 32 k, 30⟩), (1, some ⟨r2, arr .u8 12 nn, 179⟩), (2, some ⟨r3, arr .u8 l.length s, 5⟩), (3, some ⟨r4, arr .u8 64 p, 147⟩)] ∧ (i ≤ l.length) ∧ (∀ t, t < i → s t = strv k c nn l t) ∧ (i % 64 ≠ 0 → ∀ t, t < 64 → p t = blkf k ((c + i / 64 % 4294967296) % 4294967296) nn t)) ⟨0, fun _ => 0, fun _ => 0, rfl, rfl, rfl, by omega, fun t ht => absurd ht (Nat.not_lt_zero t), fun h => absurd rfl h⟩ ⟨rfl, rfl, rfl, rfl, rfl, rfl, rfl, rfl, trivial⟩ ⟨rfl, rfl, rfl, rfl, trivial⟩ ?_
  rintro kk E m ⟨i, s, p, rfl, rfl, rfl, hf0_0, hf0_1, hf0_2⟩
  refine Qs<|Qp<|(Ql)<|Qn<|Qs ?_
  refine e_cond rfl ?_ ?_
  · intro hc2
    have hc2 := of_decide_eq_true hc2
    refine Qk<|Qs<|Qb<|Qs<|Qp<|(Qm) ?_
    refine e_atV hv (Uu 22) (Uz 5) rfl rfl (by omega) rfl ?_
    refine (QS) ?_
    refine e_loadV hv seenG (Uu 5) rfl rfl (nth_by8 (show i < l.length by omega)) rfl ?_
    refine (Qa)<|(Qa)<|Qn<|Qs<|Qs<|Qp<|(Qm)<|(Q4 64)<|(Qc)<|Qn ?_
    refine e_cond rfl ?_ ?_
    · intro hc3
      have hc3 := of_decide_eq_true hc3
      refine Qp<|(Qd 0)<|(Qm)<|(Qm)<|(Q5 64) ?_
      refine e_conv_w (Uu 3) (Uu 118) rfl rfl rfl ?_
      refine e_add_w rfl rfl rfl  ?_
      refine (Qd 1) ?_
      refine e_call rfl (Un 267) (block_fn k _ nn hk hn (Nat.mod_lt _ (by decide))) rfl rfl ?_
      refine (Qt 3)<|Qn<|Qp<|(Qm)<|(Qm)<|(Qm)<|(Qm)<|(Q4 64)<|(Qi)<|(Q1 3) ?_
      refine e_xor_b rfl rfl rfl  ?_
      refine e_atSl (i) (Uu 22) (Uz 5) rfl rfl (by omega) (by omega) rfl ?_
      refine (Qu 2)<|Qn<|Qp<|(Q2 1)<|(Qm)<|Qn ?_
      refine Qzr ⟨i + 1, upd s i _, _, rfl, rfl, rfl, by omega, upd_lt hf0_1 (strv_in k c nn _ l (by omega) (by first | rfl | exact hf0_2 (by omega) _ (by omega))), fun h t ht => by rw [show (i + 1) / 64 = i / 64 by omega] <;> exact hf0_2 (by omega) t ht⟩ ⟨rfl, rfl, rfl, rfl, rfl, rfl, rfl, rfl, trivial⟩ ⟨rfl, rfl, rfl, rfl, trivial⟩ ?_
      omega
    · intro hc3
      have hc3 := of_decide_eq_false hc3
      refine Qk<|Qp<|(Qm)<|(Qm)<|(Qm)<|(Qm)<|(Q4 64)<|(Qi)<|(Q1 3) ?_
      refine e_xor_b rfl rfl rfl  ?_
      refine e_atSl (i) (Uu 22) (Uz 5) rfl rfl (by omega) (by omega) rfl ?_
      refine (Qu 2)<|Qn<|Qp<|(Q2 1)<|(Qm)<|Qn ?_
      refine Qzr ⟨i + 1, upd s i _, _, rfl, rfl, rfl, by omega, upd_lt hf0_1 (strv_in k c nn _ l (by omega) (by first | rfl | exact hf0_2 (by omega) _ (by omega))), fun h t ht => by rw [show (i + 1) / 64 = i / 64 by omega] <;> exact hf0_2 (by omega) t ht⟩ ⟨rfl, rfl, rfl, rfl, rfl, rfl, rfl, rfl, trivial⟩ ⟨rfl, rfl, rfl, rfl, trivial⟩ ?_
      omega
  · intro hc2
    have hc2 := of_decide_eq_false hc2
    have hz2 : i = l.length := by omega
    subst hz2
    refine Qe<|Qs<|Qp<|(Qm)<|(Qa)<|(Qa)<|Qn<|Qr ?_
    exact ⟨_, _, _, _, 2, rfl, .tmp rfl, .tmp rfl, (own_fix (own_made (strl_len k c nn l 0) (by simp only [maxLen]; omega) (fun j hj => (hf0_1 j (by omega)).trans (strl_at k c nn l (by omega)).symm)) rfl rfl), rfl⟩
end Go.Proofs.YthljakcegoohlaaGreatDoor
namespace Go.Proofs.YthljakcegoohlaaGreatDoor
open Go Go.RowKit
variable {G : Mem}
set_option maxHeartbeats 400000 in
theorem mul64_fn (x y : Nat) (hx : x < 18446744073709551616) (hy : y < 18446744073709551616) : Fn Tryz.prog G 277 #[u x, u y] (.tuple #[u (x * y / 18446744073709551616), u (x * y % 18446744073709551616)]) := by
  refine Qf2 Tryz.func277 ?_
  refine Qs<|Qp<|(Qa)<|(Qa)<|Qn<|Qs<|Qp<|(Qm)<|(Q9 4294967295)<|(Qa)<|Qn<|Qs<|Qp<|(Qm)<|(Q8 32)<|(Qa)<|Qn<|Qs<|Qp<|(Qm)<|(Q9 4294967295)<|(Qa)<|Qn<|Qs<|Qp<|(Qm)<|(Q8 32)<|(Qa)<|Qn<|Qs<|Qp<|(Qm)<|(Qm) ?_
  refine e_mul_u rfl rfl rfl  ?_
  refine (Qa)<|Qn<|Qs<|Qp<|(Qm)<|(Qm) ?_
  refine e_mul_u rfl rfl rfl  ?_
  refine (Qm)<|(Q8 32) ?_
  refine e_add_u rfl rfl rfl  ?_
  refine (Qa)<|Qn<|Qs<|Qp<|(Qm)<|(Q9 4294967295)<|(Qa)<|Qn<|Qs<|Qp<|(Qm)<|(Q8 32)<|(Qa)<|Qn<|Qs<|Qp<|(Qm)<|(Qm)<|(Qm) ?_
  refine e_mul_u rfl rfl rfl  ?_
  refine e_add_u rfl rfl rfl  ?_
  refine (Qa)<|Qn<|Qs<|Qp<|(Qm)<|(Qm) ?_
  refine e_mul_u rfl rfl rfl  ?_
  refine (Qm) ?_
  refine e_add_u rfl rfl rfl  ?_
  refine (Qm)<|(Q8 32) ?_
  refine e_add_u rfl rfl rfl  ?_
  refine (Qa)<|Qn<|Qs<|Qp<|(Qm)<|(Qm) ?_
  refine e_mul_u rfl rfl rfl  ?_
  refine (Qa)<|Qn<|Qr ?_
  rw [← mul64_hi x y hx hy]
  exact ⟨_, _, rfl, .tmp rfl, .tmp rfl⟩
end Go.Proofs.YthljakcegoohlaaGreatDoor
namespace Go.Proofs.YthljakcegoohlaaGreatDoor
open Go Go.RowKit
variable {G : Mem}
set_option maxHeartbeats 400000 in
theorem dprime_fn : Fn Tryz.prog G 302 #[] (f3 QQ) := by
  refine Qf1 Tryz.func302 ?_
  refine Qs<|Qp<|(QH 0) fun r1=>Qn<|Qs<|Qp ?_
  refine e_build (arr .u64 3 (wd QQ)) (Ub 358 rfl) (Uu 358 rfl) (Uz 31 rfl) rfl (by kernel_rfl) rfl ?_
  refine (Qt 0)<|Qn<|Qr ?_
  exact ⟨_, rfl, .cell (i := 0) rfl rfl (Uu 358) rfl (Uz 358) (arr_size _ _ _)⟩
set_option maxHeartbeats 400000 in
theorem dpair_fn (f : Nat → Nat) (hf : L8 16 f) : Fn Tryz.prog G 295 #[.agg (arr .u8 16 f)] (f2 (vb f 16)) := by
  refine Qf1 Tryz.func295 ?_
  refine Qs<|Qp<|(Qh 0) fun r1=>(QH 1) fun r2=>Qn<|Qs<|Qp<|(QH 2) fun r3=>Qn<|Qs<|Qs<|Qp<|(Qd 0)<|(Qm)<|Qn<|Qb ?_
  refine QzK [(2, _), (3, _), (6, _)] [(0, _), (1, _)] (fun kk E m => ∃ (k : Nat) (s : Nat → Nat), kk = 16 - k ∧ E = [(7, ii k)] ∧ m = [(2, some ⟨r3, arr .u64 2 s, 290⟩)] ∧ (k ≤ 16) ∧ (∀ j, j < 4 → s j = wd (vb f k) j)) ⟨0, fun _ => 0, rfl, rfl, rfl, by omega, fun j _ => by simp [vb, wd]⟩ ⟨rfl, rfl, rfl, rfl, trivial⟩ ⟨rfl, rfl, rfl, trivial⟩ ?_
  rintro kk E m ⟨k, s, rfl, rfl, rfl, hf0_0, hf0_1⟩
  simp only [catE, catL]
  refine Qs<|Qp<|(Ql)<|Qn<|Qs ?_
  refine e_cond rfl ?_ ?_
  · intro hc0
    have hc0 : k < 16 := by have := of_decide_eq_true hc0; omega
    refine Qk<|Qs<|Qb<|Qs<|Qp<|(Qm)<|(QX)<|(Qa)<|(Qa)<|Qn<|(Qg)<|(Qm)<|(Q5 8)<|(Qi)<|(Q1 2)<|(Qm) ?_
    refine e_conv_u (Uu 5) (Uu 31) rfl rfl rfl ?_
    refine (Qm)<|(Q4 8)<|(Q6 8) ?_
    refine e_shl_u rfl rfl rfl (by omega) ?_
    refine e_or_u rfl rfl rfl  ?_
    refine (Qi)<|(Qu 2)<|Qn<|Qp<|(Q2 1)<|(Qm)<|Qn ?_
    refine QzL ⟨k + 1, upd s (k / 8) _, rfl, rfl, rfl, by omega, pair_step (by omega) hf hf0_1⟩ ⟨rfl, rfl, rfl, rfl, trivial⟩ ⟨rfl, rfl, rfl, trivial⟩ ?_
    omega
  · intro hc0
    have hc0 := of_decide_eq_false hc0
    have hz0 : k = 16 := by omega
    subst hz0
    refine Qe<|Qs<|Qp<|(Qd 2)<|(Qt 1)<|Qn<|Qr ?_
    rw [f2_of (fun j hj => hf0_1 j (by omega))]
    exact ⟨_, rfl, .cell (i := 1) rfl rfl (Uu 290) rfl (Uz 290) (arr_size _ _ _)⟩
set_option maxHeartbeats 400000 in
theorem dclamped_fn (r : Nat → Nat) : Fn Tryz.prog G 296 #[.agg (arr .u64 2 r)] (.agg (arr .u64 2 (clf r))) := by
  refine Qf1 Tryz.func296 ?_
  refine Qs<|Qp<|(Qh 0) fun r1=>(QH 1) fun r2=>Qn<|Qs<|Qp<|(Qj 0)<|(Q1 0)<|(Q9 1152921487695413247)<|(Qj 1)<|(Q1 0)<|(Q9 1152921487695413244) ?_
  refine e_build (arr .u64 2 (clf r)) (Ub 290 rfl) (Uu 290 rfl) (Uz 31 rfl) rfl rfl rfl ?_
  refine (Qt 1)<|Qn<|Qr ?_
  exact ⟨_, rfl, .cell (i := 1) rfl rfl (Uu 290) rfl (Uz 290) (arr_size _ _ _)⟩
set_option maxHeartbeats 400000 in
theorem dplus_fn (a b : Nat) : Fn Tryz.prog G 300 #[f3 a, f3 b] (f3 (a + b)) := by
  refine Qf1 Tryz.func300 ?_
  refine Qs<|Qp<|(Qh 0) fun r1=>(Qh 1) fun r2=>(QH 2) fun r3=>Qn<|Qs<|Qp<|(QH 3) fun r4=>Qn<|Qs<|Qp<|(Qa)<|Qn<|Qs<|Qs<|Qp<|(Qm)<|Qn<|Qb ?_
  refine QzK [(2, _), (3, _), (4, _), (5, _)] [(0, _), (1, _), (2, _)] (fun kk E m => ∃ (k : Nat) (s : Nat → Nat), kk = 3 - k ∧ E = [(6, u (car a b k)), (8, ii k)] ∧ m = [(3, some ⟨r4, arr .u64 3 s, 358⟩)] ∧ (k ≤ 3) ∧ (∀ j, j < k → s j = wd (a + b) j)) ⟨0, fun _ => 0, rfl, rfl, rfl, by omega, fun j hj => absurd hj (Nat.not_lt_zero j)⟩ ⟨by rw [car_zero]; rfl, rfl, rfl, rfl, rfl, rfl, trivial⟩ ⟨rfl, rfl, rfl, rfl, trivial⟩ ?_
  rintro kk E m ⟨k, s, rfl, rfl, rfl, hf0_0, hf0_1⟩
  simp only [catE, catL]
  have hcl := car_le a b k
  refine Qs<|Qp<|(Ql)<|Qn<|Qs ?_
  refine e_cond rfl ?_ ?_
  · intro hc0
    have hc0 : k < 3 := by have := of_decide_eq_true hc0; omega
    refine Qk<|Qs<|Qb<|Qs<|Qp<|(Qm)<|(Qa)<|Qn<|(Qq ⟨[r4], 1, [], none⟩)<|(Qm)<|(Qm)<|(Qi) ?_
    refine e_load1 (i := 0) (Uu 31) rfl rfl rfl (arr_get (by omega)) rfl ⟨[3], rfl, rfl, trivial⟩ ?_
    refine (Qm)<|(Qi) ?_
    refine e_load1 (i := 1) (Uu 31) rfl rfl rfl (arr_get (by omega)) rfl ⟨[3], rfl, rfl, trivial⟩ ?_
    refine (Qm) ?_
    refine e_callE rfl (fun w => add64 _ _ _ (by omega) w) rfl rfl ?_
    refine (Qm)<|(Qx)<|(Qx)<|(Qi) ?_
    refine e_storeN (i := 3) (Uz 31) rfl rfl rfl (by omega) (.inr (by simp)) ?_
    refine (Qa)<|Qn<|Qp<|(Q2 1)<|(Qm)<|Qn ?_
    refine QzL ⟨k + 1, upd s k _, rfl, rfl, rfl, by omega, upd_lt hf0_1 (car_word a b k)⟩ ⟨by rw [← car_next]; rfl, rfl, rfl, rfl, rfl, rfl, trivial⟩ ⟨rfl, rfl, rfl, rfl, trivial⟩ ?_
    omega
  · intro hc0
    have hc0 := of_decide_eq_false hc0
    have hz0 : k = 3 := by omega
    subst hz0
    refine Qe<|Qs<|Qp<|(Qd 3)<|(Qt 2)<|Qn<|Qr ?_
    rw [f3_of hf0_1]
    exact ⟨_, rfl, .cell (i := 2) rfl rfl (Uu 358) rfl (Uz 358) (arr_size _ _ _)⟩
set_option maxHeartbeats 400000 in
theorem dminus_fn (a b : Nat) (ha : a < 2 ^ 192) (hb : b < 2 ^ 192) : Fn Tryz.prog G 301 #[f3 a, f3 b] (.tuple #[f3 (a + 2 ^ 256 - b), u (if a < b then 1 else 0)]) := by
  have hfin : bor a b 3 = if a < b then 1 else 0 := by
    unfold bor
    rw [Nat.mod_eq_of_lt (show a < 2 ^ (64 * 3) from ha), Nat.mod_eq_of_lt (show b < 2 ^ (64 * 3) from hb)]
  refine Qf2 Tryz.func301 ?_
  refine Qs<|Qp<|(Qh 0) fun r1=>(Qh 1) fun r2=>(QH 2) fun r3=>(Qa)<|Qn<|Qs<|Qp<|(QH 3) fun r4=>Qn<|Qs<|Qp<|(Qa)<|Qn<|Qs<|Qs<|Qp<|(Qm)<|Qn<|Qb ?_
  refine QzK [(2, _), (3, _), (4, _), (5, _), (6, _)] [(0, _), (1, _), (2, _)] (fun kk E m => ∃ (k : Nat) (s : Nat → Nat), kk = 3 - k ∧ E = [(7, u (bor a b k)), (9, ii k)] ∧ m = [(3, some ⟨r4, arr .u64 3 s, 358⟩)] ∧ (k ≤ 3) ∧ (∀ j, j < k → s j = wd (a + 2 ^ 256 - b) j)) ⟨0, fun _ => 0, rfl, rfl, rfl, by omega, fun j hj => absurd hj (Nat.not_lt_zero j)⟩ ⟨by rw [bor_zero]; rfl, rfl, rfl, rfl, rfl, rfl, rfl, trivial⟩ ⟨rfl, rfl, rfl, rfl, trivial⟩ ?_
  rintro kk E m ⟨k, s, rfl, rfl, rfl, hf0_0, hf0_1⟩
  simp only [catE, catL]
  have hcl := bor_le a b k
  have hwl := wd_lt b k
  refine Qs<|Qp<|(Ql)<|Qn<|Qs ?_
  refine e_cond rfl ?_ ?_
  · intro hc0
    have hc0 : k < 3 := by have := of_decide_eq_true hc0; omega
    refine Qk<|Qs<|Qb<|Qs<|Qp<|(Qm)<|(Qa)<|Qn<|(Qq ⟨[r4], 1, [], none⟩)<|(Qm)<|(Qm)<|(Qi) ?_
    refine e_load1 (i := 0) (Uu 31) rfl rfl rfl (arr_get (by omega)) rfl ⟨[3], rfl, rfl, trivial⟩ ?_
    refine (Qm)<|(Qi) ?_
    refine e_load1 (i := 1) (Uu 31) rfl rfl rfl (arr_get (by omega)) rfl ⟨[3], rfl, rfl, trivial⟩ ?_
    refine (Qm) ?_
    refine e_callE rfl (fun w => sub64 _ _ _ (by omega) (by omega) w) rfl rfl ?_
    refine (Qm)<|(Qx)<|(Qx)<|(Qi) ?_
    refine e_storeN (i := 3) (Uz 31) rfl rfl rfl (by omega) (.inr (by simp)) ?_
    refine (Qa)<|Qn<|Qp<|(Q2 1)<|(Qm)<|Qn ?_
    refine QzL ⟨k + 1, upd s k _, rfl, rfl, rfl, by omega, upd_lt hf0_1 (bor_word a b k (by omega) (by omega))⟩ ⟨by rw [← bor_next]; rfl, rfl, rfl, rfl, rfl, rfl, rfl, trivial⟩ ⟨rfl, rfl, rfl, rfl, trivial⟩ ?_
    omega
  · intro hc0
    have hc0 := of_decide_eq_false hc0
    have hz0 : k = 3 := by omega
    subst hz0
    refine Qe<|Qs<|Qp<|(Qd 3)<|(Qm)<|(Qt 2)<|(Qa)<|Qn<|Qr ?_
    rw [← hfin, f3_of hf0_1]
    exact ⟨_, _, rfl, .cell (i := 2) rfl rfl (Uu 358) rfl (Uz 358) (arr_size _ _ _), .tmp rfl⟩
set_option maxHeartbeats 400000 in
theorem dbelow_fn (a : Nat) (ha : a < 2 ^ 192) : Fn Tryz.prog G 298 #[f3 a] (.bool (decide (a < QQ))) := by
  have hQQ := QQ_eq
  refine Qf1 Tryz.func298 ?_
  refine Qs<|Qp<|(Qh 0) fun r1=>(Qa)<|Qn<|Qs<|(Qg)<|(Qd 0) ?_
  refine e_call rfl (Un 302) dprime_fn rfl rfl ?_
  refine e_call rfl (Un 301) (dminus_fn _ _ (by omega) (by omega)) rfl rfl ?_
  refine (Qm)<|(Qx)<|(Qx)<|(QH 1) fun r2=>(Qt 1)<|(Qa)<|Qn<|Qs<|Qp<|(Qm)<|(Qc) ?_
  refine e_as (lt_bool _ _) ?_
  refine (Qa)<|Qn<|Qr ?_
  exact ⟨_, rfl, .tmp rfl⟩
set_option maxHeartbeats 400000 in
theorem dtimes_fn (a n : Nat) (hn : n ≤ 1) : Fn Tryz.prog G 305 #[f3 a, u n] (f3 (a * n)) := by
  refine Qf1 Tryz.func305 ?_
  refine Qs<|Qp<|(Qh 0) fun r1=>(QH 1) fun r2=>Qn<|Qs<|Qs<|Qp<|(Qm)<|Qn<|Qb ?_
  refine QzK [(1, _), (2, _), (4, _)] [(1, _)] (fun kk E m => ∃ (k : Nat) (s : Nat → Nat), kk = 3 - k ∧ E = [(6, ii k)] ∧ m = [(0, some ⟨r1, arr .u64 3 s, 358⟩)] ∧ (k ≤ 3) ∧ (∀ j, j < k → s j = wd (a * n) j) ∧ (∀ j, k ≤ j → s j = wd a j)) ⟨0, wd a, rfl, rfl, rfl, by omega, fun j hj => absurd hj (Nat.not_lt_zero j), fun j _ => rfl⟩ ⟨rfl, rfl, rfl, rfl, trivial⟩ ⟨rfl, rfl, trivial⟩ ?_
  rintro kk E m ⟨k, s, rfl, rfl, rfl, hf0_0, hf0_1, hf0_2⟩
  simp only [catE, catL]
  refine Qs<|Qp<|(Ql)<|Qn<|Qs ?_
  refine e_cond rfl ?_ ?_
  · intro hc0
    have hc0 : k < 3 := by have := of_decide_eq_true hc0; omega
    refine Qk<|Qs<|Qb<|Qs<|Qp<|(Qm)<|(Qa)<|Qn<|Qp<|(Qm)<|(Qi)<|(Q1 0)<|(Qm) ?_
    refine e_neg_u rfl rfl (by omega) ?_
    refine e_and_u rfl rfl rfl  ?_
    refine (Qi)<|(Qu 0)<|Qn<|Qp<|(Q2 1)<|(Qm)<|Qn ?_
    refine QzL ⟨k + 1, upd s k _, rfl, rfl, rfl, by omega, upd_lt hf0_1 (by rw [hf0_2 k (Nat.le_refl k)]; exact wd_mul01 a n k hn), upd_ge hf0_2⟩ ⟨rfl, rfl, rfl, rfl, trivial⟩ ⟨rfl, rfl, trivial⟩ ?_
    omega
  · intro hc0
    have hc0 := of_decide_eq_false hc0
    have hz0 : k = 3 := by omega
    subst hz0
    refine Qe<|Qs<|Qp<|(Qd 0)<|(Qt 1)<|Qn<|Qr ?_
    rw [f3_of hf0_1]
    exact ⟨_, rfl, .cell (i := 1) rfl rfl (Uu 358) rfl (Uz 358) (arr_size _ _ _)⟩
set_option maxHeartbeats 400000 in
theorem dstep_fn (a b c d : Nat) (ha : a < 18446744073709551616) (hb : b < 18446744073709551616) (hc : c < 18446744073709551616) (hd : d < 18446744073709551616) : Fn Tryz.prog G 304 #[u a, u b, u c, u d] (.tuple #[u ((a * b + c + d) % 18446744073709551616), u ((a * b + c + d) / 18446744073709551616)]) := by
  have hp := prod_lt ha hb
  refine Qf2 Tryz.func304 ?_
  refine Qs<|Qp<|(Qa)<|(Qa)<|Qn<|Qs<|Qp<|(Qm)<|(Qm) ?_
  refine e_call rfl (Un 277) (mul64_fn _ _ (by omega) (by omega)) rfl rfl ?_
  refine (Qm)<|(Qx)<|(Qx)<|(Qa)<|(Qa)<|Qn<|Qs<|Qp<|(Qm)<|(Qm) ?_
  refine e_callE rfl (fun w => add64 _ _ 0 (by omega) w) rfl rfl ?_
  refine (Qm)<|(Qx)<|(Qx)<|(Qa)<|(Qa)<|Qn<|Qs<|Qp<|(Qm)<|(Qm) ?_
  refine e_add_u rfl rfl rfl  ?_
  refine (Qa)<|Qn<|Qs<|Qp<|(Qm)<|(Qm) ?_
  refine e_callE rfl (fun w => add64 _ _ 0 (by omega) w) rfl rfl ?_
  refine (Qm)<|(Qx)<|(Qx)<|(Qa)<|(Qa)<|Qn<|Qs<|Qp<|(Qm)<|(Qm)<|(Qm) ?_
  refine e_add_u rfl rfl rfl  ?_
  refine (Qa)<|(Qa)<|Qn<|Qr ?_
  rw [← step_lo, ← step_hi _ _ _ hp hc hd]
  exact ⟨_, _, rfl, .tmp rfl, .tmp rfl⟩
set_option maxHeartbeats 400000 in
theorem dwide_fn (a b : Nat) (ha : a < 2 ^ 192) (hb : b < 2 ^ 128) : Fn Tryz.prog G 303 #[f3 a, f2 b] (.agg (arr .u64 5 (wd (a * b)))) := by
  refine Qf1 Tryz.func303 ?_
  refine Qs<|Qp<|(Qh 0) fun r1=>(Qh 1) fun r2=>(QH 2) fun r3=>Qn<|Qs<|Qp<|(QH 3) fun r4=>Qn<|Qs<|Qs<|Qp<|(Qm)<|Qn<|Qb ?_
  refine QzK [(2, _), (3, _), (4, _), (5, _)] [(0, _), (1, _), (2, _)] (fun kk E m => ∃ (k : Nat) (s : Nat → Nat), kk = 3 - k ∧ E = [(9, ii k)] ∧ m = [(3, some ⟨r4, arr .u64 5 s, 345⟩)] ∧ (k ≤ 3) ∧ (∀ t, t < 5 → s t = wd (a % 2 ^ (64 * k) * b) t)) ⟨0, fun _ => 0, rfl, rfl, rfl, by omega, fun t _ => by simp [Nat.mod_one, wd]⟩ ⟨rfl, rfl, rfl, rfl, rfl, trivial⟩ ⟨rfl, rfl, rfl, rfl, trivial⟩ ?_
  rintro kk E m ⟨k, s, rfl, rfl, rfl, hf0_0, hf0_1⟩
  simp only [catE, catL]
  refine Qs<|Qp<|(Ql)<|Qn<|Qs ?_
  refine e_cond rfl ?_ ?_
  · intro hc0
    have hc0 : k < 3 := by have := of_decide_eq_true hc0; omega
    refine Qk<|Qs<|Qb<|Qs<|Qp<|(Qm)<|(Qa)<|Qn<|Qs<|Qp<|(Qa)<|Qn<|Qs<|Qs<|Qp<|(Qm)<|Qn<|Qb ?_
    refine QzK [(2, _), (3, _), (4, _), (5, _), (6, _), (9, _)] [(0, _), (1, _), (2, _)] (fun kk E m => ∃ (j : Nat) (s2 : Nat → Nat), kk = 2 - j ∧ E = [(7, u (wO a b k j)), (12, ii j)] ∧ m = [(3, some ⟨r4, arr .u64 5 s2, 345⟩)] ∧ (j ≤ 2) ∧ (∀ t, t < k + j → s2 t = wd (wS a b k j) t) ∧ (∀ t, k + j ≤ t → t < 5 → s2 t = wd (a % 2 ^ (64 * k) * b) t)) ⟨0, s, rfl, rfl, rfl, by omega, fun t ht => (hf0_1 t (by omega)).trans (wS_zero a b k t (by omega)).symm, fun t _ ht => hf0_1 t ht⟩ ⟨by rw [wO_zero]; rfl, rfl, rfl, rfl, rfl, rfl, rfl, rfl, trivial⟩ ⟨rfl, rfl, rfl, rfl, trivial⟩ ?_
    rintro kk E m ⟨j, s2, rfl, rfl, rfl, hf1_0, hf1_1, hf1_2⟩
    simp only [catE, catL]
    have ha1 := wd_lt a k
    have hb1 := wd_lt b j
    have ho1 := wO_lt a b k j (by omega)
    have hs2 : j < 2 → s2 (k + j) = wd (a % 2 ^ (64 * k) * b) (k + j) := fun h => hf1_2 (k + j) (by omega) (by omega)
    refine Qs<|Qp<|(Ql)<|Qn<|Qs ?_
    refine e_cond rfl ?_ ?_
    · intro hc1
      have hc1 : j < 2 := by have := of_decide_eq_true hc1; omega
      refine Qk<|Qs<|Qb<|Qs<|Qp<|(Qm)<|(Qa)<|Qn<|(Qg)<|(Qm)<|(Qm)<|(Q3)<|(Qm)<|(Qi)<|(Q1 0)<|(Qm)<|(Qi)<|(Q1 1)<|(Qm)<|(Qm)<|(Q3)<|(Qi)<|(Q1 3)<|(Qm) ?_
      have hs3 := wd_lt (a % 2 ^ (64 * k) * b) (k + j); have hs4 := hs2 hc1
      refine e_call rfl (Un 304) (dstep_fn _ _ _ _ (by omega) (by omega) (by omega) (by omega)) rfl rfl ?_
      refine (Qm)<|(Qx)<|(Qx)<|(Qi)<|(Qu 3)<|(Qa)<|Qn<|Qp<|(Q2 1)<|(Qm)<|Qn ?_
      refine QzL ⟨j + 1, upd s2 (k + j) _, rfl, rfl, rfl, by omega, by rw [hs2 hc1]; exact inner_low hf1_1, fun t h1 h2 => by rw [← hf1_2 t (by omega) h2]; unfold upd; rw [if_neg (by omega)]⟩ ⟨by rw [← wide_hi, ← hs2 hc1]; rfl, rfl, rfl, rfl, rfl, rfl, rfl, rfl, trivial⟩ ⟨rfl, rfl, rfl, rfl, trivial⟩ ?_
      omega
    · intro hc1
      have hc1 := of_decide_eq_false hc1
      have hz1 : j = 2 := by omega
      subst hz1
      refine Qe<|Qp<|(Qm)<|(Q2 2)<|(Qm)<|(Qi)<|(Qu 3)<|Qn<|Qp<|(Q2 1)<|(Qm)<|Qn ?_
      refine QzL ⟨k + 1, upd s2 (k + 2) _, rfl, rfl, rfl, by omega, outer_row2 hb hf1_1 hf1_2⟩ ⟨rfl, rfl, rfl, rfl, rfl, trivial⟩ ⟨rfl, rfl, rfl, rfl, trivial⟩ ?_
      omega
  · intro hc0
    have hc0 := of_decide_eq_false hc0
    have hz0 : k = 3 := by omega
    subst hz0
    refine Qe<|Qs<|Qp<|(Qd 3)<|(Qt 2)<|Qn<|Qr ?_
    rw [Nat.mod_eq_of_lt (show a < 2 ^ (64 * 3) from ha)] at hf0_1
    rw [← arr_congr hf0_1]
    exact ⟨_, rfl, .cell (i := 2) rfl rfl (Uu 345) rfl (Uz 345) (arr_size _ _ _)⟩
end Go.Proofs.YthljakcegoohlaaGreatDoor
namespace Go.Proofs.YthljakcegoohlaaGreatDoor
open Go Go.RowKit
variable {G : Mem}
set_option maxHeartbeats 2000000 in
theorem dproduct_fn (a b : Nat) (ha : a < 2 ^ 131) (hb : b < 2 ^ 124) : Fn Tryz.prog G 299 #[f3 a, f2 b] (f3 (a * b % QQ)) := by
  obtain ⟨x, hx⟩ : ∃ x, x = a * b := ⟨_, rfl⟩
  have hx2 : x < 2 ^ 255 := by rw [hx]; exact Nat.lt_of_le_of_lt (Nat.mul_le_mul (Nat.le_of_lt_succ ha) (Nat.le_of_lt hb)) (by decide)
  obtain ⟨L, hL⟩ : ∃ L, L = x % 2 ^ 130 := ⟨_, rfl⟩
  obtain ⟨H, hH⟩ : ∃ H, H = x / 2 ^ 130 := ⟨_, rfl⟩
  have hL2 : L < 2 ^ 130 := by rw [hL]; exact Nat.mod_lt _ (by decide)
  have hH2 : H < 2 ^ 125 := by omega
  have hQQ := QQ_eq
  obtain ⟨S, hS⟩ : ∃ S, S = L + 5 * H := ⟨_, rfl⟩
  have hS2 : S < 2 ^ 192 := by omega
  obtain ⟨t, ht⟩ : ∃ t, t = (if S < QQ then 1 else 0) := ⟨_, rfl⟩
  have ht1 : t ≤ 1 := by rw [ht]; split <;> omega
  refine Qf1 Tryz.func299 ?_
  refine Qs<|Qp<|(Qh 0) fun r1=>(Qh 1) fun r2=>(QH 2) fun r3=>Qn<|Qs<|Qp<|(Qd 0)<|(Qd 1) ?_
  refine e_call rfl (Un 303) (dwide_fn a b (by omega) (by omega)) rfl rfl ?_
  refine e_as (congrArg (fun z => Value.agg (arr .u64 5 (wd z))) hx.symm) ?_
  refine (QH 3) fun r4=>(Qt 3)<|Qn<|Qs<|Qp<|(Qj 2)<|(Q1 3)<|(Q8 2)<|(Qj 3)<|(Q1 3) ?_
  refine e_shl_u (s := 62) rfl rfl rfl (by omega) ?_
  refine e_or_u rfl rfl rfl  ?_
  refine e_as (congrArg u ((hi0 x).trans (by rw [← hH]))) ?_
  refine (Qj 3)<|(Q1 3)<|(Q8 2) ?_
  refine e_as (congrArg u ((hi1 hx2).trans (by rw [← hH]))) ?_
  refine e_build (arr .u64 2 (wd H)) (Ub 290 rfl) (Uu 290 rfl) (Uz 31 rfl) rfl rfl rfl ?_
  refine (QH 4) fun r5=>(Qt 4)<|Qn<|Qs<|Qp<|(Qj 0)<|(Q1 3) ?_
  refine e_as (congrArg u ((lo0 x).trans (by rw [← hL]))) ?_
  refine (Qj 1)<|(Q1 3) ?_
  refine e_as (congrArg u ((lo1 x).trans (by rw [← hL]))) ?_
  refine (Qj 2)<|(Q1 3)<|(Q9 3) ?_
  refine e_as (congrArg u ((lo2 x).trans (by rw [← hL]))) ?_
  refine e_build (arr .u64 3 (wd L)) (Ub 358 rfl) (Uu 358 rfl) (Uz 31 rfl) rfl rfl rfl ?_
  refine (QH 5) fun r6=>(Qt 5)<|Qn<|Qs<|Qp<|(Qa)<|Qn<|Qs<|Qs<|Qp<|(Qm)<|Qn<|Qb ?_
  refine QzK [(4, _), (6, _), (7, _)] [(0, _), (1, _), (2, _), (3, _), (4, _)] (fun kk E m => ∃ (k : Nat) (s : Nat → Nat), kk = 2 - k ∧ E = [(8, u (qS L H k / 2 ^ (64 * k))), (34, ii k)] ∧ m = [(5, some ⟨r6, arr .u64 3 s, 358⟩)] ∧ (k ≤ 2) ∧ (∀ t, t < k → s t = wd (qS L H k) t) ∧ (∀ t, k ≤ t → s t = wd L t)) ⟨0, wd L, rfl, rfl, rfl, by omega, fun t ht => absurd ht (Nat.not_lt_zero t), fun t _ => rfl⟩ ⟨by rw [qS_zero]; rfl, rfl, rfl, rfl, rfl, trivial⟩ ⟨rfl, rfl, rfl, rfl, rfl, rfl, trivial⟩ ?_
  rintro kk E m ⟨k, s, rfl, rfl, rfl, hf0_0, hf0_1, hf0_2⟩
  simp only [catE, catL]
  have hw1 := wd_lt H k
  have hw2 := wd_lt L k
  have hov := qS_lt L H k
  have hsk := hf0_2 k (Nat.le_refl k)
  refine Qs<|Qp<|(Ql)<|Qn<|Qs ?_
  refine e_cond rfl ?_ ?_
  · intro hc0
    have hc0 : k < 2 := by have := of_decide_eq_true hc0; omega
    refine Qk<|Qs<|Qb<|Qs<|Qp<|(Qm)<|(Qa)<|Qn<|(Qg)<|(Qm)<|(Qm)<|(Qi)<|(Q1 4)<|(Qm)<|(Qi)<|(Q1 5)<|(Qm) ?_
    refine e_call rfl (Un 304) (dstep_fn _ 5 _ _ (by omega) (by omega) (by omega) (by omega)) rfl rfl ?_
    refine (Qm)<|(Qx)<|(Qx)<|(Qi)<|(Qu 5)<|(Qa)<|Qn<|Qp<|(Q2 1)<|(Qm)<|Qn ?_
    refine QzL ⟨k + 1, upd s k _, rfl, rfl, rfl, by omega, qS_low (hf0_2 k (Nat.le_refl k)) hf0_1, upd_ge hf0_2⟩ ⟨by rw [← qS_hi, ← hsk]; rfl, rfl, rfl, rfl, rfl, trivial⟩ ⟨rfl, rfl, rfl, rfl, rfl, rfl, trivial⟩ ?_
    omega
  · intro hc0
    have hc0 := of_decide_eq_false hc0
    have hz0 : k = 2 := by omega
    subst hz0
    refine Qe<|Qs<|Qp<|(Qj 2)<|(Q1 5)<|(Qm) ?_
    refine e_add_u rfl rfl rfl  ?_
    refine e_as (congrArg u (Nat.mod_eq_of_lt (show s 2 + qS L H 2 / 2 ^ (64 * 2) < 18446744073709551616 by have := hf0_2 2 (Nat.le_refl 2); have h4 : wd L 2 < 4 := wd2_lt hL2; omega))) ?_
    refine (Qj 2)<|(Qu 5)<|Qn<|Qs<|(Qg)<|(Qd 5) ?_
    refine e_as (show _ = f3 S by rw [hS]; exact (f3_of (qS_end hL2 hH2 hf0_1 hf0_2)).symm) ?_
    refine e_call rfl (Un 302) dprime_fn rfl rfl ?_
    refine e_call rfl (Un 301) (dminus_fn _ _ (by omega) (by omega)) rfl rfl ?_
    refine (Qm)<|(Qx)<|(Qx) ?_
    refine e_as (congrArg u ht.symm) ?_
    refine (QH 6) fun r7=>(Qt 6)<|(Qa)<|Qn<|Qs<|(Qg)<|(Qd 6) ?_
    refine e_call rfl (Un 302) dprime_fn rfl rfl ?_
    refine (Qm) ?_
    refine e_call rfl (Un 305) (dtimes_fn _ _ (by omega)) rfl rfl ?_
    refine e_call rfl (Un 300) (dplus_fn _ _) rfl rfl ?_
    refine (Qt 2)<|Qn<|Qr ?_
    rw [ht, ← hx, f3_of (prod5_fin (S := S) hx2 (by rw [hS, hL, hH]))]
    exact ⟨_, rfl, .cell (i := 2) rfl rfl (Uu 358) rfl (Uz 358) (arr_size _ _ _)⟩
end Go.Proofs.YthljakcegoohlaaGreatDoor
namespace Go.Proofs.YthljakcegoohlaaGreatDoor
open Go Go.RowKit
variable {G : Mem}
set_option maxHeartbeats 2000000 in
theorem dtake_fn (r p : Nat → Nat) (A : Nat) (h : Nat → Nat) (n : Nat) (hr0 : r 0 < 18446744073709551616) (hr1 : r 1 < 18446744073709551616) (hR : k3 r < 2 ^ 124) (hA : A < 2 ^ 130) (hn : n ≤ 16) (hh : L8 16 h) (hz : ∀ j, n ≤ j → j < 16 → h j = 0) : Fn Tryz.prog G 294 #[PV r p (wd A) h n] (PV r p (wd (pst (k3 r) A ((List.range n).map h))) (fun _ => 0) ((0 : Nat) : Int)) := by
  obtain ⟨V, hV⟩ : ∃ V, V = vb h 16 := ⟨_, rfl⟩
  obtain ⟨B, hB⟩ : ∃ B, B = leN ((List.range n).map h ++ [1]) := ⟨_, rfl⟩
  have hB2 : B < 2 * 2 ^ 128 := by rw [hB]; exact bl_small (fun b hb => by obtain ⟨j, hj, rfl⟩ := List.mem_map.1 hb; exact hh j (by have := List.mem_range.1 hj; omega)) (by simp; exact hn)
  have hps : (A + B) * k3 r % QQ = pst (k3 r) A ((List.range n).map h) := by unfold pst; rw [← hB, Nat.mod_mul_mod]
  refine Qf1 Tryz.func294 ?_
  refine Qs<|Qp<|(Qh 0) fun r1=>(QH 1) fun r2=>Qn<|Qs<|Qp<|(Qf 7)<|(Qv 3 0) ?_
  refine e_call rfl (Un 295) (dpair_fn h hh) rfl rfl ?_
  refine e_as (congrArg f2 hV.symm) ?_
  refine (QH 2) fun r3=>(Qt 2)<|Qn<|Qs<|Qp<|(Qj 0)<|(Q1 2)<|(Qj 1)<|(Q1 2) ?_
  refine e_build (arr .u64 3 (upd (wd V) 2 0)) (Ub 358 rfl) (Uu 358 rfl) (Uz 31 rfl) rfl rfl rfl ?_
  refine (QH 3) fun r4=>(Qt 3)<|Qn<|Qs<|(Qg)<|(Qf 23)<|(QV 4 0)<|(Q5 8)<|(Qi)<|(Q1 3)<|(Qf 23)<|(QV 4 0)<|(Q4 8)<|(Q6 8) ?_
  refine e_shl_u (p := 1) rfl rfl rfl (by omega) ?_
  refine e_or_u rfl rfl rfl  ?_
  refine (Qi)<|(Qu 3)<|Qn<|Qs<|(Qg)<|(Qf 4)<|(Qv 2 0)<|(Qd 3) ?_
  refine e_as (show _ = f3 B from (f3_of (held_one hh hz hn hV hB)).symm) ?_
  refine e_call rfl (Un 300) (dplus_fn _ _) rfl rfl ?_
  refine (Qf 0)<|(Qv 0 0) ?_
  refine e_as (f2_of (wd_k3 hr0 hr1)).symm ?_
  refine e_call rfl (Un 299) (dproduct_fn (A + B) (k3 r) (by omega) hR) rfl rfl ?_
  refine e_as (congrArg f3 hps) ?_
  refine (Qf 4) ?_
  refine e_stC (i := 0) 2 (Uz 291) rfl rfl rfl rfl (by decide) (.inl rfl) ?_
  refine Qn<|Qs<|Qp ?_
  refine e_build0 (Ub 263 rfl) (Uu 263 rfl) sis5 rfl ?_
  refine (Qf 7) ?_
  refine e_stC (i := 0) 3 (Uz 263) rfl rfl rfl rfl (by decide) (.inl rfl) ?_
  refine (Qf 23) ?_
  refine e_stV (i := 0) 4 (Uz 3) rfl rfl rfl rfl rfl (by decide) (.inl rfl) ?_
  refine Qn<|Qs<|Qp<|(QD 0) ?_
  refine e_as (show _ = PV r p (wd (pst (k3 r) A ((List.range n).map h))) (fun _ => 0) ((0 : Nat) : Int) from rfl) ?_
  refine e_storeA (i := 1) (Uz 293) rfl rfl (arrv_size _ _) (cells_one ⟨fun _ => rfl, fun _ => rfl, fun _ => rfl, fun _ => rfl, fun _ => rfl, trivial⟩) rfl cells_sz (.inl rfl) ?_
  refine Qn<|Qr ?_
  exact ⟨_, rfl, .cell (i := 1) rfl rfl (Uu 293) rfl (Uz 293) (arrv_size _ _)⟩
set_option maxHeartbeats 2000000 in
theorem dpad_fn (r p : Nat → Nat) (A : Nat) (h : Nat → Nat) (n : Int) (hp0 : p 0 < 18446744073709551616) (hp1 : p 1 < 18446744073709551616) : Fn Tryz.prog G 297 #[PV r p (wd A) h n] (.agg (arr .u8 16 (tgn (k3 (wd A)) (k3 p)))) := by
  obtain ⟨X, hX⟩ : ∃ X, X = A + k3 p := ⟨_, rfl⟩
  have hE : ∀ s : Nat → Nat, (∀ j, j < 16 → s j = bt X j) → arr .u8 16 s = arr .u8 16 (tgn (k3 (wd A)) (k3 p)) := fun s h => arr_congr fun j hj => (h j hj).trans (by rw [hX]; exact bt_tgn A (k3 p) hj)
  refine Qf1 Tryz.func297 ?_
  refine Qs<|Qp<|(Qh 0) fun r1=>(QH 1) fun r2=>Qn<|Qs<|Qp<|(Qf 4)<|(Qv 2 0)<|(Qf 2)<|(QA 2 0)<|(QI 1 0 0)<|(Qf 2)<|(QA 3 1)<|(QI 1 1 0) ?_
  refine e_build (arr .u64 3 (upd p 2 0)) (Ub 358 rfl) (Uu 358 rfl) (Uz 31 rfl) rfl rfl rfl ?_
  refine e_as (show _ = f3 (k3 p) from (f3_of (k3_three hp0 hp1)).symm) ?_
  refine e_call rfl (Un 300) (dplus_fn _ _) rfl rfl ?_
  refine e_as (congrArg f3 hX.symm) ?_
  refine (QH 2) fun r3=>(Qt 2)<|Qn<|Qs<|Qp<|(QH 3) fun r4=>Qn<|Qs<|Qs<|Qp<|(Qm)<|Qn<|Qb ?_
  refine QzK [(2, _), (3, _), (4, _)] [(0, _), (1, _), (2, _)] (fun kk E m => ∃ (i : Nat) (s : Nat → Nat), kk = 16 - i ∧ E = [(16, ii i)] ∧ m = [(3, some ⟨r4, arr .u8 16 s, 263⟩)] ∧ (i ≤ 16) ∧ (∀ j, j < i → s j = bt X j)) ⟨0, fun _ => 0, rfl, rfl, rfl, by omega, fun j hj => absurd hj (Nat.not_lt_zero j)⟩ ⟨rfl, rfl, rfl, rfl, trivial⟩ ⟨rfl, rfl, rfl, rfl, trivial⟩ ?_
  rintro kk E m ⟨i, s, rfl, rfl, rfl, hf0_0, hf0_1⟩
  simp only [catE, catL]
  refine Qs<|Qp<|(Ql)<|Qn<|Qs ?_
  refine e_cond rfl ?_ ?_
  · intro hc0
    have hc0 : i < 16 := by have := of_decide_eq_true hc0; omega
    refine Qk<|Qs<|Qb<|Qs<|Qp<|(Qm)<|(Qa)<|Qn<|Qp<|(Qm)<|(Qm)<|(Q5 8)<|(Qi)<|(Q1 2)<|(Qm)<|(Q4 8)<|(Q6 8) ?_
    refine e_shr_u rfl rfl rfl (by omega) ?_
    refine e_conv_u8 (Uu 31) (Uu 5) rfl rfl rfl ?_
    refine (Qi)<|(Qu 3)<|Qn<|Qp<|(Q2 1)<|(Qm)<|Qn ?_
    refine QzL ⟨i + 1, upd s i _, rfl, rfl, rfl, by omega, upd_lt hf0_1 (bt_word X i)⟩ ⟨rfl, rfl, rfl, rfl, trivial⟩ ⟨rfl, rfl, rfl, rfl, trivial⟩ ?_
    omega
  · intro hc0
    have hc0 := of_decide_eq_false hc0
    have hz0 : i = 16 := by omega
    subst hz0
    refine Qe<|Qs<|Qp<|(Qd 3)<|(Qt 1)<|Qn<|Qr ?_
    rw [← hE _ hf0_1]
    exact ⟨_, rfl, .cell (i := 1) rfl rfl (Uu 263) rfl (Uz 263) (arr_size _ _ _)⟩
end Go.Proofs.YthljakcegoohlaaGreatDoor
