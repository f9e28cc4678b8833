import Derived.Orders
import Derived.Below
import Derived.Laws.Sem
import Derived.Laws.World
import Derived.Laws.CopyRow
import Derived.Laws.IdiomStrings
namespace Go.Proofs.YtlidhfijmcelpaaGreatDoor
open Go Go.RowKit
structure Blk where
 b : Nat
 c : Array Value
 t : TypeId
abbrev Mem := List Blk
def Thawed (q : Nat × Nat) (n : Nat) : Prop := q.1 = q.2 ∨ n ≤ q.1
theorem zgn (n : Nat) : Thawed (0, 0) n := .inl rfl
theorem Thawed.free {q : Nat × Nat} {n : Nat} (h : Thawed q n) {o : Nat} (ho : o < n) : (decide (q.1 ≤ o) && decide (o < q.2)) = false := by
 rcases h with h | h
 ·rw [Bool.and_eq_false_iff, decide_eq_false_iff_not, decide_eq_false_iff_not]; omega
 ·rw [Bool.and_eq_false_iff, decide_eq_false_iff_not]; exact .inl (by omega)
def In (w : World) (x : Blk) : Prop := ∃ q : Nat × Nat, w.heap[x.b]? = some (.cells x.c x.t q) ∧ Thawed q x.c.size
theorem In.of {w : World} {x : Blk} (h : w.heap[x.b]? = some (.cells x.c x.t)) : In w x := ⟨(0, 0), h, zgn _⟩
theorem In.same {w w' : World} {x : Blk} (h : In w x) (hb : w'.heap[x.b]? = w.heap[x.b]?) : In w' x := by
 obtain ⟨q, h1, h2⟩ := h
 exact ⟨q, hb.trans h1, h2⟩
def MemIn (m : Mem) (w : World) : Prop := ∀ x ∈ m, In w x
def RIn (w : World) (x : Blk) : Prop := x.b < w.heap.size ∧ ∀ o : Nat, o < x.c.size → w.cell? ⟨x.b, o, none⟩ = x.c[o]?
def MemR (m : Mem) (w : World) : Prop := ∀ x ∈ m, RIn w x
structure Keep (B : Nat) (L : List Nat) (w w' : World) : Prop where
 os : w'.os = w.os
 tape : w'.tape = w.tape
 output : w'.output = w.output
 size : w.heap.size ≤ w'.heap.size
 block : ∀ k, k < B → k ∉ L → w'.heap[k]? = w.heap[k]?
theorem Keep.refl (B : Nat) (L : List Nat) (w : World) : Keep B L w w := ⟨rfl, rfl, rfl, Nat.le_refl _, fun _ _ _ => rfl⟩
theorem Keep.of_below {B : Nat} {w w' : World} (h : Below B w w') (L : List Nat) : Keep B L w w' := ⟨h.os, h.tape, h.output, h.size, fun k hk _ => h.block k hk⟩
theorem Keep.below {B : Nat} {w w' : World} (h : Keep B [] w w') : Below B w w' := ⟨h.os, h.tape, h.output, h.size, fun k hk => h.block k hk (by simp)⟩
theorem Keep.trans {B : Nat} {L : List Nat} {a b c : World} (h : Keep B L a b) (k : Keep B L b c) : Keep B L a c :=
 ⟨k.os.trans h.os, k.tape.trans h.tape, k.output.trans h.output, Nat.le_trans h.size k.size, fun i hi hl => (k.block i hi hl).trans (h.block i hi hl)⟩
structure Holds (G : Mem) (B : Nat) (L : List Nat) (w0 : World) (m : Mem) (w : World) : Prop where
 below : Keep B L w0 w
 glob : MemR G w
 globB : ∀ x ∈ G, x.b < B ∧ x.b ∉ L
 mem : MemIn m w
 own : ∀ x ∈ m, B ≤ x.b ∨ x.b ∈ L
 ids : (m.map (·.b)).Nodup
structure Reg where
 X : List Nat
 c : Fin 7
 v : List TypeId
 L : Option (List Nat)
 Y : Option (Nat × Nat)
abbrev Vk : Reg := ⟨[], 1, [], none, none⟩
def X2 (o : Oper) : Option Nat := match o.op with
 | .store _ (.tmp t) _ => some t
 | _ => none
def yOk (R : Reg) (o : Oper) (b : Nat) : Prop := match R.Y with
 | none => True
 | some (t, r) => if X2 o = some t then b = r else b ≠ r
def zg7 (R : Reg) (x y : Oper) : Bool := match R.Y with
 | none => false
 | some (t, _) => (X2 x == some t) != (X2 y == some t)
theorem z16 {R : Reg} (h : R.Y = none) (o : Oper) (b : Nat) : yOk R o b := by unfold yOk; rw [h]; trivial
theorem zd5 {R : Reg} {x y : Oper} (h : zg7 R x y = true) {b c : Nat} (hx : yOk R x b) (hy : yOk R y c) : b ≠ c := by
 unfold zg7 at h
 unfold yOk at hx hy
 cases hY : R.Y with
 | none => rw [hY] at h; cases h
 | some q =>
  obtain ⟨t, r⟩ := q
  rw [hY] at h hx hy
  dsimp only at h hx hy
  by_cases h1 : X2 x = some t
  ·by_cases h2 : X2 y = some t
   ·rw [h1, h2] at h; simp at h
   ·rw [if_pos h1] at hx; rw [if_neg h2] at hy; exact fun e => hy (e ▸ hx)
  ·by_cases h2 : X2 y = some t
   ·rw [if_neg h1] at hx; rw [if_pos h2] at hy; exact fun e => hx (e.trans hy)
   ·have e1 : (X2 x == some t) = false := by simpa using h1
    have e2 : (X2 y == some t) = false := by simpa using h2
    rw [e1, e2] at h; simp at h
def inL : Option (List Nat) → Nat → Prop
 | none, _ => True
 | some l, b => b ∈ l
def z6u : Option (List Nat) → Nat → Prop
 | none, _ => True
 | some l, b => b ∉ l
theorem Yy {L : Option (List Nat)} (h : L = none) (b : Nat) : z6u L b := by rw [h]; trivial
theorem zhb {L : Option (List Nat)} (h : L = none) (b : Nat) : inL L b := by rw [h]; trivial
def isY (R : Reg) (o : Oper) : Bool := match R.Y with
 | none => false
 | some (t, _) => X2 o == some t
def hid (R : Reg) (o : Oper) (b : Nat) : Prop := match R.Y with
 | none => R.X = [] ∨ b ∈ R.X
 | some _ => isY R o = true ∨ ((R.X = [] ∨ b ∈ R.X) ∧ z6u R.L b)
def zfe (R : Reg) (y : Oper) : Bool := match R.Y with
 | none => !R.X.isEmpty
 | some _ => !isY R y && (!R.X.isEmpty || R.L.isSome)
theorem z0o {R : Reg} (hY : R.Y = none) {o : Oper} {b : Nat} (h : R.X = [] ∨ b ∈ R.X) : hid R o b := by unfold hid; rw [hY]; exact h
theorem zcV {R : Reg} {y : Oper} {b : Nat} (hl : zfe R y = true) (h : hid R y b) : ¬ (b ∉ R.X ∧ inL R.L b) := by
 have key : R.X.isEmpty = false → (R.X = [] ∨ b ∈ R.X) → b ∈ R.X := fun he g => g.resolve_left fun e => by rw [e] at he; cases he
 unfold zfe at hl
 unfold hid at h
 cases hY : R.Y with
 | none =>
  rw [hY] at hl h
  exact fun g => g.1 (key (by simpa using hl) h)
 | some q =>
  rw [hY] at hl h
  simp only [Bool.and_eq_true, Bool.not_eq_true', Bool.or_eq_true] at hl h
  rcases h with h | ⟨h1, h2⟩
  ·rw [hl.1] at h; cases h
  ·rintro ⟨g1, g2⟩
   rcases hl.2 with e | e
   ·exact g1 (key e h1)
   ·cases hL : R.L with
    | none => rw [hL] at e; cases e
    | some l => rw [hL] at h2 g2; exact h2 g2
def FreshM (m nw : Mem) : Prop := (nw.map (·.b)).Nodup ∧ ∀ x ∈ nw, ∀ y ∈ m, y.b ≠ x.b
structure Post (l0 l1 nw : Mem) (w w' : World) : Prop where
 keep : Keep w.heap.size (l0.map (·.b)) w w'
 mem : MemIn l1 w'
 new : MemIn nw w'
 nodup : (nw.map (·.b)).Nodup
 above : ∀ x ∈ nw, w.heap.size ≤ x.b
def wM (w : World) (x : Blk) : World := w.setRow x.b x.c
def Yl (P : Program) (o : Oper) (a : Act) (w : World) (v : Value) : Prop :=
 (execOp a.eval o).run P w = .ok (.value v) w ∨
 ∃ f args, (execOp a.eval o).run P w = .ok (.enter f args) w ∧ Calls P f args w (fun e w' => e = .returned v ∧ Below w.heap.size w w')
def Ye (P : Program) (o : Oper) (a : Act) (w : World) (l0 : Mem) (S : Value → Mem → Mem → Prop) : Prop :=
 (∃ v l1 nw w', (execOp a.eval o).run P w = .ok (.value v) w' ∧ S v l1 nw ∧ Post l0 l1 nw w w') ∨
 ∃ f args, (execOp a.eval o).run P w = .ok (.enter f args) w ∧ Calls P f args w (fun e w' => ∃ v l1 nw, e = .returned v ∧ S v l1 nw ∧ Post l0 l1 nw w w')
def xv (R : Reg) (S T : TypeId) : Fin 7 := bif R.v.contains T then (bif Nat.beq S T then 5 else 6) else 1
def Y9 (R : Reg) (d : Option Tmp) : Bool := match d with
 | some t => R.v.contains (1000000 + t)
 | none => false
def cls (R : Reg) (o : Oper) : Fin 7 :=
 match o.op with
 | .load .. => 1
 | .convert S T _ => xv R S T
 | .call c => match c.callee with
  | .builtin .copy | .builtin .append => 5
  | .builtin .len | .builtin .cap | .builtin .min | .builtin .max => 0
  | _ => bif Y9 R o.dst then 1 else R.c
 | .alloc .. | .box .. | .buildSlice .. | .makeSlice .. => 2
 | .store .. => 3
 | _ => 0
def ptr (r : Nat) : Value := .pointer (some ⟨r, 0, none⟩)
def vis (R : Reg) (m : Mem) (w : World) : Prop := ∀ z ∈ m, z.b ∉ R.X ∧ inL R.L z.b → In w z
def Yk (P : Program) (o : Oper) (a : Act) (v : Value) (z : Blk) : Prop := ∃ w w', (execOp a.eval o).run P w = .ok (.value v) w' ∧ z.b = w.heap.size ∧ Post [] [] [z] w w'
def Z3 (P : Program) (G : Mem) (R : Reg) (o : Oper) (K : Act → Mem → Prop) (a : Act) (m : Mem) : Fin 7 → Prop
 | 0 => ∃ v, (∀ w, (execOp a.eval o).run P w = .ok (.value v) w) ∧ K (a.put o.dst v) m
 | 1 => ∃ v, (∀ w, MemR G w → vis R m w → Yl P o a w v) ∧ K (a.put o.dst v) m
 | 2 => ∃ c t, ∃ g : Nat → Value, (∀ w, (execOp a.eval o).run P w = .ok (.value (g w.heap.size)) (w.alloc (.cells c t))) ∧
   ∀ r, (∀ x ∈ m, x.b ≠ r) → K (a.put o.dst (g r)) (m ++ [⟨r, c, t⟩])
 | 3 => ∃ l1 x l2 c', m = l1 ++ x :: l2 ∧ ((hid R o x.b ∧ yOk R o x.b) ∧ c'.size = x.c.size) ∧ (∀ w, In w x → (execOp a.eval o).run P w = .ok .skip (wM w ⟨x.b, c', x.t⟩)) ∧
   K (a.put o.dst undef) (l1 ++ ⟨x.b, c', x.t⟩ :: l2)
 | 4 => ∃ S : Value → Mem → Prop, (∀ m' : Mem, ∃ v nw, S v nw ∧ FreshM m' nw) ∧ (∀ w, MemR G w → vis R m w → Ye P o a w [] (fun v l1 nw => l1 = [] ∧ S v nw)) ∧ ∀ v nw, S v nw → FreshM m nw → K (a.put o.dst v) (m ++ nw)
 | 5 => ∃ l0 lr, ∃ S : Value → Mem → Mem → Prop, List.Perm m (l0 ++ lr) ∧ (∀ m' : Mem, ∃ v l1 nw, S v l1 nw ∧ FreshM m' nw) ∧ ((∀ v l1 nw, S v l1 nw → l1.map (·.b) = l0.map (·.b)) ∧ ∀ x ∈ l0, z6u R.L x.b) ∧
   (∀ w, MemR G w → MemIn m w → (∀ x ∈ G, ∀ y ∈ m, x.b ≠ y.b) → Ye P o a w l0 S) ∧ ∀ v l1 nw, S v l1 nw → FreshM m nw → K (a.put o.dst v) (l1 ++ lr ++ nw)
 | 6 => (∀ w, ∃ v z w', (execOp a.eval o).run P w = .ok (.value v) w' ∧ z.b = w.heap.size ∧ Post [] [] [z] w w') ∧ ∀ v z, Yk P o a v z → (∀ x ∈ m, x.b ≠ z.b) → K (a.put o.dst v) (m ++ [z])
def opM (P : Program) (G : Mem) (R : Reg) (ops : Array Oper) (o : Oper) (K : Act → Mem → Prop) (a : Act) (m : Mem) : Prop :=
 (Region.wanted o (yielded ops a.tmps) = false ∧ K (a.put o.dst undef) m) ∨
 (Region.wanted o (yielded ops a.tmps) = true ∧ Z3 P G R o K a m (cls R o))
def z8 (P : Program) (G : Mem) (R : Reg) (ops : Array Oper) (K : Act → Mem → Prop) : List Oper → Act → Mem → Prop
 | [], a, m => K a m
 | o :: rest, a, m => opM P G R ops o (z8 P G R ops K rest) a m
section
variable {P : Program} {G : Mem} {R : Reg} {ops : Array Oper}
theorem z78 {o : Oper} {K K' : Act → Mem → Prop} (h : ∀ a m, K a m → K' a m) {a : Act} {m : Mem} {k : Fin 7} (hh : Z3 P G R o K a m k) : Z3 P G R o K' a m k := by
 match k with
 | 0 => obtain ⟨v, h1, h2⟩ := hh; exact ⟨v, h1, h _ _ h2⟩
 | 1 => obtain ⟨v, h1, h2⟩ := hh; exact ⟨v, h1, h _ _ h2⟩
 | 2 => obtain ⟨c, t, g, h1, h2⟩ := hh; exact ⟨c, t, g, h1, fun r hr => h _ _ (h2 r hr)⟩
 | 3 => obtain ⟨l1, x, l2, c', h0, hX, h1, h2⟩ := hh; exact ⟨l1, x, l2, c', h0, hX, h1, h _ _ h2⟩
 | 4 => obtain ⟨S, h0, h1, h2⟩ := hh; exact ⟨S, h0, h1, fun v nw hs hr => h _ _ (h2 v nw hs hr)⟩
 | 5 => obtain ⟨l0, lr, S, h0, h3, h4, h1, h2⟩ := hh; exact ⟨l0, lr, S, h0, h3, h4, h1, fun v l1 nw hs hr => h _ _ (h2 v l1 nw hs hr)⟩
 | 6 => obtain ⟨h1, h2⟩ := hh; exact ⟨h1, fun v z ho hr => h _ _ (h2 v z ho hr)⟩
theorem z1n {o : Oper} {K K' : Act → Mem → Prop} (h : ∀ a m, K a m → K' a m) {a : Act} {m : Mem} (hh : opM P G R ops o K a m) : opM P G R ops o K' a m :=
 hh.imp (fun ⟨x, y⟩ => ⟨x, h _ _ y⟩) (fun ⟨x, y⟩ => ⟨x, z78 h y⟩)
theorem WS {K K' : Act → Mem → Prop} (h : ∀ a m, K a m → K' a m) : ∀ (l : List Oper) {a : Act} {m : Mem}, z8 P G R ops K l a m → z8 P G R ops K' l a m
 | [], _, _, hh => h _ _ hh
 | _ :: l, _, _, hh => z1n (fun _ _ => WS h l) hh
theorem In.frozen {w : World} {x : Blk} (h : In w x) {o : Nat} (ho : o < x.c.size) : w.frozen? ⟨x.b, o, none⟩ = false := by
 obtain ⟨q, h1, h2⟩ := h
 simp only [World.frozen?, h1]
 exact h2.free ho
theorem In.cell {w : World} {x : Blk} (h : In w x) (o : Nat) : w.cell? ⟨x.b, o, none⟩ = x.c[o]? := by
 obtain ⟨q, h1, _⟩ := h
 simp [World.cell?, h1]
theorem In.lt {w : World} {x : Blk} (h : In w x) : x.b < w.heap.size := by
 obtain ⟨q, h1, _⟩ := h
 exact (Array.getElem?_eq_some_iff.1 h1).1
theorem In.set {w : World} {b : Nat} {c c' : Array Value} {t : TypeId} (h : In w ⟨b, c, t⟩) (hs : c'.size = c.size) : In (w.setRow b c') ⟨b, c', t⟩ := by
 obtain ⟨q, h1, h2⟩ := h
 exact ⟨q, setRow_heap w b c c' t q h1, by rw [show (⟨b, c', t⟩ : Blk).c.size = c.size from hs]; exact h2⟩
theorem Holds.drawn {B : Nat} {L : List Nat} {w0 w : World} {m : Mem} (h : Holds G B L w0 m w) : Holds G B L w0 m { w with drawn := w.drawn + 1 } :=
 ⟨⟨h.below.os, h.below.tape, h.below.output, h.below.size, h.below.block⟩, h.glob, h.globB, h.mem, h.own, h.ids⟩
theorem Holds.lt {B : Nat} {L : List Nat} {w0 w : World} {m : Mem} (h : Holds G B L w0 m w) {x : Blk} (hx : x ∈ m) : x.b < w.heap.size := (h.mem x hx).lt
theorem Holds.apart {B : Nat} {L : List Nat} {w0 w : World} {m : Mem} (h : Holds G B L w0 m w) : ∀ x ∈ G, ∀ y ∈ m, x.b ≠ y.b := fun x hx y hy e => by
 have h1 := h.globB x hx
 rcases h.own y hy with h2 | h2
 ·omega
 ·exact h1.2 (e ▸ h2)
theorem Holds.bB {B : Nat} {L : List Nat} {w0 w : World} {m : Mem} (h : Holds G B L w0 m w) (hB : B ≤ w0.heap.size) : B ≤ w.heap.size := Nat.le_trans hB h.below.size
theorem In.read {w : World} {x : Blk} (h : In w x) : RIn w x := ⟨h.lt, fun o _ => h.cell o⟩
theorem RIn.of_block {w w' : World} {x : Blk} (h : RIn w x) (hs : w.heap.size ≤ w'.heap.size) (hb : w'.heap[x.b]? = w.heap[x.b]?) : RIn w' x :=
 ⟨Nat.lt_of_lt_of_le h.1 hs, fun o ho => by rw [← h.2 o ho]; exact World.cell?_of_block (w := w) hb⟩
theorem MemR.later {m : Mem} {w w' : World} (h : MemR m w) (hb : Below w.heap.size w w') : MemR m w' := fun x hx => (h x hx).of_block hb.size (hb.block x.b (h x hx).1)
theorem MemIn.later {m : Mem} {w w' : World} (h : MemIn m w) (hb : Below w.heap.size w w') : MemIn m w' := fun x hx => by
 have := h x hx
 exact this.same (hb.block x.b this.lt)
theorem Holds.eff {B : Nat} {L : List Nat} {w0 w w' : World} {m l0 l1 lr nw : Mem} (h : Holds G B L w0 m w) (hB : B ≤ w0.heap.size) (hp : List.Perm m (l0 ++ lr)) (hi : l1.map (·.b) = l0.map (·.b))
  (hq : Post l0 l1 nw w w') : FreshM m nw ∧ Holds G B L w0 (l1 ++ lr ++ nw) w' := by
 have hBw := h.bB hB
 have fr : ∀ y ∈ nw, ∀ x ∈ m, x.b ≠ y.b := fun y hy x hx e => by have := h.lt hx; have := hq.above y hy; omega
 have own0 : ∀ x ∈ l0, B ≤ x.b ∨ x.b ∈ L := fun x hx => h.own x (hp.mem_iff.2 (by simp [hx]))
 have ownr : ∀ x ∈ lr, B ≤ x.b ∨ x.b ∈ L := fun x hx => h.own x (hp.mem_iff.2 (by simp [hx]))
 have keepB : ∀ k, k < B → k ∉ L → w'.heap[k]? = w.heap[k]? := fun k hk hl => hq.keep.block k (by omega) (fun hm => by
  obtain ⟨x, hx, rfl⟩ := List.mem_map.1 hm
  rcases own0 x hx with h1 | h1
  ·omega
  ·exact hl h1)
 have nd : ((l0 ++ lr).map (·.b)).Nodup := ((hp.map (·.b)).nodup_iff).1 h.ids
 rw [List.map_append, List.nodup_append] at nd
 obtain ⟨n1, n2, n3⟩ := nd
 refine ⟨⟨hq.nodup, fr⟩, ⟨h.below.trans ⟨hq.keep.os, hq.keep.tape, hq.keep.output, hq.keep.size, keepB⟩, fun y hy => (h.glob y hy).of_block hq.keep.size (keepB y.b (h.globB y hy).1 (h.globB y hy).2), h.globB, fun y hy => ?_, fun y hy => ?_, ?_⟩⟩
 ·rcases List.mem_append.1 hy with hy | hy
  ·rcases List.mem_append.1 hy with hy | hy
   ·exact hq.mem y hy
   ·have hin := h.mem y (hp.mem_iff.2 (by simp [hy]))
    exact hin.same (hq.keep.block y.b hin.lt (fun hm => n3 y.b hm y.b (List.mem_map.2 ⟨y, hy, rfl⟩) rfl))
  ·exact hq.new y hy
 ·rcases List.mem_append.1 hy with hy | hy
  ·rcases List.mem_append.1 hy with hy | hy
   ·have : y.b ∈ l0.map (·.b) := by rw [← hi]; exact List.mem_map.2 ⟨y, hy, rfl⟩
    obtain ⟨x, hx, e⟩ := List.mem_map.1 this
    rw [← e]; exact own0 x hx
   ·exact ownr y hy
  ·have := hq.above _ hy; exact .inl (by omega)
 ·rw [List.map_append, List.map_append, hi, List.nodup_append, List.nodup_append]
  refine ⟨⟨n1, n2, n3⟩, hq.nodup, fun a ha b hb e => ?_⟩
  subst e
  have hm : a ∈ m.map (·.b) := ((hp.map (·.b)).mem_iff).2 (by rw [List.map_append]; exact ha)
  obtain ⟨x, hx, e⟩ := List.mem_map.1 hm
  obtain ⟨y, hy, e'⟩ := List.mem_map.1 hb
  exact fr y hy x hx (e.trans e'.symm)
theorem Post.of_below {w w' : World} (hb : Below w.heap.size w w') : Post [] [] [] w w' :=
 ⟨Keep.of_below hb _, by simp [MemIn], by simp [MemIn], by simp, by simp⟩
theorem Holds.later {B : Nat} {L : List Nat} {w0 w w' : World} {m : Mem} (h : Holds G B L w0 m w) (hB : B ≤ w0.heap.size) (hb : Below w.heap.size w w') : Holds G B L w0 m w' := by
 have := (h.eff (l0 := []) (l1 := []) (lr := m) hB (List.Perm.refl _) rfl (Post.of_below hb)).2
 simpa using this
theorem Post.alloc (w : World) (c : Array Value) (t : TypeId) : Post [] [] [⟨w.heap.size, c, t⟩] w (w.alloc (.cells c t)) :=
 ⟨Keep.of_below ((Below.refl _ _).alloc (Nat.le_refl _) _) _, by simp [MemIn], fun x hx => by
  simp at hx; subst hx
  refine In.of ?_
  show (w.heap.push _)[w.heap.size]? = _
  simp, by simp, by simp⟩
theorem Holds.alloc {B : Nat} {L : List Nat} {w0 w : World} {m : Mem} (h : Holds G B L w0 m w) (hB : B ≤ w0.heap.size) (c : Array Value) (t : TypeId) :
  (∀ x ∈ m, x.b ≠ w.heap.size) ∧ Holds G B L w0 (m ++ [⟨w.heap.size, c, t⟩]) (w.alloc (.cells c t)) := by
 have := h.eff (l0 := []) (l1 := []) (lr := m) hB (List.Perm.refl _) rfl (Post.alloc w c t)
 exact ⟨fun x hx => this.1.2 ⟨w.heap.size, c, t⟩ (by simp) x hx, by simpa using this.2⟩
theorem Holds.store {B : Nat} {L : List Nat} {w0 w : World} {l1 l2 : Mem} {x : Blk} (h : Holds G B L w0 (l1 ++ x :: l2) w) (c' : Array Value) (hsz : c'.size = x.c.size) :
  Holds G B L w0 (l1 ++ ⟨x.b, c', x.t⟩ :: l2) (wM w ⟨x.b, c', x.t⟩) := by
 have hx : x ∈ l1 ++ x :: l2 := by simp
 have hlt := h.lt hx
 have hB := h.own x hx
 have keep : ∀ y : Blk, y.b ≠ x.b → In w y → In (wM w ⟨x.b, c', x.t⟩) y := fun y hy hi => by
  exact hi.same (setRow_other w x.b y.b c' hy)
 have hn := h.ids
 rw [List.map_append, List.map_cons, List.nodup_append] at hn
 obtain ⟨n1, n2, n3⟩ := hn
 rw [List.nodup_cons] at n2
 have off : ∀ k, k < B → k ∉ L → (wM w ⟨x.b, c', x.t⟩).heap[k]? = w.heap[k]? := fun k hk hl => by
  exact setRow_other w x.b k c' (fun e => by
   rcases hB with h1 | h1
   ·omega
   ·exact hl (e ▸ h1))
 refine ⟨h.below.trans ⟨rfl, rfl, rfl, by simp [wM, World.setRow], off⟩, fun y hy => (h.glob y hy).of_block (by simp [wM, World.setRow]) (off y.b (h.globB y hy).1 (h.globB y hy).2), h.globB, fun y hy => ?_, fun y hy => ?_, ?_⟩
 ·rcases List.mem_append.1 hy with hy | hy
  ·refine keep y (fun e => ?_) (h.mem y (by simp [hy]))
   exact n3 y.b (List.mem_map.2 ⟨y, hy, rfl⟩) x.b (by simp) e
  ·rcases List.mem_cons.1 hy with hy | hy
   ·subst hy
    exact In.set (c := x.c) (h.mem x hx) hsz
   ·refine keep y (fun e => ?_) (h.mem y (by simp [hy]))
    exact n2.1 (e ▸ List.mem_map.2 ⟨y, hy, rfl⟩)
 ·rcases List.mem_append.1 hy with hy | hy
  ·exact h.own y (by simp [hy])
  ·rcases List.mem_cons.1 hy with hy | hy
   ·subst hy; exact hB
   ·exact h.own y (by simp [hy])
 ·have := h.ids; simpa using this
theorem z1P {Q : Exit → Act → World → Prop} {B : Nat} {L : List Nat} {w0 : World} (hB : B ≤ w0.heap.size) {i : Nat} {o : Oper} (hi : ops[i]? = some o) {K : Act → Mem → Prop} {a : Act} {m : Mem} {w : World}
  (h : opM P G R ops o K a m) (hw : Holds G B L w0 m w) : wpOp P ops Q i (fun a' w' => ∃ m', K a' m' ∧ Holds G B L w0 m' w') a w := by
 unfold wpOp
 simp only [hi]
 rcases h with ⟨hg, h⟩ | ⟨hg, h⟩
 ·rw [hg]; exact ⟨m, h, hw⟩
 ·rw [hg]
  simp only [if_true]
  refine .inl ?_
  unfold Oper.wp
  generalize cls R o = k at h
  match k with
  | 0 => obtain ⟨v, h1, h2⟩ := h; rw [h1 w]; exact ⟨m, h2, hw⟩
  | 1 =>
   obtain ⟨v, h1, h2⟩ := h
   rcases h1 w hw.glob (fun z hz _ => hw.mem z hz) with h1 | ⟨f, args, h1, hc⟩
   ·rw [h1]; exact ⟨m, h2, hw⟩
   ·rw [h1]
    simp only [Oper.upon]
    refine hc.mono ?_
    rintro e w' ⟨rfl, hb⟩
    exact ⟨m, h2, hw.later hB hb⟩
  | 2 =>
   obtain ⟨c, t, g, h1, h2⟩ := h
   rw [h1 w]
   obtain ⟨n1, n2⟩ := hw.alloc hB c t
   exact ⟨_, h2 _ n1, n2⟩
  | 3 =>
   obtain ⟨l1, x, l2, c', rfl, hX, h1, h2⟩ := h
   rw [h1 w (hw.mem x (by simp))]
   exact ⟨_, h2, hw.store c' hX.2⟩
  | 4 =>
   obtain ⟨S, _, h1, h2⟩ := h
   rcases h1 w hw.glob (fun z hz _ => hw.mem z hz) with ⟨v, l1, nw, w', h1, ⟨rfl, hs⟩, hq⟩ | ⟨f, args, h1, hc⟩
   ·rw [h1]
    obtain ⟨q1, q2⟩ := hw.eff (lr := m) hB (List.Perm.refl _) rfl hq
    exact ⟨_, h2 v nw hs q1, by simpa using q2⟩
   ·rw [h1]
    simp only [Oper.upon]
    refine hc.mono ?_
    rintro e w' ⟨v, l1, nw, rfl, ⟨rfl, hs⟩, hq⟩
    obtain ⟨q1, q2⟩ := hw.eff (lr := m) hB (List.Perm.refl _) rfl hq
    exact ⟨_, h2 v nw hs q1, by simpa using q2⟩
  | 5 =>
   obtain ⟨l0, lr, S, hp, _, hi', h1, h2⟩ := h
   rcases h1 w hw.glob hw.mem hw.apart with ⟨v, l1, nw, w', h1, hs, hq⟩ | ⟨f, args, h1, hc⟩
   ·rw [h1]
    obtain ⟨q1, q2⟩ := hw.eff hB hp (hi'.1 v l1 nw hs) hq
    exact ⟨_, h2 v l1 nw hs q1, q2⟩
   ·rw [h1]
    simp only [Oper.upon]
    refine hc.mono ?_
    rintro e w' ⟨v, l1, nw, rfl, hs, hq⟩
    obtain ⟨q1, q2⟩ := hw.eff hB hp (hi'.1 v l1 nw hs) hq
    exact ⟨_, h2 v l1 nw hs q1, q2⟩
  | 6 =>
   obtain ⟨h1, h2⟩ := h
   obtain ⟨v, z, w', e1, e2, hq⟩ := h1 w
   rw [e1]
   obtain ⟨q1, q2⟩ := hw.eff (lr := m) hB (List.Perm.refl _) rfl hq
   exact ⟨_, h2 v z ⟨w, w', e1, e2, hq⟩ (fun x hx => q1.2 z (by simp) x hx), by simpa using q2⟩
def z6P (o : Oper) : Bool :=
 match o.op with
 | .select .. => false
 | _ => true
theorem zas {o : Oper} (h : z6P o = true) : ∀ cs b, o.op ≠ .select cs b := fun cs b e => by simp [z6P, e] at h
def zf5 (R : Reg) (ops : Array Oper) (x y : Oper) : Bool :=
 z6P x && z6P y && x.apart ops y && (cls R x == 0 || cls R y == 0 || (cls R x == 1 && (cls R y == 1 || cls R y == 2 || cls R y == 4 || cls R y == 6 || (cls R y == 3 && zfe R y) || (cls R y == 5 && R.L.isSome))) || (cls R x == 2 && cls R y == 2) || (cls R x == 6 && cls R y == 6) || (cls R x == 4 && cls R y == 2) || (cls R x == 5 && cls R y == 2) || (cls R x == 6 && cls R y == 2) || (cls R x == 3 && cls R y == 3 && zg7 R x y) || (cls R x == 3 && cls R y == 6))
theorem zQ {o : Oper} (hs : z6P o = true) (a : Act) (d : Option Tmp) (v : Value) (h : ∀ e, d = some e → e ∉ o.looksAt ops) :
  execOp (a.put d v).eval o = execOp a.eval o := execOp_put (ops := ops) o (zas hs) a d v h
theorem z9E {o : Oper} (hs : z6P o = true) {K : Act → Mem → Prop} {a : Act} {m : Mem} {d : Option Tmp} {v : Value} {k : Fin 7} (h : ∀ e, d = some e → e ∉ o.looksAt ops)
  (hne : ∀ e, d = some e → o.dst ≠ some e) (hh : Z3 P G R o K (a.put d v) m k) : Z3 P G R o (fun a m => K (a.put d v) m) a m k := by
 have hcomm : ∀ u, (a.put d v).put o.dst u = (a.put o.dst u).put d v := fun u => Act.put_comm a v u hne
 match k with
 | 0 => obtain ⟨u, h1, h2⟩ := hh; rw [zQ (ops := ops) hs a d v h] at h1; rw [hcomm] at h2; exact ⟨u, h1, h2⟩
 | 1 =>
  obtain ⟨u, h1, h2⟩ := hh
  rw [hcomm] at h2
  refine ⟨u, fun w hw1 hw2 => ?_, h2⟩
  have := h1 w hw1 hw2
  unfold Yl at *
  rw [zQ (ops := ops) hs a d v h] at this
  exact this
 | 2 => obtain ⟨c, t, g, h1, h2⟩ := hh; rw [zQ (ops := ops) hs a d v h] at h1; exact ⟨c, t, g, h1, fun r hr => by have := h2 r hr; rw [hcomm] at this; exact this⟩
 | 3 => obtain ⟨l1, x, l2, c', h0, hX, h1, h2⟩ := hh; rw [zQ (ops := ops) hs a d v h] at h1; rw [hcomm] at h2; exact ⟨l1, x, l2, c', h0, hX, h1, h2⟩
 | 4 =>
  obtain ⟨S, h0, h1, h2⟩ := hh
  refine ⟨S, h0, fun w hw1 hw2 => ?_, fun v' nw hs hr => by have := h2 v' nw hs hr; rw [hcomm] at this; exact this⟩
  have := h1 w hw1 hw2
  unfold Ye at *
  rw [zQ (ops := ops) hs a d v h] at this
  exact this
 | 5 =>
  obtain ⟨l0, lr, S, h0, h3, h4, h1, h2⟩ := hh
  refine ⟨l0, lr, S, h0, h3, h4, fun w hw1 hw2 hw3 => ?_, fun v' l1 nw hs hr => by have := h2 v' l1 nw hs hr; rw [hcomm] at this; exact this⟩
  have := h1 w hw1 hw2 hw3
  unfold Ye at *
  rw [zQ (ops := ops) hs a d v h] at this
  exact this
 | 6 =>
  obtain ⟨h1, h2⟩ := hh
  have he := zQ (ops := ops) hs a d v h
  refine ⟨fun w => by have := h1 w; rw [he] at this; exact this, fun v' z ho hr => ?_⟩
  have := h2 v' z (by unfold Yk at *; rw [he]; exact ho) hr
  rw [hcomm] at this; exact this
theorem z8Y {o : Oper} (hs : z6P o = true) {K : Act → Mem → Prop} {a : Act} {m : Mem} {d : Option Tmp} {v : Value} (h : ∀ e, d = some e → e ∉ o.looksAt ops)
  (hne : ∀ e, d = some e → o.dst ≠ some e) (hh : opM P G R ops o K (a.put d v) m) : opM P G R ops o (fun a m => K (a.put d v) m) a m := by
 unfold opM at *
 rw [wanted_put o a d v h] at hh
 rcases hh with ⟨h1, h2⟩ | ⟨h1, h2⟩
 ·rw [Act.put_comm a v _ hne] at h2; exact .inl ⟨h1, h2⟩
 ·exact .inr ⟨h1, z9E (ops := ops) hs h hne h2⟩
theorem z8S {x : Oper} (hx : cls R x = 0) {K : Act → Mem → Prop} {a : Act} {m : Mem} : opM P G R ops x K a m ↔ ∃ v, Yields P ops x v a ∧ K (a.put x.dst v) m := by
 unfold opM Yields
 rw [hx]
 constructor
 ·rintro (⟨h1, h2⟩ | ⟨h1, v, h2, h3⟩)
  ·exact ⟨undef, .inr ⟨h1, rfl⟩, h2⟩
  ·exact ⟨v, .inl ⟨h1, h2⟩, h3⟩
 ·rintro ⟨v, (⟨h1, h2⟩ | ⟨h1, rfl⟩), h3⟩
  ·exact .inr ⟨h1, v, h2, h3⟩
  ·exact .inl ⟨h1, h3⟩
theorem vP (m : Mem) : ∃ r, ∀ x ∈ m, x.b ≠ r := by
 have : ∃ r, ∀ x ∈ m, x.b < r := by
  induction m with
  | nil => exact ⟨0, by simp⟩
  | cons y m ih =>
   obtain ⟨r, hr⟩ := ih
   refine ⟨r + y.b + 1, fun x hx => ?_⟩
   rcases List.mem_cons.1 hx with rfl | hx
   ·omega
   ·have := hr x hx; omega
 obtain ⟨r, hr⟩ := this
 exact ⟨r, fun x hx e => by have := hr x hx; omega⟩
theorem FreshM.perm {m m' nw : Mem} (hp : List.Perm m m') (h : FreshM m nw) : FreshM m' nw := ⟨h.1, fun r hr x hx => h.2 r hr x (hp.mem_iff.2 hx)⟩
theorem Y1 {o : Oper} {v u : Value} {a : Act} (h : Yields P ops o v a) (h' : Yields P ops o u a) : v = u := by
 rcases h with ⟨h1, h2⟩ | ⟨h1, rfl⟩ <;> rcases h' with ⟨h3, h4⟩ | ⟨h3, rfl⟩
 ·have := (h2 default).symm.trans (h4 default); injection this with e _; injection e
 ·rw [h1] at h3; cases h3
 ·rw [h1] at h3; cases h3
 ·rfl
def Pcl (K : Act → Mem → Prop) : Prop := ∀ a m m', List.Perm m m' → K a m → K a m'
theorem z0d {m m' : Mem} (hp : List.Perm m m') {w : World} (h : MemIn m w) : MemIn m' w := fun x hx => h x (hp.mem_iff.2 hx)
theorem z4i {m m' : Mem} (hp : List.Perm m m') {w : World} (h : vis R m w) : vis R m' w := fun x hx => h x (hp.mem_iff.2 hx)
theorem ziI {o : Oper} {K : Act → Mem → Prop} (hK : Pcl K) : Pcl (opM P G R ops o K) := by
 intro a m m' hp h
 rcases h with ⟨h1, h2⟩ | ⟨h1, h2⟩
 ·exact .inl ⟨h1, hK _ _ _ hp h2⟩
 ·refine .inr ⟨h1, ?_⟩
  generalize cls R o = k at h2
  match k with
  | 0 => obtain ⟨v, q1, q2⟩ := h2; exact ⟨v, q1, hK _ _ _ hp q2⟩
  | 1 => obtain ⟨v, q1, q2⟩ := h2; exact ⟨v, fun w hw1 hw2 => q1 w hw1 (z4i hp.symm hw2), hK _ _ _ hp q2⟩
  | 2 => obtain ⟨c, t, g, q1, q2⟩ := h2; exact ⟨c, t, g, q1, fun r hr => hK _ _ _ (hp.append_right _) (q2 r (fun x hx => hr x (hp.mem_iff.1 hx)))⟩
  | 4 =>
   obtain ⟨S, q0, q1, q2⟩ := h2
   exact ⟨S, q0, fun w hw1 hw2 => q1 w hw1 (z4i hp.symm hw2), fun v nw hs hr => hK _ _ _ (hp.append_right _) (q2 v nw hs (hr.perm hp.symm))⟩
  | 5 =>
   obtain ⟨l0, lr, S, q0, q3, q5, q1, q2⟩ := h2
   exact ⟨l0, lr, S, hp.symm.trans q0, q3, q5, fun w hw1 hw2 hw3 => q1 w hw1 (z0d hp.symm hw2) (fun x hx y hy => hw3 x hx y (hp.mem_iff.1 hy)), fun v l1 nw hs hr => q2 v l1 nw hs (hr.perm hp.symm)⟩
  | 6 => obtain ⟨q1, q2⟩ := h2; exact ⟨q1, fun v z ho hr => hK _ _ _ (hp.append_right _) (q2 v z ho (fun x hx => hr x (hp.mem_iff.1 hx)))⟩
  | 3 =>
   obtain ⟨l1, x, l2, c', rfl, hX, q1, q2⟩ := h2
   have hx : x ∈ m' := hp.mem_iff.1 (by simp)
   obtain ⟨k1, k2, rfl⟩ := List.append_of_mem hx
   have hq : List.Perm (l1 ++ l2) (k1 ++ k2) := by
    have h1 : List.Perm (x :: (l1 ++ l2)) (x :: (k1 ++ k2)) := (List.perm_middle.symm.trans hp).trans List.perm_middle
    exact h1.cons_inv
   refine ⟨k1, x, k2, c', rfl, hX, q1, hK _ _ _ ?_ q2⟩
   exact (List.perm_middle.trans (List.Perm.cons _ hq)).trans List.perm_middle.symm
theorem z9s {K : Act → Mem → Prop} (hK : Pcl K) : ∀ l, Pcl (z8 P G R ops K l)
 | [] => hK
 | _ :: l => ziI (z9s hK l)
theorem WQ {o : Oper} {a : Act} (h : ∀ w, ∃ v z w', (execOp a.eval o).run P w = .ok (.value v) w' ∧ z.b = w.heap.size ∧ Post [] [] [z] w w') (m : Mem) : ∃ v z, Yk P o a v z ∧ ∀ x ∈ m, x.b ≠ z.b := by
 obtain ⟨r, hr⟩ := vP m
 obtain ⟨v, z, w', e1, e2, hq⟩ := h { (default : World) with heap := Array.replicate r default }
 have e3 : z.b = r := by rw [e2]; simp
 exact ⟨v, z, ⟨_, w', e1, e2, hq⟩, fun x hx => by rw [e3]; exact hr x hx⟩
theorem zlq {x y : Oper} (hf : zf5 R ops x y = true) {K : Act → Mem → Prop} (hK : Pcl K) {a : Act} {m : Mem} (h : opM P G R ops x (opM P G R ops y K) a m) : opM P G R ops y (opM P G R ops x K) a m := by
 simp only [zf5, Bool.and_eq_true, Bool.or_eq_true, beq_iff_eq] at hf
 obtain ⟨⟨⟨hx, hy⟩, hap⟩, hk⟩ := hf
 obtain ⟨p1, p2, p3⟩ := Oper.apart_spec hap
 have p2' : ∀ e, y.dst = some e → x.dst ≠ some e := fun e he hx' => p2 e hx' he
 -- what x gives, kept over y's result
 have keepY : ∀ (a : Act) (u v : Value), Yields P ops y v a → Yields P ops y v (a.put x.dst u) := fun a u v hy' =>
  hy'.of_same (zQ (ops := ops) hy a x.dst u p1) (wanted_put y a x.dst u p1)
 have backY : ∀ (a : Act) (u v : Value), Yields P ops y v (a.put x.dst u) → Yields P ops y v a := fun a u v hy' =>
  hy'.of_same (zQ (ops := ops) hy a x.dst u p1).symm (wanted_put y a x.dst u p1).symm
 rcases hk with ((((((((hk | hk) | ⟨hkx, hky⟩) | ⟨hkx, hky⟩) | ⟨hkx, hky⟩) | ⟨hkx, hky⟩) | ⟨hkx, hky⟩) | ⟨hkx, hky⟩) | ⟨⟨hkx, hky⟩, hyf⟩) | ⟨hkx, hky⟩
 ·-- x is of kind n
  obtain ⟨v, hv, h⟩ := (z8S hk).1 h
  have h := z8Y hy p1 p2 h
  -- behind y x gives v still
  have key : ∀ a' m', Yields P ops x v a' ∧ K (a'.put x.dst v) m' → opM P G R ops x K a' m' := fun a' m' ⟨q1, q2⟩ => (z8S hk).2 ⟨v, q1, q2⟩
  refine z1n key ?_
  have keepX : ∀ (u : Value), Yields P ops x v (a.put y.dst u) := fun u =>
   hv.of_same (zQ (ops := ops) hx a y.dst u p3) (wanted_put x a y.dst u p3)
  unfold opM at h ⊢
  rcases h with ⟨h1, h2⟩ | ⟨h1, h2⟩
  ·exact .inl ⟨h1, keepX _, h2⟩
  ·refine .inr ⟨h1, ?_⟩
   generalize cls R y = k at h2
   match k with
   | 0 => obtain ⟨u, q1, q2⟩ := h2; exact ⟨u, q1, keepX _, q2⟩
   | 1 => obtain ⟨u, q1, q2⟩ := h2; exact ⟨u, q1, keepX _, q2⟩
   | 2 => obtain ⟨c, t, g, q1, q2⟩ := h2; exact ⟨c, t, g, q1, fun r hr => ⟨keepX _, q2 r hr⟩⟩
   | 3 => obtain ⟨l1, z, l2, c', q0, hX, q1, q2⟩ := h2; exact ⟨l1, z, l2, c', q0, hX, q1, keepX _, q2⟩
   | 4 => obtain ⟨S, q0, q1, q2⟩ := h2; exact ⟨S, q0, q1, fun v nw hs hr => ⟨keepX _, q2 v nw hs hr⟩⟩
   | 5 => obtain ⟨l0, lr, S, q0, q3, q4, q1, q2⟩ := h2; exact ⟨l0, lr, S, q0, q3, q4, q1, fun v l1 nw hs hr => ⟨keepX _, q2 v l1 nw hs hr⟩⟩
   | 6 => obtain ⟨q1, q2⟩ := h2; exact ⟨q1, fun v z ho hr => ⟨keepX _, q2 v z ho hr⟩⟩
 ·-- y is of kind n
  have step : ∀ (a' : Act) (m' : Mem) (u : Value), opM P G R ops y K (a'.put x.dst u) m' → ∃ v, Yields P ops y v a' ∧ K ((a'.put y.dst v).put x.dst u) m' := fun a' m' u h' => by
   obtain ⟨v, q1, q2⟩ := (z8S hk).1 h'
   rw [Act.put_comm a' u v p2] at q2
   exact ⟨v, backY _ _ _ q1, q2⟩
  refine (z8S hk).2 ?_
  unfold opM at h
  rcases h with ⟨h1, h2⟩ | ⟨h1, h2⟩
  ·obtain ⟨v, q1, q2⟩ := step a m undef h2
   exact ⟨v, q1, .inl ⟨by rw [wanted_put x a y.dst v p3]; exact h1, q2⟩⟩
  ·have hw : ∀ v, Region.wanted x (yielded ops (a.put y.dst v).tmps) = true := fun v => by rw [wanted_put x a y.dst v p3]; exact h1
   have he : ∀ v, execOp (a.put y.dst v).eval x = execOp a.eval x := fun v => zQ (ops := ops) hx a y.dst v p3
   unfold opM
   generalize cls R x = k at h2
   match k with
   | 0 =>
    obtain ⟨u, r1, r2⟩ := h2
    obtain ⟨v, q1, q2⟩ := step a m u r2
    exact ⟨v, q1, .inr ⟨hw v, u, by rw [he v]; exact r1, q2⟩⟩
   | 1 =>
    obtain ⟨u, r1, r2⟩ := h2
    obtain ⟨v, q1, q2⟩ := step a m u r2
    exact ⟨v, q1, .inr ⟨hw v, u, fun w hw1 hw2 => by have := r1 w hw1 hw2; unfold Yl at *; rw [he v]; exact this, q2⟩⟩
   | 2 =>
    obtain ⟨c, t, g, r1, r2⟩ := h2
    obtain ⟨r0, hr0⟩ := vP m
    obtain ⟨v, q1, _⟩ := step a _ _ (r2 r0 hr0)
    refine ⟨v, q1, .inr ⟨hw v, c, t, g, by rw [he v]; exact r1, fun r hr => ?_⟩⟩
    obtain ⟨v', q1', q2'⟩ := step a _ _ (r2 r hr)
    rw [Y1 q1 q1']
    exact q2'
   | 3 =>
    obtain ⟨l1, z, l2, c', r0, hX, r1, r2⟩ := h2
    obtain ⟨v, q1, q2⟩ := step a _ undef r2
    exact ⟨v, q1, .inr ⟨hw v, l1, z, l2, c', r0, hX, by rw [he v]; exact r1, q2⟩⟩
   | 4 =>
    obtain ⟨S, r0, r1, r2⟩ := h2
    obtain ⟨v0, n0, hs0, hr0⟩ := r0 m
    obtain ⟨v, q1, _⟩ := step a _ _ (r2 v0 n0 hs0 hr0)
    refine ⟨v, q1, .inr ⟨hw v, S, r0, fun w hw1 hw2 => by have := r1 w hw1 hw2; unfold Ye at *; rw [he v]; exact this, fun v1 nw hs hr => ?_⟩⟩
    obtain ⟨v', q1', q2'⟩ := step a _ _ (r2 v1 nw hs hr)
    rw [Y1 q1 q1']
    exact q2'
   | 5 =>
    obtain ⟨l0, lr, S, p0, r0, p3', r1, r2⟩ := h2
    obtain ⟨v0, l0', n0, hs0, hr0⟩ := r0 m
    obtain ⟨v, q1, _⟩ := step a _ _ (r2 v0 l0' n0 hs0 hr0)
    refine ⟨v, q1, .inr ⟨hw v, l0, lr, S, p0, r0, p3', fun w hw1 hw2 hw3 => by have := r1 w hw1 hw2 hw3; unfold Ye at *; rw [he v]; exact this, fun v1 l1 nw hs hr => ?_⟩⟩
    obtain ⟨v', q1', q2'⟩ := step a _ _ (r2 v1 l1 nw hs hr)
    rw [Y1 q1 q1']
    exact q2'
   | 6 =>
    obtain ⟨r1, r2⟩ := h2
    obtain ⟨v0, z0, ho0, hr0⟩ := WQ r1 m
    obtain ⟨v, q1, _⟩ := step a _ _ (r2 v0 z0 ho0 hr0)
    refine ⟨v, q1, .inr ⟨hw v, fun w => by rw [he v]; exact r1 w, fun v1 z ho hr => ?_⟩⟩
    have ho' : Yk P x a v1 z := by unfold Yk at *; rw [he v] at ho; exact ho
    obtain ⟨v', q1', q2'⟩ := step a _ _ (r2 v1 z ho' hr)
    rw [Y1 q1 q1']
    exact q2'
 ·-- x reads, y reads or makes a block
  have ex : ∀ v, execOp (a.put y.dst v).eval x = execOp a.eval x := fun v => zQ (ops := ops) hx a y.dst v p3
  have wx : ∀ v, Region.wanted x (yielded ops (a.put y.dst v).tmps) = Region.wanted x (yielded ops a.tmps) := fun v => wanted_put x a y.dst v p3
  -- x's step, with what it gives
  have hx' : ∃ u, ((Region.wanted x (yielded ops a.tmps) = false ∧ u = undef) ∨ (Region.wanted x (yielded ops a.tmps) = true ∧ ∀ w, MemR G w → vis R m w → Yl P x a w u)) ∧ opM P G R ops y K (a.put x.dst u) m := by
   unfold opM at h
   rw [hkx] at h
   rcases h with ⟨h1, h2⟩ | ⟨h1, u, h2, h3⟩
   ·exact ⟨undef, .inl ⟨h1, rfl⟩, h2⟩
   ·exact ⟨u, .inr ⟨h1, h2⟩, h3⟩
  obtain ⟨u, hu, h⟩ := hx'
  have h := z8Y hy p1 p2 h
  have back : ∀ v m', (∀ w, vis R m' w → vis R m w) → K ((a.put y.dst v).put x.dst u) m' → opM P G R ops x K (a.put y.dst v) m' := fun v m' e hK => by
   unfold opM
   rw [hkx, wx v]
   rcases hu with ⟨h1, rfl⟩ | ⟨h1, h2⟩
   ·exact .inl ⟨h1, hK⟩
   ·exact .inr ⟨h1, u, fun w hw1 hw2 => by have := h2 w hw1 (e w hw2); unfold Yl at *; rw [ex v]; exact this, hK⟩
  unfold opM at h
  rcases hky with ((((hky | hky) | hky) | hky) | ⟨hky, hXe⟩) | ⟨hky, hLe⟩
  ·rw [hky] at h
   rcases h with ⟨h1, h2⟩ | ⟨h1, v, h2, h3⟩
   ·exact .inl ⟨h1, back _ _ (fun _ h => h) h2⟩
   ·exact .inr ⟨h1, by rw [hky]; exact ⟨v, h2, back _ _ (fun _ h => h) h3⟩⟩
  ·rw [hky] at h
   rcases h with ⟨h1, h2⟩ | ⟨h1, c, t, g, h2, h3⟩
   ·exact .inl ⟨h1, back _ _ (fun _ h => h) h2⟩
   ·exact .inr ⟨h1, by rw [hky]; exact ⟨c, t, g, h2, fun r hr => back _ _ (fun w hw z hz => hw z (by simp [hz])) (h3 r hr)⟩⟩
  ·rw [hky] at h
   rcases h with ⟨h1, h2⟩ | ⟨h1, S, h0, h2, h3⟩
   ·exact .inl ⟨h1, back _ _ (fun _ h => h) h2⟩
   ·exact .inr ⟨h1, by rw [hky]; exact ⟨S, h0, h2, fun v nw hs hr => back _ _ (fun w hw z hz => hw z (by simp [hz])) (h3 v nw hs hr)⟩⟩
  ·rw [hky] at h
   rcases h with ⟨h1, h2⟩ | ⟨h1, h2, h3⟩
   ·exact .inl ⟨h1, back _ _ (fun _ h => h) h2⟩
   ·exact .inr ⟨h1, by rw [hky]; exact ⟨h2, fun v z ho hr => back _ _ (fun w hw q hq => hw q (by simp [hq])) (h3 v z ho hr)⟩⟩
  ·rw [hky] at h
   rcases h with ⟨h1, h2⟩ | ⟨h1, l1, z, l2, c', h0, hX, h2, h3⟩
   ·exact .inl ⟨h1, back _ _ (fun _ h => h) h2⟩
   ·have hzX := zcV hXe hX.1.1
    have hv : ∀ w, vis R (l1 ++ ⟨z.b, c', z.t⟩ :: l2) w → vis R m w := fun w hw q hq hqX => by
     rw [h0] at hq
     refine hw q ?_ hqX
     rcases List.mem_append.1 hq with hq | hq
     ·simp [hq]
     ·rcases List.mem_cons.1 hq with hq | hq
      ·subst hq; exact absurd hqX hzX
      ·simp [hq]
    exact .inr ⟨h1, by rw [hky]; exact ⟨l1, z, l2, c', h0, hX, h2, back _ _ hv h3⟩⟩
  ·rw [hky] at h
   rcases h with ⟨h1, h2⟩ | ⟨h1, l0, lr, S, h0, h5, h6, h2, h3⟩
   ·exact .inl ⟨h1, back _ _ (fun _ h => h) h2⟩
   ·have hv : ∀ (l1 nw : Mem) w, vis R (l1 ++ lr ++ nw) w → vis R m w := fun l1 nw w hw q hq hqX => by
     have hq2 : q ∈ l0 ++ lr := h0.mem_iff.1 hq
     rcases List.mem_append.1 hq2 with hq2 | hq2
     ·have h7 := h6.2 q hq2
      have h8 := hqX.2
      cases hL : R.L with
      | none => rw [hL] at hLe; cases hLe
      | some l =>
       rw [hL] at h7 h8
       exact absurd h8 h7
     ·exact hw q (by simp [hq2]) hqX
    exact .inr ⟨h1, by rw [hky]; exact ⟨l0, lr, S, h0, h5, h6, h2, fun v l1 nw hs hr => back _ _ (hv l1 nw) (h3 v l1 nw hs hr)⟩⟩
 ·-- both make a block
  have ex : ∀ v, execOp (a.put y.dst v).eval x = execOp a.eval x := fun v => zQ (ops := ops) hx a y.dst v p3
  have wx : ∀ v, Region.wanted x (yielded ops (a.put y.dst v).tmps) = Region.wanted x (yielded ops a.tmps) := fun v => wanted_put x a y.dst v p3
  have ey : ∀ v, execOp (a.put x.dst v).eval y = execOp a.eval y := fun v => zQ (ops := ops) hy a x.dst v p1
  have wy : ∀ v, Region.wanted y (yielded ops (a.put x.dst v).tmps) = Region.wanted y (yielded ops a.tmps) := fun v => wanted_put y a x.dst v p1
  have cm : ∀ v v', (a.put x.dst v).put y.dst v' = (a.put y.dst v').put x.dst v := fun v v' => Act.put_comm a v v' p2
  unfold opM at h ⊢
  simp only [hkx, hky, wx]
  simp only [hkx, hky, wy] at h
  rcases h with ⟨h1, ⟨h2, h3⟩ | ⟨h2, c2, t2, g2, h3, h4⟩⟩ | ⟨h1, c1, t1, g1, h5, h6⟩
  ·rw [cm] at h3; exact .inl ⟨h2, .inl ⟨h1, h3⟩⟩
  ·refine .inr ⟨h2, c2, t2, g2, by simp only [ey] at h3; exact h3, fun r hr => .inl ⟨(wx _).trans h1, ?_⟩⟩
   have := h4 r hr; rw [cm] at this; exact this
  ·-- the first is wanted
   obtain ⟨r0, hr0⟩ := vP m
   rcases h6 r0 hr0 with ⟨h2, _⟩ | ⟨h2, c2, t2, g2, h3, _⟩
   ·have h2 := (wy _).symm.trans h2
    refine .inl ⟨h2, .inr ⟨h1, c1, t1, g1, fun w => by rw [ex]; exact h5 w, fun r hr => ?_⟩⟩
    rcases h6 r hr with ⟨_, h3⟩ | ⟨h4, _⟩
    ·rw [cm] at h3; exact h3
    ·have h4 := (wy _).symm.trans h4
     rw [h2] at h4; cases h4
   ·have h2 := (wy _).symm.trans h2
    refine .inr ⟨h2, c2, t2, g2, fun w => by have := h3 w; rw [ey] at this; exact this, fun r2 hr2 => .inr ⟨(wx _).trans h1, c1, t1, g1, fun w => by rw [ex]; exact h5 w, fun r1 hr1 => ?_⟩⟩
    have n1 : ∀ z ∈ m, z.b ≠ r1 := fun z hz => hr1 z (by simp [hz])
    have n2 : r2 ≠ r1 := hr1 ⟨r2, c2, t2⟩ (by simp)
    rcases h6 r1 n1 with ⟨h4, _⟩ | ⟨_, c3, t3, g3, h7, h8⟩
    ·have h4 := (wy _).symm.trans h4
     rw [h2] at h4; cases h4
    ·-- the same block
     have one : ∀ w : World, (Result.ok (Next.value (g2 w.heap.size)) (w.alloc (.cells c2 t2)) : Result Next) = .ok (.value (g3 w.heap.size)) (w.alloc (.cells c3 t3)) := fun w => by
      have e3 := h3 w
      have e7 := h7 w
      rw [ey] at e3 e7
      exact e3.symm.trans e7
     have e1 := one default
     injection e1 with _ e2
     have e3 : (Obj.cells c2 t2 : Obj) = .cells c3 t3 := by
      have : (World.alloc default (Obj.cells c2 t2)).heap = (World.alloc default (Obj.cells c3 t3)).heap := by rw [e2]
      exact (Array.push_inj_right.1 this)
     injection e3 with e4 e5
     subst e4 e5
     have eg : g2 r2 = g3 r2 := by
      have e6 := one { (default : World) with heap := Array.replicate r2 default }
      injection e6 with e7 _
      injection e7 with e8
      simpa using e8
     rw [eg]
     have := h8 r2 (fun z hz => by
      rcases List.mem_append.1 hz with hz | hz
      ·exact hr2 z hz
      ·simp at hz; subst hz; exact fun e => n2 e.symm)
     rw [cm] at this
     refine hK _ _ _ ?_ this
     rw [List.append_assoc, List.append_assoc]
     exact List.Perm.append_left _ (List.Perm.swap _ _ _)
 ·-- both make one block, and read none
  have ex : ∀ v, execOp (a.put y.dst v).eval x = execOp a.eval x := fun v => zQ (ops := ops) hx a y.dst v p3
  have wx : ∀ v, Region.wanted x (yielded ops (a.put y.dst v).tmps) = Region.wanted x (yielded ops a.tmps) := fun v => wanted_put x a y.dst v p3
  have ey : ∀ v, execOp (a.put x.dst v).eval y = execOp a.eval y := fun v => zQ (ops := ops) hy a x.dst v p1
  have wy : ∀ v, Region.wanted y (yielded ops (a.put x.dst v).tmps) = Region.wanted y (yielded ops a.tmps) := fun v => wanted_put y a x.dst v p1
  have cm : ∀ v v', (a.put x.dst v).put y.dst v' = (a.put y.dst v').put x.dst v := fun v v' => Act.put_comm a v v' p2
  have oy : ∀ t v z, Yk P y a v z → Yk P y (a.put x.dst t) v z := fun t v z h => by unfold Yk at *; rw [ey]; exact h
  have ox : ∀ t v z, Yk P x (a.put y.dst t) v z → Yk P x a v z := fun t v z h => by unfold Yk at *; rw [ex] at h; exact h
  unfold opM at h ⊢
  simp only [hkx, hky, wx]
  simp only [hkx, hky, wy] at h
  rcases h with ⟨h1, ⟨h2, h3⟩ | ⟨h2, h3, h4⟩⟩ | ⟨h1, h5, h6⟩
  ·rw [cm] at h3; exact .inl ⟨h2, .inl ⟨h1, h3⟩⟩
  ·refine .inr ⟨h2, fun w => by have := h3 w; rw [ey] at this; exact this, fun v z ho hr => .inl ⟨(wx _).trans h1, ?_⟩⟩
   have := h4 v z (oy _ v z ho) hr; rw [cm] at this; exact this
  ·obtain ⟨v0, z0, ho0, hr0⟩ := WQ h5 m
   rcases h6 v0 z0 ho0 hr0 with ⟨h2, _⟩ | ⟨h2, h3, _⟩
   ·have h2 := (wy _).symm.trans h2
    refine .inl ⟨h2, .inr ⟨h1, fun w => by rw [ex]; exact h5 w, fun v z ho hr => ?_⟩⟩
    rcases h6 v z (ox _ v z ho) hr with ⟨_, h3⟩ | ⟨h4, _⟩
    ·rw [cm] at h3; exact h3
    ·have h4 := (wy _).symm.trans h4
     rw [h2] at h4; cases h4
   ·have h2 := (wy _).symm.trans h2
    refine .inr ⟨h2, fun w => by have := h3 w; rw [ey] at this; exact this, fun v' z' ho' hr' => .inr ⟨(wx _).trans h1, fun w => by rw [ex]; exact h5 w, fun v z ho hr => ?_⟩⟩
    have n1 : ∀ q ∈ m, q.b ≠ z.b := fun q hq => hr q (by simp [hq])
    have n2 : z'.b ≠ z.b := hr z' (by simp)
    rcases h6 v z (ox _ v z ho) n1 with ⟨h4, _⟩ | ⟨_, _, h8⟩
    ·have h4 := (wy _).symm.trans h4
     rw [h2] at h4; cases h4
    ·have := h8 v' z' (oy _ v' z' ho') (fun q hq => by
      rcases List.mem_append.1 hq with hq | hq
      ·exact hr' q hq
      ·simp at hq; subst hq; exact fun e => n2 e.symm)
     rw [cm] at this
     refine hK _ _ _ ?_ this
     rw [List.append_assoc, List.append_assoc]
     exact List.Perm.append_left _ (List.Perm.swap _ _ _)
 ·-- x makes blocks, y makes one
  have ex : ∀ v, execOp (a.put y.dst v).eval x = execOp a.eval x := fun v => zQ (ops := ops) hx a y.dst v p3
  have wx : ∀ v, Region.wanted x (yielded ops (a.put y.dst v).tmps) = Region.wanted x (yielded ops a.tmps) := fun v => wanted_put x a y.dst v p3
  have ey : ∀ v, execOp (a.put x.dst v).eval y = execOp a.eval y := fun v => zQ (ops := ops) hy a x.dst v p1
  have wy : ∀ v, Region.wanted y (yielded ops (a.put x.dst v).tmps) = Region.wanted y (yielded ops a.tmps) := fun v => wanted_put y a x.dst v p1
  have cm : ∀ v v', (a.put x.dst v).put y.dst v' = (a.put y.dst v').put x.dst v := fun v v' => Act.put_comm a v v' p2
  unfold opM at h ⊢
  simp only [hkx, hky, wx]
  simp only [hkx, hky, wy] at h
  rcases h with ⟨h1, ⟨h2, h3⟩ | ⟨h2, c2, t2, g2, h3, h4⟩⟩ | ⟨h1, S, h0, h5, h6⟩
  ·rw [cm] at h3; exact .inl ⟨h2, .inl ⟨h1, h3⟩⟩
  ·refine .inr ⟨h2, c2, t2, g2, by simp only [ey] at h3; exact h3, fun r hr => .inl ⟨(wx _).trans h1, ?_⟩⟩
   have := h4 r hr; rw [cm] at this; exact this
  ·obtain ⟨v0, n0, hs0, hr0⟩ := h0 m
   rcases h6 v0 n0 hs0 hr0 with ⟨h2, _⟩ | ⟨h2, c2, t2, g2, h3, _⟩
   ·have h2 := (wy _).symm.trans h2
    refine .inl ⟨h2, .inr ⟨h1, S, h0, fun w hw1 hw2 => by have := h5 w hw1 hw2; unfold Ye at *; rw [ex]; exact this, fun v nw hs hr => ?_⟩⟩
    rcases h6 v nw hs hr with ⟨_, h3⟩ | ⟨h4, _⟩
    ·rw [cm] at h3; exact h3
    ·have h4 := (wy _).symm.trans h4
     rw [h2] at h4; cases h4
   ·have h2 := (wy _).symm.trans h2
    refine .inr ⟨h2, c2, t2, g2, fun w => by have := h3 w; rw [ey] at this; exact this, fun r2 hr2 => .inr ⟨(wx _).trans h1, S, h0, fun w hw1 hw2 => by have := h5 w hw1 (fun z hz hX => hw2 z (by simp [hz]) hX); unfold Ye at *; rw [ex]; exact this, fun v nw hs hr => ?_⟩⟩
    have n1 : FreshM m nw := ⟨hr.1, fun z hz q hq => hr.2 z hz q (by simp [hq])⟩
    rcases h6 v nw hs n1 with ⟨h4, _⟩ | ⟨_, c3, t3, g3, h7, h8⟩
    ·have h4 := (wy _).symm.trans h4
     rw [h2] at h4; cases h4
    ·have one : ∀ w : World, (Result.ok (Next.value (g2 w.heap.size)) (w.alloc (.cells c2 t2)) : Result Next) = .ok (.value (g3 w.heap.size)) (w.alloc (.cells c3 t3)) := fun w => by
      have e3 := h3 w
      have e7 := h7 w
      rw [ey] at e3 e7
      exact e3.symm.trans e7
     have e1 := one default
     injection e1 with _ e2
     have e3 : (Obj.cells c2 t2 : Obj) = .cells c3 t3 := by
      have : (World.alloc default (Obj.cells c2 t2)).heap = (World.alloc default (Obj.cells c3 t3)).heap := by rw [e2]
      exact (Array.push_inj_right.1 this)
     injection e3 with e4 e5
     subst e4 e5
     have eg : g2 r2 = g3 r2 := by
      have e6 := one { (default : World) with heap := Array.replicate r2 default }
      injection e6 with e7 _
      injection e7 with e8
      simpa using e8
     rw [eg]
     have := h8 r2 (fun z hz => by
      rcases List.mem_append.1 hz with hz | hz
      ·exact hr2 z hz
      ·exact fun e => hr.2 z hz ⟨r2, c2, t2⟩ (by simp) e.symm)
     rw [cm] at this
     refine hK _ _ _ ?_ this
     rw [List.append_assoc, List.append_assoc]
     exact List.Perm.append_left _ (List.perm_append_comm)
 ·-- x writes, y makes one block
  have ex : ∀ v, execOp (a.put y.dst v).eval x = execOp a.eval x := fun v => zQ (ops := ops) hx a y.dst v p3
  have wx : ∀ v, Region.wanted x (yielded ops (a.put y.dst v).tmps) = Region.wanted x (yielded ops a.tmps) := fun v => wanted_put x a y.dst v p3
  have ey : ∀ v, execOp (a.put x.dst v).eval y = execOp a.eval y := fun v => zQ (ops := ops) hy a x.dst v p1
  have wy : ∀ v, Region.wanted y (yielded ops (a.put x.dst v).tmps) = Region.wanted y (yielded ops a.tmps) := fun v => wanted_put y a x.dst v p1
  have cm : ∀ v v', (a.put x.dst v).put y.dst v' = (a.put y.dst v').put x.dst v := fun v v' => Act.put_comm a v v' p2
  unfold opM at h ⊢
  simp only [hkx, hky, wx]
  simp only [hkx, hky, wy] at h
  rcases h with ⟨h1, ⟨h2, h3⟩ | ⟨h2, c2, t2, g2, h3, h4⟩⟩ | ⟨h1, l0, lr, S, hpm, h0, hids, h5, h6⟩
  ·rw [cm] at h3; exact .inl ⟨h2, .inl ⟨h1, h3⟩⟩
  ·refine .inr ⟨h2, c2, t2, g2, by simp only [ey] at h3; exact h3, fun r hr => .inl ⟨(wx _).trans h1, ?_⟩⟩
   have := h4 r hr; rw [cm] at this; exact this
  ·obtain ⟨v0, l10, n0, hs0, hr0⟩ := h0 m
   rcases h6 v0 l10 n0 hs0 hr0 with ⟨h2, _⟩ | ⟨h2, c2, t2, g2, h3, _⟩
   ·have h2 := (wy _).symm.trans h2
    refine .inl ⟨h2, .inr ⟨h1, l0, lr, S, hpm, h0, hids, fun w hw1 hw2 hw3 => by have := h5 w hw1 hw2 hw3; unfold Ye at *; rw [ex]; exact this, fun v l1 nw hs hr => ?_⟩⟩
    rcases h6 v l1 nw hs hr with ⟨_, h3⟩ | ⟨h4, _⟩
    ·rw [cm] at h3; exact h3
    ·have h4 := (wy _).symm.trans h4
     rw [h2] at h4; cases h4
   ·have h2 := (wy _).symm.trans h2
    refine .inr ⟨h2, c2, t2, g2, fun w => by have := h3 w; rw [ey] at this; exact this, fun r2 hr2 => .inr ⟨(wx _).trans h1, l0, lr ++ [⟨r2, c2, t2⟩], S, by rw [← List.append_assoc]; exact hpm.append_right _, h0, hids, fun w hw1 hw2 hw3 => by have := h5 w hw1 (fun z hz => hw2 z (by simp [hz])) (fun x hx y hy => hw3 x hx y (by simp [hy])); unfold Ye at *; rw [ex]; exact this, fun v l1 nw hs hr => ?_⟩⟩
    have n1 : FreshM m nw := ⟨hr.1, fun z hz q hq => hr.2 z hz q (by simp [hq])⟩
    rcases h6 v l1 nw hs n1 with ⟨h4, _⟩ | ⟨_, c3, t3, g3, h7, h8⟩
    ·have h4 := (wy _).symm.trans h4
     rw [h2] at h4; cases h4
    ·have one : ∀ w : World, (Result.ok (Next.value (g2 w.heap.size)) (w.alloc (.cells c2 t2)) : Result Next) = .ok (.value (g3 w.heap.size)) (w.alloc (.cells c3 t3)) := fun w => by
      have e3 := h3 w
      have e7 := h7 w
      rw [ey] at e3 e7
      exact e3.symm.trans e7
     have e1 := one default
     injection e1 with _ e2
     have e3 : (Obj.cells c2 t2 : Obj) = .cells c3 t3 := by
      have : (World.alloc default (Obj.cells c2 t2)).heap = (World.alloc default (Obj.cells c3 t3)).heap := by rw [e2]
      exact (Array.push_inj_right.1 this)
     injection e3 with e4 e5
     subst e4 e5
     have eg : g2 r2 = g3 r2 := by
      have e6 := one { (default : World) with heap := Array.replicate r2 default }
      injection e6 with e7 _
      injection e7 with e8
      simpa using e8
     rw [eg]
     have := h8 r2 (fun z hz => by
      rcases List.mem_append.1 hz with hz | hz
      ·rcases List.mem_append.1 hz with hz | hz
       ·have hb : z.b ∈ l0.map (·.b) := by rw [← hids.1 v l1 nw hs]; exact List.mem_map.2 ⟨z, hz, rfl⟩
        obtain ⟨q, hq, e⟩ := List.mem_map.1 hb
        rw [← e]; exact hr2 q (hpm.mem_iff.2 (by simp [hq]))
       ·exact hr2 z (hpm.mem_iff.2 (by simp [hz]))
      ·exact fun e => hr.2 z hz ⟨r2, c2, t2⟩ (by simp) e.symm)
     rw [cm] at this
     refine hK _ _ _ ?_ this
     simp only [List.append_assoc]
     exact List.Perm.append_left _ (List.Perm.append_left _ List.perm_append_comm)
 ·-- x makes a block of a text, y makes one
  have ex : ∀ v, execOp (a.put y.dst v).eval x = execOp a.eval x := fun v => zQ (ops := ops) hx a y.dst v p3
  have wx : ∀ v, Region.wanted x (yielded ops (a.put y.dst v).tmps) = Region.wanted x (yielded ops a.tmps) := fun v => wanted_put x a y.dst v p3
  have ey : ∀ v, execOp (a.put x.dst v).eval y = execOp a.eval y := fun v => zQ (ops := ops) hy a x.dst v p1
  have wy : ∀ v, Region.wanted y (yielded ops (a.put x.dst v).tmps) = Region.wanted y (yielded ops a.tmps) := fun v => wanted_put y a x.dst v p1
  have cm : ∀ v v', (a.put x.dst v).put y.dst v' = (a.put y.dst v').put x.dst v := fun v v' => Act.put_comm a v v' p2
  have ox : ∀ t v z, Yk P x (a.put y.dst t) v z → Yk P x a v z := fun t v z h => by unfold Yk at *; rw [ex] at h; exact h
  unfold opM at h ⊢
  simp only [hkx, hky, wx]
  simp only [hkx, hky, wy] at h
  rcases h with ⟨h1, ⟨h2, h3⟩ | ⟨h2, c2, t2, g2, h3, h4⟩⟩ | ⟨h1, h5, h6⟩
  ·rw [cm] at h3; exact .inl ⟨h2, .inl ⟨h1, h3⟩⟩
  ·refine .inr ⟨h2, c2, t2, g2, by simp only [ey] at h3; exact h3, fun r hr => .inl ⟨(wx _).trans h1, ?_⟩⟩
   have := h4 r hr; rw [cm] at this; exact this
  ·obtain ⟨v0, z0, ho0, hr0⟩ := WQ h5 m
   rcases h6 v0 z0 ho0 hr0 with ⟨h2, _⟩ | ⟨h2, c2, t2, g2, h3, _⟩
   ·have h2 := (wy _).symm.trans h2
    refine .inl ⟨h2, .inr ⟨h1, fun w => by rw [ex]; exact h5 w, fun v z ho hr => ?_⟩⟩
    rcases h6 v z (ox _ v z ho) hr with ⟨_, h3⟩ | ⟨h4, _⟩
    ·rw [cm] at h3; exact h3
    ·have h4 := (wy _).symm.trans h4
     rw [h2] at h4; cases h4
   ·have h2 := (wy _).symm.trans h2
    refine .inr ⟨h2, c2, t2, g2, fun w => by have := h3 w; rw [ey] at this; exact this, fun r2 hr2 => .inr ⟨(wx _).trans h1, fun w => by rw [ex]; exact h5 w, fun v z ho hr => ?_⟩⟩
    have n1 : ∀ q ∈ m, q.b ≠ z.b := fun q hq => hr q (by simp [hq])
    have n2 : r2 ≠ z.b := hr ⟨r2, c2, t2⟩ (by simp)
    rcases h6 v z (ox _ v z ho) n1 with ⟨h4, _⟩ | ⟨_, c3, t3, g3, h7, h8⟩
    ·have h4 := (wy _).symm.trans h4
     rw [h2] at h4; cases h4
    ·have one : ∀ w : World, (Result.ok (Next.value (g2 w.heap.size)) (w.alloc (.cells c2 t2)) : Result Next) = .ok (.value (g3 w.heap.size)) (w.alloc (.cells c3 t3)) := fun w => by
      have e3 := h3 w
      have e7 := h7 w
      rw [ey] at e3 e7
      exact e3.symm.trans e7
     have e1 := one default
     injection e1 with _ e2
     have e3 : (Obj.cells c2 t2 : Obj) = .cells c3 t3 := by
      have : (World.alloc default (Obj.cells c2 t2)).heap = (World.alloc default (Obj.cells c3 t3)).heap := by rw [e2]
      exact (Array.push_inj_right.1 this)
     injection e3 with e4 e5
     subst e4 e5
     have eg : g2 r2 = g3 r2 := by
      have e6 := one { (default : World) with heap := Array.replicate r2 default }
      injection e6 with e7 _
      injection e7 with e8
      simpa using e8
     rw [eg]
     have := h8 r2 (fun q hq => by
      rcases List.mem_append.1 hq with hq | hq
      ·exact hr2 q hq
      ·simp at hq; subst hq; exact fun e => n2 e.symm)
     rw [cm] at this
     refine hK _ _ _ ?_ this
     rw [List.append_assoc, List.append_assoc]
     exact List.Perm.append_left _ (List.Perm.swap _ _ _)
 ·-- both store, to two blocks
  have ex : ∀ v, execOp (a.put y.dst v).eval x = execOp a.eval x := fun v => zQ (ops := ops) hx a y.dst v p3
  have wx : ∀ v, Region.wanted x (yielded ops (a.put y.dst v).tmps) = Region.wanted x (yielded ops a.tmps) := fun v => wanted_put x a y.dst v p3
  have ey : ∀ v, execOp (a.put x.dst v).eval y = execOp a.eval y := fun v => zQ (ops := ops) hy a x.dst v p1
  have wy : ∀ v, Region.wanted y (yielded ops (a.put x.dst v).tmps) = Region.wanted y (yielded ops a.tmps) := fun v => wanted_put y a x.dst v p1
  have cm : ∀ v v', (a.put x.dst v).put y.dst v' = (a.put y.dst v').put x.dst v := fun v v' => Act.put_comm a v v' p2
  unfold opM at h ⊢
  simp only [hkx, hky, wx]
  simp only [hkx, hky, wy] at h
  rcases h with ⟨h1, ⟨h2, h3⟩ | ⟨h2, k1, q, k2, d', r0, hXq, r1, r2⟩⟩ | ⟨h1, l1, z, l2, c', q0, hXz, q1, q2⟩
  ·rw [cm] at h3; exact .inl ⟨h2, .inl ⟨h1, h3⟩⟩
  ·refine .inr ⟨h2, k1, q, k2, d', r0, hXq, by simp only [ey] at r1; exact r1, .inl ⟨(wx _).trans h1, ?_⟩⟩
   rw [cm] at r2; exact r2
  ·rcases q2 with ⟨h2, h3⟩ | ⟨h2, k1, q, k2, d', r0, hXq, r1, r2⟩
   ·have h2 := (wy _).symm.trans h2
    refine .inl ⟨h2, .inr ⟨h1, l1, z, l2, c', q0, hXz, fun w hw => by rw [ex]; exact q1 w hw, ?_⟩⟩
    rw [cm] at h3; exact h3
   ·have h2 := (wy _).symm.trans h2
    have hne : z.b ≠ q.b := zd5 hyf hXz.1.2 hXq.1.2
    have hq1 : q ∈ l1 ++ l2 := by
     have : q ∈ l1 ++ (⟨z.b, c', z.t⟩ : Blk) :: l2 := by rw [r0]; simp
     simp only [List.mem_append, List.mem_cons] at this ⊢
     rcases this with h | h | h
     ·exact .inl h
     ·exact absurd (congrArg Blk.b h).symm hne
     ·exact .inr h
    obtain ⟨s1, s2, hs⟩ := List.append_of_mem hq1
    have pR : List.Perm (l1 ++ l2) (q :: (s1 ++ s2)) := by rw [hs]; exact List.perm_middle
    obtain ⟨p1, p2, hp⟩ := List.append_of_mem (show q ∈ m by
     rw [q0]
     simp only [List.mem_append, List.mem_cons] at hq1 ⊢
     exact hq1.elim .inl fun h => .inr (.inr h))
    have pP : List.Perm (p1 ++ p2) (z :: (s1 ++ s2)) := by
     have e1 : List.Perm (q :: (p1 ++ p2)) m := by rw [hp]; exact List.perm_middle.symm
     have e2 : List.Perm m (z :: (l1 ++ l2)) := by rw [q0]; exact List.perm_middle
     exact ((e1.trans e2).trans ((pR.cons z).trans (List.Perm.swap q z _))).cons_inv
    have hz1 : z ∈ p1 ++ (⟨q.b, d', q.t⟩ : Blk) :: p2 := by
     have : z ∈ p1 ++ p2 := pP.mem_iff.2 (by simp)
     simp only [List.mem_append, List.mem_cons] at this ⊢
     exact this.elim .inl fun h => .inr (.inr h)
    obtain ⟨t1, t2, ht⟩ := List.append_of_mem hz1
    refine .inr ⟨h2, p1, q, p2, d', hp, hXq, fun w hw => by have := r1 w hw; rw [ey] at this; exact this, .inr ⟨(wx _).trans h1, t1, z, t2, c', ht, hXz, fun w hw => by rw [ex]; exact q1 w hw, ?_⟩⟩
    rw [cm] at r2
    refine hK _ _ _ ?_ r2
    have pK : List.Perm (k1 ++ k2) (⟨z.b, c', z.t⟩ :: (s1 ++ s2)) := by
     have e1 : List.Perm (q :: (k1 ++ k2)) (k1 ++ q :: k2) := List.perm_middle.symm
     have e2 : List.Perm (k1 ++ q :: k2) ((⟨z.b, c', z.t⟩ : Blk) :: (l1 ++ l2)) := by rw [← r0]; exact List.perm_middle
     exact ((e1.trans e2).trans ((pR.cons _).trans (List.Perm.swap q _ _))).cons_inv
    have pT : List.Perm (t1 ++ t2) ((⟨q.b, d', q.t⟩ : Blk) :: (s1 ++ s2)) := by
     have e1 : List.Perm (z :: (t1 ++ t2)) (t1 ++ z :: t2) := List.perm_middle.symm
     have e2 : List.Perm (t1 ++ z :: t2) ((⟨q.b, d', q.t⟩ : Blk) :: (p1 ++ p2)) := by rw [← ht]; exact List.perm_middle
     exact ((e1.trans e2).trans ((pP.cons _).trans (List.Perm.swap z _ _))).cons_inv
    have g1 : List.Perm (k1 ++ (⟨q.b, d', q.t⟩ : Blk) :: k2) ((⟨q.b, d', q.t⟩ : Blk) :: ⟨z.b, c', z.t⟩ :: (s1 ++ s2)) := List.perm_middle.trans (pK.cons _)
    have g2 : List.Perm (t1 ++ (⟨z.b, c', z.t⟩ : Blk) :: t2) ((⟨z.b, c', z.t⟩ : Blk) :: ⟨q.b, d', q.t⟩ :: (s1 ++ s2)) := List.perm_middle.trans (pT.cons _)
    exact g1.trans ((List.Perm.swap _ _ _).trans g2.symm)
 ·-- x stores, y makes a block of a text
  have ex : ∀ v, execOp (a.put y.dst v).eval x = execOp a.eval x := fun v => zQ (ops := ops) hx a y.dst v p3
  have wx : ∀ v, Region.wanted x (yielded ops (a.put y.dst v).tmps) = Region.wanted x (yielded ops a.tmps) := fun v => wanted_put x a y.dst v p3
  have ey : ∀ v, execOp (a.put x.dst v).eval y = execOp a.eval y := fun v => zQ (ops := ops) hy a x.dst v p1
  have wy : ∀ v, Region.wanted y (yielded ops (a.put x.dst v).tmps) = Region.wanted y (yielded ops a.tmps) := fun v => wanted_put y a x.dst v p1
  have cm : ∀ v v', (a.put x.dst v).put y.dst v' = (a.put y.dst v').put x.dst v := fun v v' => Act.put_comm a v v' p2
  have oy : ∀ t v z, Yk P y a v z → Yk P y (a.put x.dst t) v z := fun t v z h => by unfold Yk at *; rw [ey]; exact h
  unfold opM at h ⊢
  simp only [hkx, hky, wx]
  simp only [hkx, hky, wy] at h
  rcases h with ⟨h1, ⟨h2, h3⟩ | ⟨h2, h3, h4⟩⟩ | ⟨h1, l1, z, l2, c', q0, hXz, q1, q2⟩
  ·rw [cm] at h3; exact .inl ⟨h2, .inl ⟨h1, h3⟩⟩
  ·refine .inr ⟨h2, fun w => by have := h3 w; rw [ey] at this; exact this, fun v z ho hr => .inl ⟨(wx _).trans h1, ?_⟩⟩
   have := h4 v z (oy _ v z ho) hr; rw [cm] at this; exact this
  ·rcases q2 with ⟨h2, h3⟩ | ⟨h2, h3, h4⟩
   ·have h2 := (wy _).symm.trans h2
    refine .inl ⟨h2, .inr ⟨h1, l1, z, l2, c', q0, hXz, fun w hw => by rw [ex]; exact q1 w hw, ?_⟩⟩
    rw [cm] at h3; exact h3
   ·have h2 := (wy _).symm.trans h2
    refine .inr ⟨h2, fun w => by have := h3 w; rw [ey] at this; exact this, fun v b ho hr => .inr ⟨(wx _).trans h1, l1, z, l2 ++ [b], c', by rw [q0]; simp, hXz, fun w hw => by rw [ex]; exact q1 w hw, ?_⟩⟩
    have := h4 v b (oy _ v b ho) (fun q hq => by
     simp only [List.mem_append, List.mem_cons] at hq
     rcases hq with hq | rfl | hq
     ·exact hr q (by rw [q0]; simp [hq])
     ·exact hr z (by rw [q0]; simp)
     ·exact hr q (by rw [q0]; simp [hq]))
    rw [cm] at this
    refine hK _ _ _ ?_ this
    rw [List.append_assoc, List.cons_append]
theorem z8o {K : Act → Mem → Prop} (hK : Pcl K) (y : Oper) : ∀ (s1 s2 : List Oper), (∀ x ∈ s1, zf5 R ops x y = true) → ∀ (a : Act) (m : Mem), z8 P G R ops K (s1 ++ y :: s2) a m → z8 P G R ops K (y :: (s1 ++ s2)) a m
 | [], _, _, _, _, h => h
 | x :: s1, s2, hs, a, m, h => by
  have h1 : opM P G R ops x (z8 P G R ops K (y :: (s1 ++ s2))) a m := z1n (fun a m => z8o hK y s1 s2 (fun z hz => hs z (by simp [hz])) a m) h
  exact zlq (hs x (by simp)) (z9s hK _) h1
def Zj (ops : Array Oper) (i : Nat) : Oper := ops.getD i default
def anc (ops : Array Oper) : Nat → Nat → Nat → Bool
 | 0, _, _ => false
 | f + 1, i, j => (Zj ops i).after.any fun e => Region.binds .any e && (e.on == j || anc ops f e.on j)
def Yx (R : Reg) (ops : Array Oper) (j i : Nat) : Bool :=
 j != i && ((Zj ops j).after.all fun e => !Region.binds .any e || e.on != i) && (zf5 R ops (Zj ops j) (Zj ops i) || anc ops 4 i j)
def VQ (R : Reg) (ops : Array Oper) : List Nat → Bool
 | [] => true
 | j :: l => l.all (fun i => Yx R ops j i) && VQ R ops l
def wq (R : Reg) (ops : Array Oper) (ord : List Nat) : Bool :=
 ord.length == ops.size && (List.range ops.size).all (fun i => ord.contains i) && ord.all (fun i => i < ops.size) && VQ R ops ord &&
 (List.range ops.size).all fun i => (Zj ops i).after.all fun e => !Region.binds .any e || (e.on < ops.size && e.on != i)
def y5 (ord : List Nat) (listed : Array Bool) : List Nat := ord.filter fun i => !listed.getD i true
theorem z12 : ∀ {l : List Nat}, VQ R ops l = true → List.Pairwise (fun j i => Yx R ops j i = true) l
 | [], _ => .nil
 | j :: l, h => by
  simp only [VQ, Bool.and_eq_true] at h
  exact .cons (fun i hi => List.all_eq_true.1 h.1 i hi) (z12 h.2)
theorem VG {i : Nat} (h : i < ops.size) : ops[i]? = some (Zj ops i) := by
 simp [Zj, h]
theorem Vg (listed : Array Bool) {i j : Nat} (h : ¬ i = j) (b : Bool) : (listed.setIfInBounds i true).getD j b = listed.getD j b := by
 rw [Array.getD_eq_getD_getElem?, Array.getElem?_setIfInBounds_ne h, ← Array.getD_eq_getD_getElem?]
theorem z3u {ord : List Nat} {listed : Array Bool} {i : Nat} {s1 s2 : List Nat} (hn : ord.Nodup) (hlt : ∀ j ∈ ord, j < listed.size) (h : y5 ord listed = s1 ++ i :: s2) :
  y5 ord (listed.setIfInBounds i true) = s1 ++ s2 := by
 have hi : i ∈ y5 ord listed := by rw [h]; simp
 have hin : i < listed.size := hlt i (List.mem_filter.1 hi).1
 have e : y5 ord (listed.setIfInBounds i true) = (y5 ord listed).filter (fun j => j != i) := by
  unfold y5
  rw [List.filter_filter]
  refine List.filter_congr fun j hj => ?_
  have hj : j < listed.size := hlt j hj
  by_cases hji : j = i
  ·subst hji; simp [Array.getD, hin]
  ·have : i ≠ j := fun e => hji e.symm
   simp [hji, Array.getD, hj, Array.getElem_setIfInBounds_ne, this]
 have nd : (y5 ord listed).Nodup := List.Pairwise.filter _ hn
 rw [e, h]
 rw [h] at nd
 rw [List.nodup_append] at nd
 obtain ⟨n1, n2, n3⟩ := nd
 rw [List.nodup_cons] at n2
 rw [List.filter_append, List.filter_cons]
 have f1 : s1.filter (fun j => j != i) = s1 := List.filter_eq_self.2 fun j hj => by
  have := n3 j hj i (by simp)
  simpa using this
 have f2 : s2.filter (fun j => j != i) = s2 := List.filter_eq_self.2 fun j hj => by
  have : j ≠ i := fun e => n2.1 (e ▸ hj)
  simpa using this
 simp [f1, f2]
theorem z7W {K : Act → Mem → Prop} (hK : Pcl K) {Q : Exit → Act → World → Prop} {B : Nat} {L : List Nat} {w0 : World} (hB : B ≤ w0.heap.size) {ord : List Nat} (hok : wq R ops ord = true)
  (hQ : ∀ a m w, K a m → Holds G B L w0 m w → Q .normal a w) :
  ∀ (fuel : Nat) (listed : Array Bool), listed.size = ops.size → (y5 ord listed).length ≤ fuel → (∀ i, i < ops.size → listed.getD i false = true → ∀ e ∈ (Zj ops i).after, Region.binds .any e = true → listed.getD e.on false = true) → ∀ (a : Act) (m : Mem) (w : World),
   z8 P G R ops K ((y5 ord listed).map (Zj ops)) a m → Holds G B L w0 m w → wpAny P .any ops Q fuel listed a w := by
 simp only [wq, Bool.and_eq_true, beq_iff_eq] at hok
 obtain ⟨⟨⟨⟨hlen0, hall⟩, hbd⟩, hpw0⟩, hedge⟩ := hok
 have hpw := z12 hpw0
 have hcov : ∀ i, i < ops.size → i ∈ ord := fun i hi => by
  have := List.all_eq_true.1 hall i (by simpa using hi)
  simpa using this
 have hnd : ord.Nodup := hpw.imp fun h => by
  simp only [Yx, Bool.and_eq_true, bne_iff_ne] at h
  exact h.1.1
 have hsub : ∀ i ∈ ord, i < ops.size := fun i hi => by
  have := List.all_eq_true.1 hbd i hi
  simpa using this
 have hed : ∀ i, i < ops.size → ∀ e ∈ (Zj ops i).after, Region.binds .any e = true → e.on < ops.size ∧ e.on ≠ i := fun i hi e he hb => by
  have h1 := List.all_eq_true.1 hedge i (by simpa using hi)
  have h2 := (Array.all_eq_true_iff_forall_mem.1 h1) e he
  simpa [hb] using h2
 -- what comes ahead of what may come is listed
 have ahead : ∀ (listed : Array Bool), (∀ i, i < ops.size → listed.getD i false = true → ∀ e ∈ (Zj ops i).after, Region.binds .any e = true → listed.getD e.on false = true) →
   ∀ f i j, i < ops.size → (∀ e ∈ (Zj ops i).after, Region.binds .any e = true → listed.getD e.on false = true) → anc ops f i j = true → listed.getD j false = true := by
  intro listed hcl f
  induction f with
  | zero => intro i j _ _ h; simp [anc] at h
  | succ f ih =>
   intro i j hi hrd h
   unfold anc at h
   rw [Array.any_eq_true'] at h
   obtain ⟨e, he, h2⟩ := h
   simp only [Bool.and_eq_true, Bool.or_eq_true, beq_iff_eq] at h2
   obtain ⟨hb, h3⟩ := h2
   have hl := hrd e he hb
   have hlt := (hed i hi e he hb).1
   rcases h3 with h3 | h3
   ·rw [← h3]; exact hl
   ·exact ih e.on j hlt (hcl e.on hlt hl) h3
 -- the first that is not listed may come
 have least : ∀ (listed : Array Bool), listed.size = ops.size → ∀ (i : Nat) (s : List Nat), y5 ord listed = i :: s → i ∈ Region.ready .any ops listed := by
  intro listed hl i s h
  have hi : i ∈ y5 ord listed := by rw [h]; simp
  have hio := (List.mem_filter.1 hi).1
  have hin : i < ops.size := hsub i hio
  have hun : listed.getD i true = false := by simpa using (List.mem_filter.1 hi).2
  simp only [Region.ready, List.mem_filter, List.mem_range]
  refine ⟨hin, ?_⟩
  rw [hun, VG hin]
  simp only [Bool.not_false, Option.map_some, Option.getD_some, Bool.true_and]
  refine Array.all_eq_true_iff_forall_mem.2 fun e he => ?_
  by_cases hb : Region.binds .any e = true
  ·obtain ⟨hlt, hne⟩ := hed i hin e he hb
   have hnot : e.on ∉ y5 ord listed := fun hmem => by
    have hp : List.Pairwise (fun j i => Yx R ops j i = true) (y5 ord listed) := List.Pairwise.filter _ hpw
    rw [h] at hp hmem
    rcases List.mem_cons.1 hmem with e1 | e1
    ·exact hne e1
    ·have h2 := (List.pairwise_cons.1 hp).1 _ e1
     simp only [Yx, Bool.and_eq_true] at h2
     have h3 := (Array.all_eq_true_iff_forall_mem.1 h2.1.2) e he
     simp [hb] at h3
   have h4 : listed.getD e.on true = true := by
    cases hh : listed.getD e.on true with
    | true => rfl
    | false => exact absurd (List.mem_filter.2 ⟨hcov _ hlt, by rw [hh]; rfl⟩) hnot
   simp only [hb, Bool.not_true, Bool.false_or]
   have hsz : e.on < listed.size := by omega
   simp only [Array.getD, hsz, dite_true] at h4 ⊢; exact h4
  ·simp [hb]
 intro fuel
 induction fuel with
 | zero =>
  intro listed hl hlen _ a m w h hw
  have hnil : y5 ord listed = [] := List.length_eq_zero_iff.1 (by omega)
  rw [hnil] at h
  refine ⟨?_, hQ _ _ _ h hw⟩
  apply List.eq_nil_iff_forall_not_mem.2
  intro i hi
  have : i ∈ y5 ord listed := by
   simp only [Region.ready, List.mem_filter, List.mem_range, Bool.and_eq_true] at hi
   exact List.mem_filter.2 ⟨hcov i hi.1, hi.2.1⟩
  rw [hnil] at this; cases this
 | succ fuel ih =>
  intro listed hl hlen hcl a m w h hw
  refine ⟨fun hr => ?_, fun i hi => ?_⟩
  ·cases hu : y5 ord listed with
   | nil => rw [hu] at h; exact hQ _ _ _ h hw
   | cons i s => have := least listed hl i s hu; rw [hr] at this; cases this
  ·simp only [Region.ready, List.mem_filter, List.mem_range, Bool.and_eq_true] at hi
   obtain ⟨hin, hnl, hrd⟩ := hi
   have hmem : i ∈ y5 ord listed := List.mem_filter.2 ⟨hcov i hin, hnl⟩
   obtain ⟨s1, s2, hs⟩ := List.append_of_mem hmem
   have hsorted : List.Pairwise (fun j i => Yx R ops j i = true) (y5 ord listed) := List.Pairwise.filter _ hpw
   rw [hs] at hsorted
   have hpair : ∀ j ∈ s1, Yx R ops j i = true := fun j hj => (List.pairwise_append.1 hsorted).2.2 j hj i (by simp)
   rw [VG hin] at hrd
   simp only [Option.map_some, Option.getD_some] at hrd
   have hrd' : ∀ e ∈ (Zj ops i).after, Region.binds .any e = true → listed.getD e.on false = true := fun e he hb => by
    have h2 := (Array.all_eq_true_iff_forall_mem.1 hrd) e he
    simpa only [hb, Bool.not_true, Bool.false_or] using h2
   have hfree : ∀ x ∈ s1.map (Zj ops), zf5 R ops x (Zj ops i) = true := by
    intro x hx
    obtain ⟨j, hj, rfl⟩ := List.mem_map.1 hx
    have hp := hpair j hj
    simp only [Yx, Bool.and_eq_true, Bool.or_eq_true] at hp
    rcases hp.2 with h1 | h1
    ·exact h1
    ·exfalso
     have h2 := ahead listed hcl 4 i j hin hrd' h1
     have hju : j ∈ y5 ord listed := by rw [hs]; simp [hj]
     have h3 : listed.getD j true = false := by simpa using (List.mem_filter.1 hju).2
     have hsz : j < listed.size := by rw [hl]; exact hsub j (List.mem_filter.1 hju).1
     simp only [Array.getD, hsz, dite_true] at h3 h2
     rw [h3] at h2; cases h2
   rw [hs, List.map_append, List.map_cons] at h
   have h := z8o hK (Zj ops i) _ _ hfree a m h
   refine wpOp_mono ?_ (z1P hB (VG hin) h hw)
   rintro a' w' ⟨m', h3, h4⟩
   have hun := z3u hnd (fun j hj => by rw [hl]; exact hsub j hj) hs
   refine ih _ (by simp [hl]) ?_ ?_ a' m' w' ?_ h4
   ·rw [hun]; rw [hs] at hlen; simp at hlen ⊢; omega
   ·intro i' hi' hli e he hb
    have Yc : listed.getD e.on false = true := by
     by_cases hii : i' = i
     ·subst hii; exact hrd' e he hb
     ·refine hcl i' hi' ?_ e he hb
      rw [Vg listed (fun e => hii e.symm)] at hli; exact hli
    by_cases hei : i = e.on
    ·rw [← hei]
     have h5 : i < listed.size := by omega
     simp [Array.getD, h5]
    ·rw [Vg listed hei]; exact Yc
   ·rw [hun, List.map_append]; exact h3
theorem W8 {ord : List Nat} (h : ∀ i ∈ ord, i < ops.size) : y5 ord (Array.replicate ops.size false) = ord := by
 unfold y5
 refine List.filter_eq_self.2 fun i hi => ?_
 have := h i hi
 simp [Array.getD, this]
theorem Vn {ord : List Nat} (hok : wq R ops ord = true) : ∀ i ∈ ord, i < ops.size := fun i hi => by
 simp only [wq, Bool.and_eq_true, beq_iff_eq] at hok
 have := List.all_eq_true.1 hok.1.1.2 i hi
 simpa using this
theorem z2P : (List.range ops.size).map (Zj ops) = ops.toList := by
 refine List.ext_getElem (by simp) fun i h1 h2 => ?_
 have : i < ops.size := by simpa using h1
 simp [Zj, Array.getD, this]
def Sat (P : Program) (G : Mem) (c : Code) (Q : Exit → Act → Mem → Prop) (a : Act) (m : Mem) : Prop :=
 ∀ (B : Nat) (L : List Nat) (w0 w : World), B ≤ w0.heap.size → Holds G B L w0 m w → c.wp P (fun e a' w' => ∃ m', Q e a' m' ∧ Holds G B L w0 m' w') a w
def Pk (K : Act → Mem → Prop) : Act → Mem → Prop := fun a m => ∃ m', List.Perm m m' ∧ K a m'
theorem zj1 (K : Act → Mem → Prop) : Pcl (Pk K) := fun _ _ _ hp ⟨m1, h1, h2⟩ => ⟨m1, hp.symm.trans h1, h2⟩
theorem Holds.perm {B : Nat} {L : List Nat} {w0 w : World} {m m' : Mem} (h : Holds G B L w0 m w) (hp : List.Perm m m') : Holds G B L w0 m' w :=
 ⟨h.below, h.glob, h.globB, z0d hp h.mem, fun x hx => h.own x (hp.mem_iff.2 hx), ((hp.map (·.b)).nodup_iff).1 h.ids⟩
theorem zbU {id : Nat} {Q : Exit → Act → Mem → Prop} {a : Act} {m : Mem} (R : Reg) (ord : List Nat) (hm : P.follows .mixedOrders = true) (hok : wq R ops ord = true)
  (h : z8 P G R ops (Q .normal) (ord.map (Zj ops)) a m) : Sat P G (.region id ops true) Q a m := fun B L w0 w hB hw =>
 wp_region_any hm (z7W (K := Pk (Q .normal)) (zj1 _) hB hok (fun _ _ _ ⟨m', hp, h1⟩ h2 => ⟨m', h1, h2.perm hp⟩) ops.size _ (by simp) (by
  rw [W8 (Vn hok)]
  simp only [wq, Bool.and_eq_true, beq_iff_eq] at hok
  exact Nat.le_of_eq hok.1.1.1.1) (fun i hi h => by simp [Array.getD, hi] at h) a m _ (by rw [W8 (Vn hok)]; exact WS (fun _ m h => ⟨m, List.Perm.refl m, h⟩) _ h) hw.drawn)
theorem z4L {id : Nat} {Q : Exit → Act → Mem → Prop} {a : Act} {m : Mem} (R : Reg) (hm : P.follows .mixedOrders = true) (hok : wq R ops (List.range ops.size) = true)
  (h : z8 P G R ops (Q .normal) ops.toList a m) : Sat P G (.region id ops true) Q a m := zbU R _ hm hok (by rw [z2P]; exact h)
theorem z14 {K : Act → Mem → Prop} {Q : Exit → Act → World → Prop} {B : Nat} {L : List Nat} {w0 : World} (hB : B ≤ w0.heap.size)
  (hQ : ∀ a m w, K a m → Holds G B L w0 m w → Q .normal a w) : ∀ (l : List Nat), (∀ i ∈ l, i < ops.size) → ∀ (a : Act) (m : Mem) (w : World),
   z8 P G R ops K (l.map (Zj ops)) a m → Holds G B L w0 m w → wpOps P ops Q l a w
 | [], _, a, m, w, h, hw => hQ a m w h hw
 | i :: l, hl, a, m, w, h, hw => by
  rw [wpOps_cons]
  refine wpOp_mono ?_ (z1P hB (VG (hl i (by simp))) h hw)
  rintro a' w' ⟨m', h1, h2⟩
  exact z14 hB hQ l (fun j hj => hl j (by simp [hj])) a' m' w' h1 h2
theorem z2f {id : Nat} {Q : Exit → Act → Mem → Prop} {a : Act} {m : Mem} (R : Reg) (h : z8 P G R ops (Q .normal) ops.toList a m) : Sat P G (.region id ops false) Q a m := fun B L w0 w hB hw =>
 wp_region (z14 (R := R) (K := Q .normal) hB (fun a m w h1 h2 => ⟨m, h1, h2⟩) _ (fun i hi => by simpa using hi) a m w (by
  rw [z2P]; exact h) hw)
section
variable {Q : Exit → Act → Mem → Prop} {a : Act} {m : Mem}
theorem yG {c : Code} {Q' : Exit → Act → Mem → Prop} (h : Sat P G c Q a m) (hq : ∀ e a m, Q e a m → Q' e a m) : Sat P G c Q' a m := fun B L w0 w hB hw =>
 wp_mono (h B L w0 w hB hw) fun _ _ _ ⟨m', h1, h2⟩ => ⟨m', hq _ _ _ h1, h2⟩
theorem zdm (h : Q .normal a m) : Sat P G .skip Q a m := fun _ _ _ _ _ hw => wp_skip ⟨m, h, hw⟩
theorem ze3 {id : Nat} (h : Q (.exit id) a m) : Sat P G (.exit id) Q a m := fun _ _ _ _ _ hw => wp_exit ⟨m, h, hw⟩
theorem zig (h : Q .ret a m) : Sat P G .ret Q a m := fun _ _ _ _ _ hw => wp_ret ⟨m, h, hw⟩
def zin (next : Act → Mem → Prop) (Q : Exit → Act → Mem → Prop) : Exit → Act → Mem → Prop
 | .normal, a, m => next a m
 | e, a, m => Q e a m
theorem zho {x y : Code} (h : Sat P G x (zin (Sat P G y Q) Q) a m) : Sat P G (.seq x y) Q a m := fun B L w0 w hB hw =>
 wp_seq (wp_mono (h B L w0 w hB hw) fun e a' w' ⟨m', h1, h2⟩ => by
  cases e <;> first | exact h1 B L w0 w' hB h2 | exact ⟨m', h1, h2⟩)
theorem zfW {c : Operand} {x y : Code} {t : Bool} (hc : a.eval c = .bool t) (ht : t = true → Sat P G x Q a m) (hf : t = false → Sat P G y Q a m) : Sat P G (.cond c x y) Q a m :=
 fun B L w0 w hB hw => wp_cond_split hc (fun e => ht e B L w0 w hB hw) (fun e => hf e B L w0 w hB hw)
def z0Q (id : Nat) (Q : Exit → Act → Mem → Prop) : Exit → Act → Mem → Prop
 | .exit id', a, m => if id' = id then Q .normal a m else Q (.exit id') a m
 | e, a, m => Q e a m
theorem zbC {id : Nat} {c : Code} (h : Sat P G c (z0Q id Q) a m) : Sat P G (.block id c) Q a m := fun B L w0 w hB hw =>
 wp_block (wp_mono (h B L w0 w hB hw) fun e a' w' ⟨m', h1, h2⟩ => by
  cases e with
  | exit id' =>
   simp only [z0Q, Exit.inBlock] at h1 ⊢
   split
   ·rename_i he; rw [if_pos he] at h1; exact ⟨m', h1, h2⟩
   ·rename_i he; rw [if_neg he] at h1; exact ⟨m', h1, h2⟩
  | _ => exact ⟨m', h1, h2⟩)
theorem zeL {c : Code} (I : Nat → Act → Mem → Prop) {n : Nat} (h0 : I n a m)
  (round : ∀ n a m, I n a m → Sat P G c (zin (fun a' m' => ∃ n', n' < n ∧ I n' a' m') Q) a m) : Sat P G (.loop c) Q a m := by
 intro B L w0 w hB hw b k cs
 have key : ∀ n a m w, I n a m → Holds G B L w0 m w → ∃ e a' w', (∃ m', Q e a' m' ∧ Holds G B L w0 m' w') ∧ Arrives P (lone (b.at a (.code c :: .inLoop c :: k)) cs w) b k cs e a' w' := by
  intro n
  induction n using Nat.strongRecOn with
  | _ n ih =>
   intro a m w hI hw
   obtain ⟨e, a1, w1, ⟨m1, hq, hw1⟩, harr⟩ := round n a m hI B L w0 w hB hw b (.inLoop c :: k) cs
   cases e with
   | normal =>
    obtain ⟨n', hn', hI'⟩ := hq
    obtain ⟨e2, a2, w2, hq2, harr2⟩ := ih n' hn' a1 m1 w1 hI' hw1
    exact ⟨e2, a2, w2, hq2, .of_steps (Steps.trans harr (.one step_inLoop)) harr2⟩
   | exit id => exact ⟨_, a1, w1, ⟨m1, hq, hw1⟩, .pass (x := .inLoop c) rfl (fun _ _ => .inl (by simp)) harr⟩
   | goto l => exact ⟨_, a1, w1, ⟨m1, hq, hw1⟩, .pass (x := .inLoop c) rfl (fun _ _ => .inl (by simp)) harr⟩
   | ret => exact ⟨_, a1, w1, ⟨m1, hq, hw1⟩, .pass (x := .inLoop c) rfl (fun _ _ => .inl (by simp)) harr⟩
   | panic ch => exact ⟨_, a1, w1, ⟨m1, hq, hw1⟩, .pass (x := .inLoop c) rfl (fun _ _ => .inl (by simp)) harr⟩
   | outgrown => exact ⟨_, a1, w1, ⟨m1, hq, hw1⟩, .pass (x := .inLoop c) rfl (fun _ _ => .inl (by simp)) harr⟩
 obtain ⟨e, a', w', hq, harr⟩ := key n a m w h0 hw
 exact ⟨e, a', w', hq, .of_steps (.one step_loop) harr⟩
def Fn (P : Program) (G : Mem) (f : FuncId) (args : Array Value) (v : Value) : Prop :=
 ∀ w : World, MemR G w → Calls P f args w (fun e w' => e = .returned v ∧ Below w.heap.size w w')
def Fx (P : Program) (G l0 : Mem) (f : FuncId) (args : Array Value) (S : Value → Mem → Mem → Prop) : Prop :=
 ∀ w : World, MemR G w → MemIn l0 w → (l0.map (·.b)).Nodup → (∀ x ∈ G, x.b ∉ l0.map (·.b)) → Calls P f args w (fun e w' => ∃ v l1 nw, e = .returned v ∧ S v l1 nw ∧ Post l0 l1 nw w w')
def zly (P : Program) (fn : Func) (v : Value) : Exit → Act → Mem → Prop
 | .normal, a, m | .ret, a, m => a.defers = [] ∧ ∀ w, MemIn m w → (results fn a.tmps).run P w = .ok v w
 | _, _, _ => False
theorem zez {f : FuncId} {fn : Func} {c : Code} {args : Array Value} {v : Value} (hf : P.funcs[f]? = some fn) (hb : fn.body = some c)
  (h : Sat P G c (zly P fn v) { tmps := args ++ Array.replicate (fn.ntmps - args.size) undef, defers := [] } []) : Fn P G f args v := fun w hG =>
 calls_of_wp hf hb (wp_mono (h w.heap.size [] w w (Nat.le_refl _) ⟨Keep.refl _ _ _, hG, fun x hx => ⟨(hG x hx).1, by simp⟩, by simp [MemIn], by simp, by simp⟩) fun e a' w' ⟨m', h1, h2⟩ => by
  cases e with
  | normal => exact ⟨h1.1, v, h1.2 w' h2.mem, rfl, h2.below.below⟩
  | ret => exact ⟨h1.1, v, h1.2 w' h2.mem, rfl, h2.below.below⟩
  | exit id => exact h1
  | goto l => exact h1
  | panic ch => exact h1.elim
  | outgrown => exact h1.elim)
def zlw (P : Program) (fn : Func) (l0 : Mem) (S : Value → Mem → Mem → Prop) : Exit → Act → Mem → Prop
 | .normal, a, m | .ret, a, m => a.defers = [] ∧ ∃ v l1 nw, S v l1 nw ∧ (nw.map (·.b)).Nodup ∧ (∀ x ∈ nw, x.b ∉ l0.map (·.b)) ∧ (∀ x ∈ l1 ++ nw, x ∈ m) ∧ ∀ w, MemIn m w → (results fn a.tmps).run P w = .ok v w
 | _, _, _ => False
theorem z0P {f : FuncId} {fn : Func} {c : Code} {args : Array Value} {l0 : Mem} {S : Value → Mem → Mem → Prop} (hf : P.funcs[f]? = some fn) (hb : fn.body = some c)
  (h : Sat P G c (zlw P fn l0 S) { tmps := args ++ Array.replicate (fn.ntmps - args.size) undef, defers := [] } l0) : Fx P G l0 f args S := fun w hG hl0 hnd hGl =>
 calls_of_wp hf hb (wp_mono (h w.heap.size (l0.map (·.b)) w w (Nat.le_refl _) ⟨Keep.refl _ _ _, hG, fun x hx => ⟨(hG x hx).1, hGl x hx⟩, hl0, fun x hx => .inr (List.mem_map.2 ⟨x, hx, rfl⟩), hnd⟩) fun e a' w' ⟨m', h1, h2⟩ => by
  have key : (a'.defers = [] ∧ ∃ v l1 nw, S v l1 nw ∧ (nw.map (·.b)).Nodup ∧ (∀ x ∈ nw, x.b ∉ l0.map (·.b)) ∧ (∀ x ∈ l1 ++ nw, x ∈ m') ∧ ∀ w, MemIn m' w → (results fn a'.tmps).run P w = .ok v w) →
    a'.defers = [] ∧ ∃ v, (results fn a'.tmps).run P w' = .ok v w' ∧ ∃ v' l1 nw, (Ending.returned v) = .returned v' ∧ S v' l1 nw ∧ Post l0 l1 nw w w' := fun ⟨hd, v, l1, nw, q0, q2, q5, q3, q4⟩ =>
   ⟨hd, v, q4 w' h2.mem, v, l1, nw, rfl, q0, h2.below, fun x hx => h2.mem x (q3 x (by simp [hx])), fun x hx => h2.mem x (q3 x (by simp [hx])), q2, fun x hx => (h2.own x (q3 x (by simp [hx]))).resolve_right (q5 _ hx)⟩
  cases e with
  | normal => exact key h1
  | ret => exact key h1
  | exit id => exact h1
  | goto l => exact h1
  | panic ch => exact h1.elim
  | outgrown => exact h1.elim)
section
variable {K : Act → Mem → Prop} {rest : List Oper} {d : Option Tmp} {ty : TypeId} {pos : String} {aft : Array Edge}
theorem zK {o : Oper} {v : Value} (hg : o.guard = none) (hc : cls R o = 0) (hv : ∀ w, (execOp a.eval o).run P w = .ok (.value v) w) (h : z8 P G R ops K rest (a.put o.dst v) m) : z8 P G R ops K (o :: rest) a m :=
 .inr ⟨by simp [Region.wanted, hg], by rw [hc]; exact ⟨v, hv, h⟩⟩
theorem zgg {x : Operand} {v : Value} (hx : a.eval x = v) (h : z8 P G R ops K rest (a.put d v) m) : z8 P G R ops K (⟨d, .move x, ty, pos, aft, none⟩ :: rest) a m :=
 zK rfl rfl (fun w => by subst hx; rfl) h
theorem zaO {x : Operand} {v : Value} (hx : a.eval x = v) (h : z8 P G R ops K rest (a.put d v) m) : z8 P G R ops K (⟨d, .assign x, ty, pos, aft, none⟩ :: rest) a m :=
 zK rfl rfl (fun w => by subst hx; rfl) h
theorem z6x {x : Operand} {i : Nat} {vs : Array Value} {v : Value} (hx : a.eval x = .tuple vs) (hv : vs[i]? = some v) (h : z8 P G R ops K rest (a.put d v) m) : z8 P G R ops K (⟨d, .extract x i, ty, pos, aft, none⟩ :: rest) a m :=
 zK (v := v) rfl rfl (fun w => by simp [execOp, hx, Instr.extract, hv]) h
end
end
end
end Go.Proofs.YtlidhfijmcelpaaGreatDoor
