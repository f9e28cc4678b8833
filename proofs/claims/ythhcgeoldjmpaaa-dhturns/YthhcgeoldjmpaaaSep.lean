/-
  A small separation logic over the walk's rules: a call's own blocks are a list, a region that draws its order is walked once, in the order of the text.
-/
import Derived.Orders
import Derived.Below
import Derived.Laws.Sem
import Derived.Laws.World
namespace Go.Proofs.Ythhcgeoldjmpaaa
open Go Go.RowKit

/-- A block of cells: its number, what it holds, its element type. -/
structure Blk where
  b : Nat
  c : Array Value
  t : TypeId

abbrev Mem := List Blk

def In (w : World) (x : Blk) : Prop := w.heap[x.b]? = some (.cells x.c x.t)
def MemIn (m : Mem) (w : World) : Prop := ∀ x ∈ m, In w x

/-- The block's cells can be read (whether it may be written is not said). -/
def RIn (w : World) (x : Blk) : Prop := x.b < w.heap.size ∧ ∀ o : Nat, o < x.c.size → w.cell? ⟨x.b, o, none⟩ = x.c[o]?
def MemR (m : Mem) (w : World) : Prop := ∀ x ∈ m, RIn w x

structure Holds (G : Mem) (B : Nat) (w0 : World) (m : Mem) (w : World) : Prop where
  below : Below B w0 w
  glob : MemR G w
  globB : ∀ x ∈ G, x.b < B
  mem : MemIn m w
  own : ∀ x ∈ m, B ≤ x.b
  ids : (m.map (·.b)).Nodup

def setBlk (w : World) (x : Blk) : World := { w with heap := w.heap.setIfInBounds x.b (.cells x.c x.t) }

/-- The operation gives v and leaves the world, but for new blocks. -/
def Yl (P : Program) (o : Oper) (a : Act) (w : World) (v : Value) : Prop :=
  (execOp a.eval o).run P w = .ok (.value v) w ∨
  ∃ f args, (execOp a.eval o).run P w = .ok (.enter f args) w ∧ Calls P f args w (fun e w' => e = .returned v ∧ Below w.heap.size w w')

/-- An operation's kind: 0: it reckons alone; 1: it reads, or calls; 2: it makes a block; 3: it stores. -/
def cls (o : Oper) : Fin 4 :=
  match o.op with
  | .load .. | .call .. => 1
  | .alloc .. | .box .. => 2
  | .store .. => 3
  | _ => 0

def ptr (r : Nat) : Value := .pointer (some ⟨r, 0, none⟩)

def coreM (P : Program) (G : Mem) (o : Oper) (K : Act → Mem → Prop) (a : Act) (m : Mem) : Fin 4 → Prop
  | 0 => ∃ v, (∀ w, (execOp a.eval o).run P w = .ok (.value v) w) ∧ K (a.put o.dst v) m
  | 1 => ∃ v, (∀ w, MemR G w → MemIn m w → Yl P o a w v) ∧ K (a.put o.dst v) m
  | 2 => ∃ c t, (∀ w, (execOp a.eval o).run P w = .ok (.value (ptr w.heap.size)) (w.alloc (.cells c t))) ∧
      ∀ r, (∀ x ∈ m, x.b ≠ r) → K (a.put o.dst (ptr r)) (m ++ [⟨r, c, t⟩])
  | 3 => ∃ l1 x l2 c', m = l1 ++ x :: l2 ∧ (∀ w, In w x → (execOp a.eval o).run P w = .ok .skip (setBlk w ⟨x.b, c', x.t⟩)) ∧
      K (a.put o.dst undef) (l1 ++ ⟨x.b, c', x.t⟩ :: l2)

def opM (P : Program) (G : Mem) (ops : Array Oper) (o : Oper) (K : Act → Mem → Prop) (a : Act) (m : Mem) : Prop :=
  (Region.wanted o (yielded ops a.tmps) = false ∧ K (a.put o.dst undef) m) ∨
  (Region.wanted o (yielded ops a.tmps) = true ∧ coreM P G o K a m (cls o))

def opsM (P : Program) (G : Mem) (ops : Array Oper) (K : Act → Mem → Prop) : List Oper → Act → Mem → Prop
  | [], a, m => K a m
  | o :: rest, a, m => opM P G ops o (opsM P G ops K rest) a m

section
variable {P : Program} {G : Mem} {ops : Array Oper}

theorem coreM_mono {o : Oper} {K K' : Act → Mem → Prop} (h : ∀ a m, K a m → K' a m) {a : Act} {m : Mem} {k : Fin 4} (hh : coreM P G o K a m k) : coreM P G o K' a m k := by
  match k with
  | 0 => obtain ⟨v, h1, h2⟩ := hh; exact ⟨v, h1, h _ _ h2⟩
  | 1 => obtain ⟨v, h1, h2⟩ := hh; exact ⟨v, h1, h _ _ h2⟩
  | 2 => obtain ⟨c, t, h1, h2⟩ := hh; exact ⟨c, t, h1, fun r hr => h _ _ (h2 r hr)⟩
  | 3 => obtain ⟨l1, x, l2, c', h0, h1, h2⟩ := hh; exact ⟨l1, x, l2, c', h0, h1, h _ _ h2⟩

theorem opM_mono {o : Oper} {K K' : Act → Mem → Prop} (h : ∀ a m, K a m → K' a m) {a : Act} {m : Mem} (hh : opM P G ops o K a m) : opM P G ops o K' a m :=
  hh.imp (fun ⟨x, y⟩ => ⟨x, h _ _ y⟩) (fun ⟨x, y⟩ => ⟨x, coreM_mono h y⟩)

theorem opsM_mono {K K' : Act → Mem → Prop} (h : ∀ a m, K a m → K' a m) : ∀ (l : List Oper) {a : Act} {m : Mem}, opsM P G ops K l a m → opsM P G ops K' l a m
  | [], _, _, hh => h _ _ hh
  | _ :: l, _, _, hh => opM_mono (fun _ _ => opsM_mono h l) hh

theorem opsM_append {K : Act → Mem → Prop} : ∀ (l l' : List Oper) (a : Act) (m : Mem), opsM P G ops K (l ++ l') a m = opsM P G ops (opsM P G ops K l') l a m
  | [], _, _, _ => rfl
  | o :: l, l', a, m => by
    simp only [List.cons_append, opsM]
    congr 1
    funext a m
    exact opsM_append l l' a m

/-! ### What an operation does to the world -/
theorem In.frozen {w : World} {x : Blk} (h : In w x) (o : Nat) : w.frozen? ⟨x.b, o, none⟩ = false := by
  unfold In at h; simp [World.frozen?, h]

theorem In.cell {w : World} {x : Blk} (h : In w x) (o : Nat) : w.cell? ⟨x.b, o, none⟩ = x.c[o]? := by
  unfold In at h; simp [World.cell?, h]

theorem In.lt {w : World} {x : Blk} (h : In w x) : x.b < w.heap.size := by
  unfold In at h
  exact (Array.getElem?_eq_some_iff.1 h).1

theorem Below.setBlk' {B : Nat} {w0 w : World} (h : Below B w0 w) (x : Blk) (hx : B ≤ x.b) : Below B w0 (setBlk w x) :=
  h.trans ⟨rfl, rfl, rfl, by simp [setBlk], fun k hk => by
    show (w.heap.setIfInBounds x.b _)[k]? = _
    rw [Array.getElem?_setIfInBounds_ne (by omega)]⟩

theorem Holds.drawn {B : Nat} {w0 w : World} {m : Mem} (h : Holds G B w0 m w) : Holds G B w0 m { w with drawn := w.drawn + 1 } :=
  ⟨h.below.drew, h.glob, h.globB, h.mem, h.own, h.ids⟩

theorem Holds.lt {B : Nat} {w0 w : World} {m : Mem} (h : Holds G B w0 m w) {x : Blk} (hx : x ∈ m) : x.b < w.heap.size := (h.mem x hx).lt

theorem Holds.bB {B : Nat} {w0 w : World} {m : Mem} (h : Holds G B w0 m w) (hB : B ≤ w0.heap.size) : B ≤ w.heap.size := Nat.le_trans hB h.below.size

theorem In.read {w : World} {x : Blk} (h : In w x) : RIn w x := ⟨h.lt, fun o _ => h.cell o⟩
theorem RIn.of_block {w w' : World} {x : Blk} (h : RIn w x) (hs : w.heap.size ≤ w'.heap.size) (hb : w'.heap[x.b]? = w.heap[x.b]?) : RIn w' x :=
  ⟨Nat.lt_of_lt_of_le h.1 hs, fun o ho => by rw [← h.2 o ho]; exact World.cell?_of_block (w := w) hb⟩
theorem MemR.later {m : Mem} {w w' : World} (h : MemR m w) (hb : Below w.heap.size w w') : MemR m w' := fun x hx => (h x hx).of_block hb.size (hb.block x.b (h x hx).1)
theorem MemIn.later {m : Mem} {w w' : World} (h : MemIn m w) (hb : Below w.heap.size w w') : MemIn m w' := fun x hx => by
  have := h x hx
  unfold In
  rw [hb.block x.b this.lt]
  exact this

theorem Holds.later {B : Nat} {w0 w w' : World} {m : Mem} (h : Holds G B w0 m w) (hB : B ≤ w0.heap.size) (hb : Below w.heap.size w w') : Holds G B w0 m w' :=
  ⟨h.below.trans (hb.mono (h.bB hB)), h.glob.later hb, h.globB, h.mem.later hb, h.own, h.ids⟩

theorem Holds.alloc {B : Nat} {w0 w : World} {m : Mem} (h : Holds G B w0 m w) (hB : B ≤ w0.heap.size) (c : Array Value) (t : TypeId) :
    (∀ x ∈ m, x.b ≠ w.heap.size) ∧ Holds G B w0 (m ++ [⟨w.heap.size, c, t⟩]) (w.alloc (.cells c t)) := by
  have hne : ∀ x ∈ m, x.b ≠ w.heap.size := fun x hx e => by have := h.lt hx; omega
  have hb : Below w.heap.size w (w.alloc (.cells c t)) := (Below.refl _ _).alloc (Nat.le_refl _) _
  refine ⟨hne, (h.later hB hb).below, (h.later hB hb).glob, h.globB, fun x hx => ?_, fun x hx => ?_, ?_⟩
  · rcases List.mem_append.1 hx with hx | hx
    · exact (h.later hB hb).mem x hx
    · simp at hx; subst hx
      show (w.heap.push _)[w.heap.size]? = _
      simp
  · rcases List.mem_append.1 hx with hx | hx
    · exact h.own x hx
    · simp at hx; subst hx; exact h.bB hB
  · rw [List.map_append, List.nodup_append]
    refine ⟨h.ids, by simp, ?_⟩
    intro a ha b hb
    simp at ha hb
    obtain ⟨x, hx, rfl⟩ := ha
    subst hb
    exact hne x hx

theorem Holds.store {B : Nat} {w0 w : World} {l1 l2 : Mem} {x : Blk} (h : Holds G B w0 (l1 ++ x :: l2) w) (c' : Array Value) :
    Holds G B w0 (l1 ++ ⟨x.b, c', x.t⟩ :: l2) (setBlk w ⟨x.b, c', x.t⟩) := by
  have hx : x ∈ l1 ++ x :: l2 := by simp
  have hlt := h.lt hx
  have hB := h.own x hx
  have keep : ∀ y : Blk, y.b ≠ x.b → In w y → In (setBlk w ⟨x.b, c', x.t⟩) y := fun y hy hi => by
    unfold In setBlk at *
    rw [Array.getElem?_setIfInBounds_ne (by simpa using fun e => hy e.symm)]
    exact hi
  have hn := h.ids
  rw [List.map_append, List.map_cons, List.nodup_append] at hn
  obtain ⟨n1, n2, n3⟩ := hn
  rw [List.nodup_cons] at n2
  refine ⟨Below.setBlk' h.below _ hB, fun y hy => (h.glob y hy).of_block (by simp [setBlk]) (by
    have hyB := h.globB y hy
    show (w.heap.setIfInBounds x.b _)[y.b]? = _
    rw [Array.getElem?_setIfInBounds_ne (by omega)]), h.globB, fun y hy => ?_, fun y hy => ?_, ?_⟩
  · rcases List.mem_append.1 hy with hy | hy
    · refine keep y (fun e => ?_) (h.mem y (by simp [hy]))
      exact n3 y.b (List.mem_map.2 ⟨y, hy, rfl⟩) x.b (by simp) e
    · rcases List.mem_cons.1 hy with hy | hy
      · subst hy
        unfold In setBlk
        simp only
        rw [Array.getElem?_setIfInBounds_self_of_lt hlt]
      · refine keep y (fun e => ?_) (h.mem y (by simp [hy]))
        exact n2.1 (e ▸ List.mem_map.2 ⟨y, hy, rfl⟩)
  · rcases List.mem_append.1 hy with hy | hy
    · exact h.own y (by simp [hy])
    · rcases List.mem_cons.1 hy with hy | hy
      · subst hy; exact hB
      · exact h.own y (by simp [hy])
  · have := h.ids; simpa using this

theorem opM_sound {Q : Exit → Act → World → Prop} {B : Nat} {w0 : World} (hB : B ≤ w0.heap.size) {i : Nat} {o : Oper} (hi : ops[i]? = some o) {K : Act → Mem → Prop} {a : Act} {m : Mem} {w : World}
    (h : opM P G ops o K a m) (hw : Holds G B w0 m w) : wpOp P ops Q i (fun a' w' => ∃ m', K a' m' ∧ Holds G B w0 m' w') a w := by
  unfold wpOp
  simp only [hi]
  rcases h with ⟨hg, h⟩ | ⟨hg, h⟩
  · rw [hg]; exact ⟨m, h, hw⟩
  · rw [hg]
    simp only [if_true]
    refine .inl ?_
    unfold Oper.wp
    generalize cls o = k at h
    match k with
    | 0 => obtain ⟨v, h1, h2⟩ := h; rw [h1 w]; exact ⟨m, h2, hw⟩
    | 1 =>
      obtain ⟨v, h1, h2⟩ := h
      rcases h1 w hw.glob hw.mem with h1 | ⟨f, args, h1, hc⟩
      · rw [h1]; exact ⟨m, h2, hw⟩
      · rw [h1]
        simp only [Oper.upon]
        refine hc.mono ?_
        rintro e w' ⟨rfl, hb⟩
        exact ⟨m, h2, hw.later hB hb⟩
    | 2 =>
      obtain ⟨c, t, h1, h2⟩ := h
      rw [h1 w]
      obtain ⟨n1, n2⟩ := hw.alloc hB c t
      exact ⟨_, h2 _ n1, n2⟩
    | 3 =>
      obtain ⟨l1, x, l2, c', rfl, h1, h2⟩ := h
      rw [h1 w (hw.mem x (by simp))]
      exact ⟨_, h2, hw.store c'⟩

/-! ### Two operations that do not meddle change places -/
def mild (o : Oper) : Bool :=
  match o.op with
  | .select .. => false
  | _ => true

theorem mild_spec {o : Oper} (h : mild o = true) : ∀ cs b, o.op ≠ .select cs b := fun cs b e => by simp [mild, e] at h

/-- May x, y (in this order) change places? -/
def free (ops : Array Oper) (x y : Oper) : Bool :=
  mild x && mild y && x.apart ops y && (cls x == 0 || cls y == 0 || (cls x == 1 && (cls y == 1 || cls y == 2)) || (cls x == 2 && cls y == 2))

theorem exec_put {o : Oper} (hs : mild o = true) (a : Act) (d : Option Tmp) (v : Value) (h : ∀ e, d = some e → e ∉ o.looksAt ops) :
    execOp (a.put d v).eval o = execOp a.eval o := execOp_put (ops := ops) o (mild_spec hs) a d v h

theorem coreM_put {o : Oper} (hs : mild o = true) {K : Act → Mem → Prop} {a : Act} {m : Mem} {d : Option Tmp} {v : Value} {k : Fin 4} (h : ∀ e, d = some e → e ∉ o.looksAt ops)
    (hne : ∀ e, d = some e → o.dst ≠ some e) (hh : coreM P G o K (a.put d v) m k) : coreM P G o (fun a m => K (a.put d v) m) a m k := by
  have hcomm : ∀ u, (a.put d v).put o.dst u = (a.put o.dst u).put d v := fun u => Act.put_comm a v u hne
  match k with
  | 0 => obtain ⟨u, h1, h2⟩ := hh; rw [exec_put (ops := ops) hs a d v h] at h1; rw [hcomm] at h2; exact ⟨u, h1, h2⟩
  | 1 =>
    obtain ⟨u, h1, h2⟩ := hh
    rw [hcomm] at h2
    refine ⟨u, fun w hw1 hw2 => ?_, h2⟩
    have := h1 w hw1 hw2
    unfold Yl at *
    rw [exec_put (ops := ops) hs a d v h] at this
    exact this
  | 2 => obtain ⟨c, t, h1, h2⟩ := hh; rw [exec_put (ops := ops) hs a d v h] at h1; exact ⟨c, t, h1, fun r hr => by have := h2 r hr; rw [hcomm] at this; exact this⟩
  | 3 => obtain ⟨l1, x, l2, c', h0, h1, h2⟩ := hh; rw [exec_put (ops := ops) hs a d v h] at h1; rw [hcomm] at h2; exact ⟨l1, x, l2, c', h0, h1, h2⟩

theorem opM_put {o : Oper} (hs : mild o = true) {K : Act → Mem → Prop} {a : Act} {m : Mem} {d : Option Tmp} {v : Value} (h : ∀ e, d = some e → e ∉ o.looksAt ops)
    (hne : ∀ e, d = some e → o.dst ≠ some e) (hh : opM P G ops o K (a.put d v) m) : opM P G ops o (fun a m => K (a.put d v) m) a m := by
  unfold opM at *
  rw [wanted_put o a d v h] at hh
  rcases hh with ⟨h1, h2⟩ | ⟨h1, h2⟩
  · rw [Act.put_comm a v _ hne] at h2; exact .inl ⟨h1, h2⟩
  · exact .inr ⟨h1, coreM_put (ops := ops) hs h hne h2⟩

/-- What an operation of kind n, or one that is not wanted, gives: whatever else has been done. -/
theorem opM_n {x : Oper} (hx : cls x = 0) {K : Act → Mem → Prop} {a : Act} {m : Mem} : opM P G ops x K a m ↔ ∃ v, Yields P ops x v a ∧ K (a.put x.dst v) m := by
  unfold opM Yields
  rw [hx]
  constructor
  · rintro (⟨h1, h2⟩ | ⟨h1, v, h2, h3⟩)
    · exact ⟨undef, .inr ⟨h1, rfl⟩, h2⟩
    · exact ⟨v, .inl ⟨h1, h2⟩, h3⟩
  · rintro ⟨v, (⟨h1, h2⟩ | ⟨h1, rfl⟩), h3⟩
    · exact .inr ⟨h1, v, h2, h3⟩
    · exact .inl ⟨h1, h3⟩

theorem fresh_of (m : Mem) : ∃ r, ∀ x ∈ m, x.b ≠ r := by
  have : ∃ r, ∀ x ∈ m, x.b < r := by
    induction m with
    | nil => exact ⟨0, by simp⟩
    | cons y m ih =>
      obtain ⟨r, hr⟩ := ih
      refine ⟨r + y.b + 1, fun x hx => ?_⟩
      rcases List.mem_cons.1 hx with rfl | hx
      · omega
      · have := hr x hx; omega
  obtain ⟨r, hr⟩ := this
  exact ⟨r, fun x hx e => by have := hr x hx; omega⟩

theorem yields_one {o : Oper} {v u : Value} {a : Act} (h : Yields P ops o v a) (h' : Yields P ops o u a) : v = u := by
  rcases h with ⟨h1, h2⟩ | ⟨h1, rfl⟩ <;> rcases h' with ⟨h3, h4⟩ | ⟨h3, rfl⟩
  · have := (h2 default).symm.trans (h4 default); injection this with e _; injection e
  · rw [h1] at h3; cases h3
  · rw [h1] at h3; cases h3
  · rfl

/-- K does not look at the order of the blocks. -/
def Pcl (K : Act → Mem → Prop) : Prop := ∀ a m m', List.Perm m m' → K a m → K a m'

theorem memIn_perm {m m' : Mem} (hp : List.Perm m m') {w : World} (h : MemIn m w) : MemIn m' w := fun x hx => h x (hp.mem_iff.2 hx)

theorem pcl_op {o : Oper} {K : Act → Mem → Prop} (hK : Pcl K) : Pcl (opM P G ops o K) := by
  intro a m m' hp h
  rcases h with ⟨h1, h2⟩ | ⟨h1, h2⟩
  · exact .inl ⟨h1, hK _ _ _ hp h2⟩
  · refine .inr ⟨h1, ?_⟩
    generalize cls o = k at h2
    match k with
    | 0 => obtain ⟨v, q1, q2⟩ := h2; exact ⟨v, q1, hK _ _ _ hp q2⟩
    | 1 => obtain ⟨v, q1, q2⟩ := h2; exact ⟨v, fun w hw1 hw2 => q1 w hw1 (memIn_perm hp.symm hw2), hK _ _ _ hp q2⟩
    | 2 => obtain ⟨c, t, q1, q2⟩ := h2; exact ⟨c, t, q1, fun r hr => hK _ _ _ (hp.append_right _) (q2 r (fun x hx => hr x (hp.mem_iff.1 hx)))⟩
    | 3 =>
      obtain ⟨l1, x, l2, c', rfl, q1, q2⟩ := h2
      have hx : x ∈ m' := hp.mem_iff.1 (by simp)
      obtain ⟨k1, k2, rfl⟩ := List.append_of_mem hx
      have hq : List.Perm (l1 ++ l2) (k1 ++ k2) := by
        have h1 : List.Perm (x :: (l1 ++ l2)) (x :: (k1 ++ k2)) := (List.perm_middle.symm.trans hp).trans List.perm_middle
        exact h1.cons_inv
      refine ⟨k1, x, k2, c', rfl, q1, hK _ _ _ ?_ q2⟩
      exact (List.perm_middle.trans (List.Perm.cons _ hq)).trans List.perm_middle.symm

theorem pcl_ops {K : Act → Mem → Prop} (hK : Pcl K) : ∀ l, Pcl (opsM P G ops K l)
  | [] => hK
  | _ :: l => pcl_op (pcl_ops hK l)

theorem swap {x y : Oper} (hf : free ops x y = true) {K : Act → Mem → Prop} (hK : Pcl K) {a : Act} {m : Mem} (h : opM P G ops x (opM P G ops y K) a m) : opM P G ops y (opM P G ops x K) a m := by
  simp only [free, Bool.and_eq_true, Bool.or_eq_true, beq_iff_eq] at hf
  obtain ⟨⟨⟨hx, hy⟩, hap⟩, hk⟩ := hf
  obtain ⟨p1, p2, p3⟩ := Oper.apart_spec hap
  have p2' : ∀ e, y.dst = some e → x.dst ≠ some e := fun e he hx' => p2 e hx' he
  -- what x gives, kept over y's result
  have keepY : ∀ (a : Act) (u v : Value), Yields P ops y v a → Yields P ops y v (a.put x.dst u) := fun a u v hy' =>
    hy'.of_same (exec_put (ops := ops) hy a x.dst u p1) (wanted_put y a x.dst u p1)
  have backY : ∀ (a : Act) (u v : Value), Yields P ops y v (a.put x.dst u) → Yields P ops y v a := fun a u v hy' =>
    hy'.of_same (exec_put (ops := ops) hy a x.dst u p1).symm (wanted_put y a x.dst u p1).symm
  rcases hk with ((hk | hk) | ⟨hkx, hky⟩) | ⟨hkx, hky⟩
  · -- x is of kind n
    obtain ⟨v, hv, h⟩ := (opM_n hk).1 h
    have h := opM_put hy p1 p2 h
    -- behind y x gives v still
    have key : ∀ a' m', Yields P ops x v a' ∧ K (a'.put x.dst v) m' → opM P G ops x K a' m' := fun a' m' ⟨q1, q2⟩ => (opM_n hk).2 ⟨v, q1, q2⟩
    refine opM_mono key ?_
    have keepX : ∀ (u : Value), Yields P ops x v (a.put y.dst u) := fun u =>
      hv.of_same (exec_put (ops := ops) hx a y.dst u p3) (wanted_put x a y.dst u p3)
    unfold opM at h ⊢
    rcases h with ⟨h1, h2⟩ | ⟨h1, h2⟩
    · exact .inl ⟨h1, keepX _, h2⟩
    · refine .inr ⟨h1, ?_⟩
      generalize cls y = k at h2
      match k with
      | 0 => obtain ⟨u, q1, q2⟩ := h2; exact ⟨u, q1, keepX _, q2⟩
      | 1 => obtain ⟨u, q1, q2⟩ := h2; exact ⟨u, q1, keepX _, q2⟩
      | 2 => obtain ⟨c, t, q1, q2⟩ := h2; exact ⟨c, t, q1, fun r hr => ⟨keepX _, q2 r hr⟩⟩
      | 3 => obtain ⟨l1, z, l2, c', q0, q1, q2⟩ := h2; exact ⟨l1, z, l2, c', q0, q1, keepX _, q2⟩
  · -- y is of kind n
    have step : ∀ (a' : Act) (m' : Mem) (u : Value), opM P G ops y K (a'.put x.dst u) m' → ∃ v, Yields P ops y v a' ∧ K ((a'.put y.dst v).put x.dst u) m' := fun a' m' u h' => by
      obtain ⟨v, q1, q2⟩ := (opM_n hk).1 h'
      rw [Act.put_comm a' u v p2] at q2
      exact ⟨v, backY _ _ _ q1, q2⟩
    refine (opM_n hk).2 ?_
    unfold opM at h
    rcases h with ⟨h1, h2⟩ | ⟨h1, h2⟩
    · obtain ⟨v, q1, q2⟩ := step a m undef h2
      exact ⟨v, q1, .inl ⟨by rw [wanted_put x a y.dst v p3]; exact h1, q2⟩⟩
    · have hw : ∀ v, Region.wanted x (yielded ops (a.put y.dst v).tmps) = true := fun v => by rw [wanted_put x a y.dst v p3]; exact h1
      have he : ∀ v, execOp (a.put y.dst v).eval x = execOp a.eval x := fun v => exec_put (ops := ops) hx a y.dst v p3
      unfold opM
      generalize cls x = k at h2
      match k with
      | 0 =>
        obtain ⟨u, r1, r2⟩ := h2
        obtain ⟨v, q1, q2⟩ := step a m u r2
        exact ⟨v, q1, .inr ⟨hw v, u, by rw [he v]; exact r1, q2⟩⟩
      | 1 =>
        obtain ⟨u, r1, r2⟩ := h2
        obtain ⟨v, q1, q2⟩ := step a m u r2
        exact ⟨v, q1, .inr ⟨hw v, u, fun w hw1 hw2 => by have := r1 w hw1 hw2; unfold Yl at *; rw [he v]; exact this, q2⟩⟩
      | 2 =>
        obtain ⟨c, t, r1, r2⟩ := h2
        obtain ⟨r0, hr0⟩ := fresh_of m
        obtain ⟨v, q1, _⟩ := step a _ _ (r2 r0 hr0)
        refine ⟨v, q1, .inr ⟨hw v, c, t, by rw [he v]; exact r1, fun r hr => ?_⟩⟩
        obtain ⟨v', q1', q2'⟩ := step a _ _ (r2 r hr)
        rw [yields_one q1 q1']
        exact q2'
      | 3 =>
        obtain ⟨l1, z, l2, c', r0, r1, r2⟩ := h2
        obtain ⟨v, q1, q2⟩ := step a _ undef r2
        exact ⟨v, q1, .inr ⟨hw v, l1, z, l2, c', r0, by rw [he v]; exact r1, q2⟩⟩
  · -- x reads, y reads or makes a block
    have ex : ∀ v, execOp (a.put y.dst v).eval x = execOp a.eval x := fun v => exec_put (ops := ops) hx a y.dst v p3
    have wx : ∀ v, Region.wanted x (yielded ops (a.put y.dst v).tmps) = Region.wanted x (yielded ops a.tmps) := fun v => wanted_put x a y.dst v p3
    -- x's step, with what it gives
    have hx' : ∃ u, ((Region.wanted x (yielded ops a.tmps) = false ∧ u = undef) ∨ (Region.wanted x (yielded ops a.tmps) = true ∧ ∀ w, MemR G w → MemIn m w → Yl P x a w u)) ∧ opM P G ops y K (a.put x.dst u) m := by
      unfold opM at h
      rw [hkx] at h
      rcases h with ⟨h1, h2⟩ | ⟨h1, u, h2, h3⟩
      · exact ⟨undef, .inl ⟨h1, rfl⟩, h2⟩
      · exact ⟨u, .inr ⟨h1, h2⟩, h3⟩
    obtain ⟨u, hu, h⟩ := hx'
    have h := opM_put hy p1 p2 h
    have back : ∀ v m', (∀ w, MemIn m' w → MemIn m w) → K ((a.put y.dst v).put x.dst u) m' → opM P G ops x K (a.put y.dst v) m' := fun v m' e hK => by
      unfold opM
      rw [hkx, wx v]
      rcases hu with ⟨h1, rfl⟩ | ⟨h1, h2⟩
      · exact .inl ⟨h1, hK⟩
      · exact .inr ⟨h1, u, fun w hw1 hw2 => by have := h2 w hw1 (e w hw2); unfold Yl at *; rw [ex v]; exact this, hK⟩
    unfold opM at h
    rcases hky with hky | hky
    · rw [hky] at h
      rcases h with ⟨h1, h2⟩ | ⟨h1, v, h2, h3⟩
      · exact .inl ⟨h1, back _ _ (fun _ h => h) h2⟩
      · exact .inr ⟨h1, by rw [hky]; exact ⟨v, h2, back _ _ (fun _ h => h) h3⟩⟩
    · rw [hky] at h
      rcases h with ⟨h1, h2⟩ | ⟨h1, c, t, h2, h3⟩
      · exact .inl ⟨h1, back _ _ (fun _ h => h) h2⟩
      · exact .inr ⟨h1, by rw [hky]; exact ⟨c, t, h2, fun r hr => back _ _ (fun w hw z hz => hw z (by simp [hz])) (h3 r hr)⟩⟩

  · -- both make a block
    have ex : ∀ v, execOp (a.put y.dst v).eval x = execOp a.eval x := fun v => exec_put (ops := ops) hx a y.dst v p3
    have wx : ∀ v, Region.wanted x (yielded ops (a.put y.dst v).tmps) = Region.wanted x (yielded ops a.tmps) := fun v => wanted_put x a y.dst v p3
    have ey : ∀ v, execOp (a.put x.dst v).eval y = execOp a.eval y := fun v => exec_put (ops := ops) hy a x.dst v p1
    have wy : ∀ v, Region.wanted y (yielded ops (a.put x.dst v).tmps) = Region.wanted y (yielded ops a.tmps) := fun v => wanted_put y a x.dst v p1
    have cm : ∀ v v', (a.put x.dst v).put y.dst v' = (a.put y.dst v').put x.dst v := fun v v' => Act.put_comm a v v' p2
    unfold opM at h ⊢
    simp only [hkx, hky, wx]
    simp only [hkx, hky, wy] at h
    rcases h with ⟨h1, ⟨h2, h3⟩ | ⟨h2, c2, t2, h3, h4⟩⟩ | ⟨h1, c1, t1, h5, h6⟩
    · rw [cm] at h3; exact .inl ⟨h2, .inl ⟨h1, h3⟩⟩
    · refine .inr ⟨h2, c2, t2, by simp only [ey] at h3; exact h3, fun r hr => .inl ⟨(wx _).trans h1, ?_⟩⟩
      have := h4 r hr; rw [cm] at this; exact this
    · -- the first is wanted
      obtain ⟨r0, hr0⟩ := fresh_of m
      rcases h6 r0 hr0 with ⟨h2, _⟩ | ⟨h2, c2, t2, h3, _⟩
      · have h2 := (wy _).symm.trans h2
        refine .inl ⟨h2, .inr ⟨h1, c1, t1, fun w => by rw [ex]; exact h5 w, fun r hr => ?_⟩⟩
        rcases h6 r hr with ⟨_, h3⟩ | ⟨h4, _⟩
        · rw [cm] at h3; exact h3
        · have h4 := (wy _).symm.trans h4
          rw [h2] at h4; cases h4
      · have h2 := (wy _).symm.trans h2
        refine .inr ⟨h2, c2, t2, fun w => by have := h3 w; rw [ey] at this; exact this, fun r2 hr2 => .inr ⟨(wx _).trans h1, c1, t1, fun w => by rw [ex]; exact h5 w, fun r1 hr1 => ?_⟩⟩
        have n1 : ∀ z ∈ m, z.b ≠ r1 := fun z hz => hr1 z (by simp [hz])
        have n2 : r2 ≠ r1 := hr1 ⟨r2, c2, t2⟩ (by simp)
        rcases h6 r1 n1 with ⟨h4, _⟩ | ⟨_, c3, t3, h7, h8⟩
        · have h4 := (wy _).symm.trans h4
          rw [h2] at h4; cases h4
        · -- the same block
          have g3 := h3 default
          have g7 := h7 default
          rw [ey] at g3 g7
          have e1 := g3.symm.trans g7
          injection e1 with _ e2
          have e3 : (Obj.cells c2 t2 : Obj) = .cells c3 t3 := by
            have : (World.alloc default (Obj.cells c2 t2)).heap = (World.alloc default (Obj.cells c3 t3)).heap := by rw [e2]
            exact (Array.push_inj_right.1 this)
          injection e3 with e4 e5
          subst e4 e5
          have := h8 r2 (fun z hz => by
            rcases List.mem_append.1 hz with hz | hz
            · exact hr2 z hz
            · simp at hz; subst hz; exact fun e => n2 e.symm)
          rw [cm] at this
          refine hK _ _ _ ?_ this
          rw [List.append_assoc, List.append_assoc]
          exact List.Perm.append_left _ (List.Perm.swap _ _ _)

/-- One operation comes forward past others that it may change places with. -/
theorem forward {K : Act → Mem → Prop} (hK : Pcl K) (y : Oper) : ∀ (s1 s2 : List Oper), (∀ x ∈ s1, free ops x y = true) → ∀ (a : Act) (m : Mem), opsM P G ops K (s1 ++ y :: s2) a m → opsM P G ops K (y :: (s1 ++ s2)) a m
  | [], _, _, _, _, h => h
  | x :: s1, s2, hs, a, m, h => by
    have h1 : opM P G ops x (opsM P G ops K (y :: (s1 ++ s2))) a m := opM_mono (fun a m => forward hK y s1 s2 (fun z hz => hs z (by simp [hz])) a m) h
    exact swap (hs x (by simp)) (pcl_ops hK _) h1

/-! ### A region that draws its order -/
def opOf (ops : Array Oper) (i : Nat) : Oper := ops.getD i default

/-- Does j come ahead of i by the edges that bind (by up to f of them)? -/
def anc (ops : Array Oper) : Nat → Nat → Nat → Bool
  | 0, _, _ => false
  | f + 1, i, j => (opOf ops i).after.any fun e => Region.binds .any e && (e.on == j || anc ops f e.on j)

/-- Every edge that binds goes back; two operations that may not change places are held apart by an edge. -/
def orderOk (ops : Array Oper) : Bool :=
  (List.range ops.size).all fun i =>
    ((opOf ops i).after.all fun e => !Region.binds .any e || e.on < i) &&
    (List.range i).all fun j => free ops (opOf ops j) (opOf ops i) || anc ops 4 i j

def unlisted (ops : Array Oper) (listed : Array Bool) : List Nat := (List.range ops.size).filter fun i => !listed.getD i true

theorem opOf_eq {i : Nat} (h : i < ops.size) : ops[i]? = some (opOf ops i) := by
  simp [opOf, h]

theorem getD_set_ne (listed : Array Bool) {i j : Nat} (h : ¬ i = j) (b : Bool) : (listed.setIfInBounds i true).getD j b = listed.getD j b := by
  rw [Array.getD_eq_getD_getElem?, Array.getElem?_setIfInBounds_ne h, ← Array.getD_eq_getD_getElem?]

theorem unlisted_set {listed : Array Bool} {i : Nat} {s1 s2 : List Nat} (hl : listed.size = ops.size) (h : unlisted ops listed = s1 ++ i :: s2) :
    unlisted ops (listed.setIfInBounds i true) = s1 ++ s2 := by
  have hi : i ∈ unlisted ops listed := by rw [h]; simp
  have hin : i < ops.size := by simp [unlisted] at hi; exact hi.1
  have e : unlisted ops (listed.setIfInBounds i true) = (unlisted ops listed).filter (fun j => j != i) := by
    unfold unlisted
    rw [List.filter_filter]
    refine List.filter_congr fun j hj => ?_
    have hj : j < ops.size := by simpa using hj
    by_cases hji : j = i
    · subst hji; simp [Array.getD, hl, hin]
    · have : i ≠ j := fun e => hji e.symm
      simp [hji, Array.getD, hl, hj, Array.getElem_setIfInBounds_ne, this]
  have nd : (unlisted ops listed).Nodup := List.Pairwise.filter _ List.nodup_range
  rw [e, h]
  rw [h] at nd
  rw [List.nodup_append] at nd
  obtain ⟨n1, n2, n3⟩ := nd
  rw [List.nodup_cons] at n2
  rw [List.filter_append, List.filter_cons]
  have f1 : s1.filter (fun j => j != i) = s1 := List.filter_eq_self.2 fun j hj => by
    have := n3 j hj i (by simp)
    simpa using this
  have f2 : s2.filter (fun j => j != i) = s2 := List.filter_eq_self.2 fun j hj => by
    have : j ≠ i := fun e => n2.1 (e ▸ hj)
    simpa using this
  simp [f1, f2]

theorem anyM_sound {K : Act → Mem → Prop} (hK : Pcl K) {Q : Exit → Act → World → Prop} {B : Nat} {w0 : World} (hB : B ≤ w0.heap.size) (hok : orderOk ops = true)
    (hQ : ∀ a m w, K a m → Holds G B w0 m w → Q .normal a w) :
    ∀ (fuel : Nat) (listed : Array Bool), listed.size = ops.size → (unlisted ops listed).length ≤ fuel → (∀ i, i < ops.size → listed.getD i false = true → ∀ e ∈ (opOf ops i).after, Region.binds .any e = true → listed.getD e.on false = true) → ∀ (a : Act) (m : Mem) (w : World),
      opsM P G ops K ((unlisted ops listed).map (opOf ops)) a m → Holds G B w0 m w → wpAny P .any ops Q fuel listed a w := by
  have hok' : ∀ i, i < ops.size → (∀ e ∈ (opOf ops i).after, Region.binds .any e = true → e.on < i) ∧
      ∀ j, j < i → free ops (opOf ops j) (opOf ops i) = true ∨ anc ops 4 i j = true := by
    intro i hi
    have := (List.all_eq_true.1 hok) i (by simpa using hi)
    simp only [Bool.and_eq_true] at this
    refine ⟨fun e he hb => ?_, fun j hj => ?_⟩
    · have := (Array.all_eq_true_iff_forall_mem.1 this.1) e he
      simpa [hb] using this
    · have := (List.all_eq_true.1 this.2) j (by simpa using hj)
      rw [Bool.or_eq_true] at this
      exact this
  -- what comes ahead of what may come is listed
  have ahead : ∀ (listed : Array Bool), (∀ i, i < ops.size → listed.getD i false = true → ∀ e ∈ (opOf ops i).after, Region.binds .any e = true → listed.getD e.on false = true) →
      ∀ f i j, i < ops.size → (∀ e ∈ (opOf ops i).after, Region.binds .any e = true → listed.getD e.on false = true) → anc ops f i j = true → listed.getD j false = true := by
    intro listed hcl f
    induction f with
    | zero => intro i j _ _ h; simp [anc] at h
    | succ f ih =>
      intro i j hi hrd h
      unfold anc at h
      rw [Array.any_eq_true'] at h
      obtain ⟨e, he, h2⟩ := h
      simp only [Bool.and_eq_true, Bool.or_eq_true, beq_iff_eq] at h2
      obtain ⟨hb, h3⟩ := h2
      have hl := hrd e he hb
      have hlt := (hok' i hi).1 e he hb
      rcases h3 with h3 | h3
      · rw [← h3]; exact hl
      · exact ih e.on j (by omega) (hcl e.on (by omega) hl) h3
  -- the least that is not listed may come
  have least : ∀ (listed : Array Bool) (i : Nat) (s : List Nat), unlisted ops listed = i :: s → i ∈ Region.ready .any ops listed := by
    intro listed i s h
    have hi : i ∈ unlisted ops listed := by rw [h]; simp
    have hin : i < ops.size ∧ listed.getD i true = false := by simpa [unlisted] using hi
    simp only [Region.ready, List.mem_filter, List.mem_range]
    refine ⟨hin.1, ?_⟩
    rw [hin.2, opOf_eq hin.1]
    simp only [Bool.not_false, Option.map_some, Option.getD_some, Bool.true_and]
    refine Array.all_eq_true_iff_forall_mem.2 fun e he => ?_
    by_cases hb : Region.binds .any e = true
    · have hlt := (hok' i hin.1).1 e he hb
      have hne : e.on ∉ unlisted ops listed := fun hmem => by
        have hs : List.Pairwise (· < ·) (unlisted ops listed) := List.Pairwise.filter _ List.pairwise_lt_range
        rw [h] at hs hmem
        rcases List.mem_cons.1 hmem with e1 | e1
        · omega
        · have := (List.pairwise_cons.1 hs).1 _ e1; omega
      have : listed.getD e.on true = true := by
        cases hh : listed.getD e.on true with
        | true => rfl
        | false => exact absurd (by simp only [unlisted, List.mem_filter, List.mem_range]; exact ⟨by omega, by rw [hh]; rfl⟩) hne
      simp only [hb, Bool.not_true, Bool.false_or]
      by_cases hsz : e.on < listed.size
      · simp only [Array.getD, hsz, dite_true] at this ⊢; exact this
      · exfalso
        simp only [Array.getD, hsz, dite_false] at this
        have : listed.getD i true = true := by
          have : ¬ i < listed.size := by omega
          simp only [Array.getD, this, dite_false]
        rw [hin.2] at this; cases this
    · simp [hb]
  intro fuel
  induction fuel with
  | zero =>
    intro listed hl hlen _ a m w h hw
    have hnil : unlisted ops listed = [] := List.length_eq_zero_iff.1 (by omega)
    rw [hnil] at h
    refine ⟨?_, hQ _ _ _ h hw⟩
    apply List.eq_nil_iff_forall_not_mem.2
    intro i hi
    have : i ∈ unlisted ops listed := by
      simp only [Region.ready, List.mem_filter, Bool.and_eq_true] at hi
      simp only [unlisted, List.mem_filter]; exact ⟨hi.1, hi.2.1⟩
    rw [hnil] at this; cases this
  | succ fuel ih =>
    intro listed hl hlen hcl a m w h hw
    refine ⟨fun hr => ?_, fun i hi => ?_⟩
    · cases hu : unlisted ops listed with
      | nil => rw [hu] at h; exact hQ _ _ _ h hw
      | cons i s => have := least listed i s hu; rw [hr] at this; cases this
    · simp only [Region.ready, List.mem_filter, List.mem_range, Bool.and_eq_true] at hi
      obtain ⟨hin, hnl, hrd⟩ := hi
      have hmem : i ∈ unlisted ops listed := by simp only [unlisted, List.mem_filter, List.mem_range]; exact ⟨hin, hnl⟩
      obtain ⟨s1, s2, hs⟩ := List.append_of_mem hmem
      have hsorted : List.Pairwise (· < ·) (unlisted ops listed) := List.Pairwise.filter _ List.pairwise_lt_range
      rw [hs] at hsorted
      have hlt : ∀ j ∈ s1, j < i := fun j hj => (List.pairwise_append.1 hsorted).2.2 j hj i (by simp)
      rw [opOf_eq hin] at hrd
      simp only [Option.map_some, Option.getD_some] at hrd
      have hrd' : ∀ e ∈ (opOf ops i).after, Region.binds .any e = true → listed.getD e.on false = true := fun e he hb => by
        have h2 := (Array.all_eq_true_iff_forall_mem.1 hrd) e he
        simpa only [hb, Bool.not_true, Bool.false_or] using h2
      have hfree : ∀ x ∈ s1.map (opOf ops), free ops x (opOf ops i) = true := by
        intro x hx
        obtain ⟨j, hj, rfl⟩ := List.mem_map.1 hx
        rcases (hok' i hin).2 j (hlt j hj) with h1 | h1
        · exact h1
        · exfalso
          have h2 := ahead listed hcl 4 i j hin hrd' h1
          have hju : j ∈ unlisted ops listed := by rw [hs]; simp [hj]
          have : listed.getD j true = false := by simpa [unlisted] using (List.mem_filter.1 hju).2
          have hsz : j < listed.size := by have := hlt _ hj; omega
          simp only [Array.getD, hsz, dite_true] at this h2
          rw [this] at h2; cases h2
      rw [hs, List.map_append, List.map_cons] at h
      have h := forward hK (opOf ops i) _ _ hfree a m h
      refine wpOp_mono ?_ (opM_sound hB (opOf_eq hin) h hw)
      rintro a' w' ⟨m', h3, h4⟩
      have hun := unlisted_set hl hs
      refine ih _ (by simp [hl]) ?_ ?_ a' m' w' ?_ h4
      · rw [hun]; rw [hs] at hlen; simp at hlen ⊢; omega
      · intro i' hi' hli e he hb
        have hold : listed.getD e.on false = true := by
          by_cases hii : i' = i
          · subst hii; exact hrd' e he hb
          · refine hcl i' hi' ?_ e he hb
            rw [getD_set_ne listed (fun e => hii e.symm)] at hli; exact hli
        by_cases hei : i = e.on
        · rw [← hei]
          have h5 : i < listed.size := by omega
          simp [Array.getD, h5]
        · rw [getD_set_ne listed hei]; exact hold
      · rw [hun, List.map_append]; exact h3

theorem unlisted_all : (unlisted ops (Array.replicate ops.size false)).map (opOf ops) = ops.toList := by
  have : unlisted ops (Array.replicate ops.size false) = List.range ops.size := by
    unfold unlisted
    refine List.filter_eq_self.2 fun i hi => ?_
    have : i < ops.size := by simpa using hi
    simp [Array.getD, this]
  rw [this]
  refine List.ext_getElem (by simp) fun i h1 h2 => ?_
  have : i < ops.size := by simpa using h1
  simp [opOf, Array.getD, this]

/-! ### Code -/
/-- Whatever world holds these blocks: the code comes to an end that Q speaks of. -/
def Sat (P : Program) (G : Mem) (c : Code) (Q : Exit → Act → Mem → Prop) (a : Act) (m : Mem) : Prop :=
  ∀ (B : Nat) (w0 w : World), B ≤ w0.heap.size → Holds G B w0 m w → c.wp P (fun e a' w' => ∃ m', Q e a' m' ∧ Holds G B w0 m' w') a w

def Pk (K : Act → Mem → Prop) : Act → Mem → Prop := fun a m => ∃ m', List.Perm m m' ∧ K a m'
theorem pcl_pk (K : Act → Mem → Prop) : Pcl (Pk K) := fun _ _ _ hp ⟨m1, h1, h2⟩ => ⟨m1, hp.symm.trans h1, h2⟩
theorem Holds.perm {B : Nat} {w0 w : World} {m m' : Mem} (h : Holds G B w0 m w) (hp : List.Perm m m') : Holds G B w0 m' w :=
  ⟨h.below, h.glob, h.globB, memIn_perm hp h.mem, fun x hx => h.own x (hp.mem_iff.2 hx), ((hp.map (·.b)).nodup_iff).1 h.ids⟩

theorem sat_draw {id : Nat} {Q : Exit → Act → Mem → Prop} {a : Act} {m : Mem} (hm : P.follows .mixedOrders = true) (hok : orderOk ops = true)
    (h : opsM P G ops (Q .normal) ops.toList a m) : Sat P G (.region id ops true) Q a m := fun B w0 w hB hw =>
  wp_region_any hm (anyM_sound (K := Pk (Q .normal)) (pcl_pk _) hB hok (fun _ _ _ ⟨m', hp, h1⟩ h2 => ⟨m', h1, h2.perm hp⟩) ops.size _ (by simp) (by unfold unlisted; exact Nat.le_trans (List.length_filter_le _ _) (by simp)) (fun i hi h => by simp [Array.getD, hi] at h) a m _ (by rw [unlisted_all]; exact opsM_mono (fun _ m h => ⟨m, List.Perm.refl m, h⟩) _ h) hw.drawn)

theorem opsM_range {K : Act → Mem → Prop} {Q : Exit → Act → World → Prop} {B : Nat} {w0 : World} (hB : B ≤ w0.heap.size)
    (hQ : ∀ a m w, K a m → Holds G B w0 m w → Q .normal a w) : ∀ (l : List Nat), (∀ i ∈ l, i < ops.size) → ∀ (a : Act) (m : Mem) (w : World),
      opsM P G ops K (l.map (opOf ops)) a m → Holds G B w0 m w → wpOps P ops Q l a w
  | [], _, a, m, w, h, hw => hQ a m w h hw
  | i :: l, hl, a, m, w, h, hw => by
    rw [wpOps_cons]
    refine wpOp_mono ?_ (opM_sound hB (opOf_eq (hl i (by simp))) h hw)
    rintro a' w' ⟨m', h1, h2⟩
    exact opsM_range hB hQ l (fun j hj => hl j (by simp [hj])) a' m' w' h1 h2

theorem sat_plain {id : Nat} {Q : Exit → Act → Mem → Prop} {a : Act} {m : Mem} (h : opsM P G ops (Q .normal) ops.toList a m) : Sat P G (.region id ops false) Q a m := fun B w0 w hB hw =>
  wp_region (opsM_range (K := Q .normal) hB (fun a m w h1 h2 => ⟨m, h1, h2⟩) _ (fun i hi => by simpa using hi) a m w (by
    have : (List.range ops.size).map (opOf ops) = ops.toList := by
      refine List.ext_getElem (by simp) fun i h1 h2 => ?_
      have : i < ops.size := by simpa using h1
      simp [opOf, Array.getD, this]
    rw [this]; exact h) hw)

section
variable {Q : Exit → Act → Mem → Prop} {a : Act} {m : Mem}

theorem sat_mono {c : Code} {Q' : Exit → Act → Mem → Prop} (h : Sat P G c Q a m) (hq : ∀ e a m, Q e a m → Q' e a m) : Sat P G c Q' a m := fun B w0 w hB hw =>
  wp_mono (h B w0 w hB hw) fun _ _ _ ⟨m', h1, h2⟩ => ⟨m', hq _ _ _ h1, h2⟩

theorem sat_skip (h : Q .normal a m) : Sat P G .skip Q a m := fun _ _ _ _ hw => wp_skip ⟨m, h, hw⟩
theorem sat_exit {id : Nat} (h : Q (.exit id) a m) : Sat P G (.exit id) Q a m := fun _ _ _ _ hw => wp_exit ⟨m, h, hw⟩
theorem sat_ret (h : Q .ret a m) : Sat P G .ret Q a m := fun _ _ _ _ hw => wp_ret ⟨m, h, hw⟩

def thenM (next : Act → Mem → Prop) (Q : Exit → Act → Mem → Prop) : Exit → Act → Mem → Prop
  | .normal, a, m => next a m
  | e, a, m => Q e a m

theorem sat_seq {x y : Code} (h : Sat P G x (thenM (Sat P G y Q) Q) a m) : Sat P G (.seq x y) Q a m := fun B w0 w hB hw =>
  wp_seq (wp_mono (h B w0 w hB hw) fun e a' w' ⟨m', h1, h2⟩ => by
    cases e <;> first | exact h1 B w0 w' hB h2 | exact ⟨m', h1, h2⟩)

theorem sat_cond {c : Operand} {x y : Code} {t : Bool} (hc : a.eval c = .bool t) (ht : t = true → Sat P G x Q a m) (hf : t = false → Sat P G y Q a m) : Sat P G (.cond c x y) Q a m :=
  fun B w0 w hB hw => wp_cond_split hc (fun e => ht e B w0 w hB hw) (fun e => hf e B w0 w hB hw)

def inBlockM (id : Nat) (Q : Exit → Act → Mem → Prop) : Exit → Act → Mem → Prop
  | .exit id', a, m => if id' = id then Q .normal a m else Q (.exit id') a m
  | e, a, m => Q e a m

theorem sat_block {id : Nat} {c : Code} (h : Sat P G c (inBlockM id Q) a m) : Sat P G (.block id c) Q a m := fun B w0 w hB hw =>
  wp_block (wp_mono (h B w0 w hB hw) fun e a' w' ⟨m', h1, h2⟩ => by
    cases e with
    | exit id' =>
      simp only [inBlockM, Exit.inBlock] at h1 ⊢
      split
      · rename_i he; rw [if_pos he] at h1; exact ⟨m', h1, h2⟩
      · rename_i he; rw [if_neg he] at h1; exact ⟨m', h1, h2⟩
    | _ => exact ⟨m', h1, h2⟩)

/-- A loop whose rounds are counted down by n. -/
theorem sat_loop {c : Code} (I : Nat → Act → Mem → Prop) {n : Nat} (h0 : I n a m)
    (round : ∀ n a m, I n a m → Sat P G c (thenM (fun a' m' => ∃ n', n' < n ∧ I n' a' m') Q) a m) : Sat P G (.loop c) Q a m := by
  intro B w0 w hB hw b k cs
  have key : ∀ n a m w, I n a m → Holds G B w0 m w → ∃ e a' w', (∃ m', Q e a' m' ∧ Holds G B w0 m' w') ∧ Arrives P (lone (b.at a (.code c :: .inLoop c :: k)) cs w) b k cs e a' w' := by
    intro n
    induction n using Nat.strongRecOn with
    | _ n ih =>
      intro a m w hI hw
      obtain ⟨e, a1, w1, ⟨m1, hq, hw1⟩, harr⟩ := round n a m hI B w0 w hB hw b (.inLoop c :: k) cs
      cases e with
      | normal =>
        obtain ⟨n', hn', hI'⟩ := hq
        obtain ⟨e2, a2, w2, hq2, harr2⟩ := ih n' hn' a1 m1 w1 hI' hw1
        exact ⟨e2, a2, w2, hq2, .of_steps (Steps.trans harr (.one step_inLoop)) harr2⟩
      | exit id => exact ⟨_, a1, w1, ⟨m1, hq, hw1⟩, .pass (x := .inLoop c) rfl (fun _ _ => .inl (by simp)) harr⟩
      | goto l => exact ⟨_, a1, w1, ⟨m1, hq, hw1⟩, .pass (x := .inLoop c) rfl (fun _ _ => .inl (by simp)) harr⟩
      | ret => exact ⟨_, a1, w1, ⟨m1, hq, hw1⟩, .pass (x := .inLoop c) rfl (fun _ _ => .inl (by simp)) harr⟩
      | panic ch => exact ⟨_, a1, w1, ⟨m1, hq, hw1⟩, .pass (x := .inLoop c) rfl (fun _ _ => .inl (by simp)) harr⟩
      | outgrown => exact ⟨_, a1, w1, ⟨m1, hq, hw1⟩, .pass (x := .inLoop c) rfl (fun _ _ => .inl (by simp)) harr⟩
  obtain ⟨e, a', w', hq, harr⟩ := key n a m w h0 hw
  exact ⟨e, a', w', hq, .of_steps (.one step_loop) harr⟩

/-! ### A function of values alone -/
/-- Called with these values, in whatever world that holds the blocks G: it returns v; of what was there nothing has turned. -/
def Fn (P : Program) (G : Mem) (f : FuncId) (args : Array Value) (v : Value) : Prop :=
  ∀ w : World, MemR G w → Calls P f args w (fun e w' => e = .returned v ∧ Below w.heap.size w w')

/-- The same where the blocks m lie, too. -/
def FnR (P : Program) (G m : Mem) (f : FuncId) (args : Array Value) (v : Value) : Prop :=
  ∀ w : World, MemR G w → MemIn m w → Calls P f args w (fun e w' => e = .returned v ∧ Below w.heap.size w w')

def endM (P : Program) (fn : Func) (v : Value) : Exit → Act → Mem → Prop
  | .normal, a, m | .ret, a, m => a.defers = [] ∧ ∀ w, MemIn m w → (results fn a.tmps).run P w = .ok v w
  | _, _, _ => False

theorem fn_of {f : FuncId} {fn : Func} {c : Code} {args : Array Value} {v : Value} (hf : P.funcs[f]? = some fn) (hb : fn.body = some c)
    (h : Sat P G c (endM P fn v) { tmps := args ++ Array.replicate (fn.ntmps - args.size) undef, defers := [] } []) : Fn P G f args v := fun w hG =>
  calls_of_wp hf hb (wp_mono (h w.heap.size w w (Nat.le_refl _) ⟨Below.refl _ _, hG, fun x hx => (hG x hx).1, by simp [MemIn], by simp, by simp⟩) fun e a' w' ⟨m', h1, h2⟩ => by
    cases e with
    | normal => exact ⟨h1.1, v, h1.2 w' h2.mem, rfl, h2.below⟩
    | ret => exact ⟨h1.1, v, h1.2 w' h2.mem, rfl, h2.below⟩
    | exit id => exact h1
    | goto l => exact h1
    | panic ch => exact h1.elim
    | outgrown => exact h1.elim)


/-! ### The operations, one by one -/
section
variable {K : Act → Mem → Prop} {rest : List Oper} {d : Option Tmp} {ty : TypeId} {pos : String} {aft : Array Edge}

theorem st_quiet {o : Oper} {v : Value} (hg : o.guard = none) (hc : cls o = 0) (hv : ∀ w, (execOp a.eval o).run P w = .ok (.value v) w) (h : opsM P G ops K rest (a.put o.dst v) m) : opsM P G ops K (o :: rest) a m :=
  .inr ⟨by simp [Region.wanted, hg], by rw [hc]; exact ⟨v, hv, h⟩⟩

theorem st_move {x : Operand} {v : Value} (hx : a.eval x = v) (h : opsM P G ops K rest (a.put d v) m) : opsM P G ops K (⟨d, .move x, ty, pos, aft, none⟩ :: rest) a m :=
  st_quiet rfl rfl (fun w => by subst hx; rfl) h

theorem st_assign {x : Operand} {v : Value} (hx : a.eval x = v) (h : opsM P G ops K rest (a.put d v) m) : opsM P G ops K (⟨d, .assign x, ty, pos, aft, none⟩ :: rest) a m :=
  st_quiet rfl rfl (fun w => by subst hx; rfl) h

theorem st_extract {x : Operand} {i : Nat} {vs : Array Value} {v : Value} (hx : a.eval x = .tuple vs) (hv : vs[i]? = some v) (h : opsM P G ops K rest (a.put d v) m) : opsM P G ops K (⟨d, .extract x i, ty, pos, aft, none⟩ :: rest) a m :=
  st_quiet (v := v) rfl rfl (fun w => by simp [execOp, hx, Instr.extract, hv]) h

end
end
end
end Go.Proofs.Ythhcgeoldjmpaaa
