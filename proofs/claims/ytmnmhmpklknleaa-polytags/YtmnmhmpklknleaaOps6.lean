/-
  More operations: slices that are read, made, appended to and copied to.
-/
import Derived.Test.YtmnmhmpklknleaaOps5
import Derived.Laws.CopyRow
namespace Go.Proofs.Ytmnmhmpklknleaa
open Go Go.RowKit
variable {P : Program} {G : Mem} {R : Reg} {ops : Array Oper} {K : Act → Mem → Prop} {rest : List Oper} {a : Act} {m : Mem} {d : Option Tmp} {ty : TypeId} {pos : String} {aft : Array Edge}
variable {T T' : TypeId} {x y : Operand}

abbrev nilS : Value := .slice none 0 0
/-- The slice v shows n elements (of z cells each), whose cells are xs; its block is one of B. -/
def Shows (B : Mem) (z : Nat) (v : Value) (n : Nat) (xs : List Value) : Prop :=
  (n = 0 ∧ xs = [] ∧ ∃ oa cap, v = .slice oa 0 cap ∧ (oa = none → cap = 0)) ∨ ∃ b o cap c t, v = .slice (some ⟨b, o, none⟩) n cap ∧ n ≤ cap ∧ (⟨b, c, t⟩ : Blk) ∈ B ∧ xs.length = n * z ∧ o + n * z ≤ c.size ∧ ∀ j u, xs[j]? = some u → c[o + j]? = some u
/-- The place of a slice's element. -/
def slAddr (v : Value) (j : Nat) : Value := match v with
  | .slice (some ⟨b, o, s⟩) _ _ => .pointer (some ⟨b, o + j, s⟩)
  | _ => undef
/-- A part of a slice. -/
def slPart (z : Nat) (v : Value) (i j : Nat) : Value := match v with
  | .slice (some ⟨b, o, s⟩) _ cap => .slice (some (if cap = i then ⟨b, o, s⟩ else ⟨b, o + i * z, s⟩)) (j - i) (cap - i)
  | v => v
theorem Shows.len {B : Mem} {z n : Nat} {v : Value} {xs : List Value} (h : Shows B z v n xs) : xs.length = n * z := by
  rcases h with ⟨rfl, rfl, _⟩ | ⟨b, o, cap, c, t, _, _, _, h, _⟩
  · simp
  · exact h
theorem Shows.part {B : Mem} {z n i j : Nat} {v : Value} {xs : List Value} (h : Shows B z v n xs) (h1 : i ≤ j) (h2 : j ≤ n) : Shows B z (slPart z v i j) (j - i) ((xs.drop (i * z)).take ((j - i) * z)) := by
  rcases h with ⟨rfl, rfl, oa, cap, rfl, hoa⟩ | ⟨b, o, cap, c, t, rfl, hc, hB, hl, ho, hx⟩
  · left
    have e1 : i = 0 := by omega
    have e2 : j = 0 := by omega
    subst e1 e2
    refine ⟨rfl, by simp, ?_⟩
    cases oa with
    | none => exact ⟨none, cap, rfl, hoa⟩
    | some a => exact ⟨some (if cap = 0 then ⟨a.block, a.off, a.spot⟩ else ⟨a.block, a.off + 0 * z, a.spot⟩), cap - 0, rfl, fun h => by cases h⟩
  · right
    have hm1 : i * z + (j - i) * z = j * z := by rw [← Nat.add_mul]; congr 1; omega
    have hm2 : j * z ≤ n * z := Nat.mul_le_mul_right _ h2
    refine ⟨b, if cap = i then o else o + i * z, cap - i, c, t, ?_, by omega, hB, ?_, ?_, fun k u hk => ?_⟩
    · show Value.slice (some (if cap = i then ⟨b, o, none⟩ else ⟨b, o + i * z, none⟩)) (j - i) (cap - i) = _
      split <;> rfl
    · simp [hl]; omega
    · split <;> omega
    · rw [List.getElem?_take] at hk
      split at hk
      · rename_i hlt
        rw [List.getElem?_drop] at hk
        have := hx _ _ hk
        by_cases e : cap = i
        · have : j - i = 0 := by omega
          rw [this] at hlt; omega
        · rw [if_neg e, Nat.add_assoc]; exact this
      · cases hk
theorem Shows.mono {B B' : Mem} {z n : Nat} {v : Value} {xs : List Value} (h : Shows B z v n xs) (hs : ∀ x ∈ B, x ∈ B') : Shows B' z v n xs := by
  rcases h with h | ⟨b, o, cap, c, t, h1, h2, h3, h4⟩
  · exact .inl h
  · exact .inr ⟨b, o, cap, c, t, h1, h2, hs _ h3, h4⟩
/-- Blocks that may be read. -/
def Seen (G : Mem) (R : Reg) (m B : Mem) : Prop := ∀ z ∈ B, z ∈ G ∨ (z ∈ m ∧ z.b ∉ R.X)
theorem Seen.rin {B : Mem} (h : Seen G R m B) {w : World} (hG : MemR G w) (hm : vis R m w) {z : Blk} (hz : z ∈ B) : RIn w z := by
  rcases h z hz with h1 | ⟨h1, h2⟩
  · exact hG z h1
  · exact (hm z h1 h2).read

/-! ### len, min -/
theorem st_value {b : Builtin} {args : Array Operand} {tys : Array TypeId} {v : Value} (hc : cls R ⟨d, .call ⟨.builtin b, args, tys⟩, ty, pos, aft, none⟩ = R.c) (hR : callOk R = true) (hr : ∀ w, (execOp a.eval ⟨d, .call ⟨.builtin b, args, tys⟩, ty, pos, aft, none⟩).run P w = .ok (.value v) w) (h : opsM P G R ops K rest (a.put d v) m) :
    opsM P G R ops K (⟨d, .call ⟨.builtin b, args, tys⟩, ty, pos, aft, none⟩ :: rest) a m :=
  .inr ⟨rfl, by rw [hc]; exact core_call hR (v := v) (fun w _ _ => .inl (hr w)) h⟩
theorem st_lenS {e : TypeId} {v : Value} {B : Mem} {z n : Nat} {xs : List Value} (hR : callOk R = true) (hT : P.underlying T = some (.slice e)) (hx : a.eval x = v) (hv : Shows B z v n xs) (h : opsM P G R ops K rest (a.put d (ii n)) m) :
    opsM P G R ops K (⟨d, .call ⟨.builtin .len, #[x], #[T]⟩, ty, pos, aft, none⟩ :: rest) a m :=
  st_value rfl hR (fun w => by
    have : (Builtin.len_ #[T] ty #[v]).run P w = .ok (ii n) w := by
      rcases hv with ⟨rfl, _, oa, cap, rfl, _⟩ | ⟨b, o, cap, c, t, rfl, _⟩ <;> simp [Builtin.len_, run_underlying hT, goInt]
    simp only [execOp, resolve, invoke, builtin, Sem.run_bind, Sem.run_pure, Result.andThen_ok, List.map_toArray, List.map_cons, List.map_nil, hx, this]) h
theorem st_lenStr {l : List Nat} (hR : callOk R = true) (hT : P.underlying T = some .string) (hx : a.eval x = sv l) (h : opsM P G R ops K rest (a.put d (ii l.length)) m) :
    opsM P G R ops K (⟨d, .call ⟨.builtin .len, #[x], #[T]⟩, ty, pos, aft, none⟩ :: rest) a m :=
  st_value rfl hR (fun w => by
    have : (Builtin.len_ #[T] ty #[sv l]).run P w = .ok (ii l.length) w := by simp [Builtin.len_, run_underlying hT, goInt, bstr_size]
    simp only [execOp, resolve, invoke, builtin, Sem.run_bind, Sem.run_pure, Result.andThen_ok, List.map_toArray, List.map_cons, List.map_nil, hx, this]) h

theorem st_min {k k' : IntKind} {p q : Nat} (hR : callOk R = true) (hx : a.eval x = .int k (p : Int)) (hy : a.eval y = .int k' (q : Int)) (h : opsM P G R ops K rest (a.put d (.int k ((min p q : Nat) : Int))) m) :
    opsM P G R ops K (⟨d, .call ⟨.builtin .min, #[x, y], #[T, T']⟩, ty, pos, aft, none⟩ :: rest) a m :=
  st_value rfl hR (fun w => by
    have e : (if q < p then (q : Int) else p) = ((min p q : Nat) : Int) := by split <;> omega
    have : (Builtin.min_ #[T, T'] ty #[.int k (p : Int), .int k' (q : Int)]).run P w = .ok (.int k ((min p q : Nat) : Int)) w := by simp [Builtin.min_, Builtin.min2, e]
    simp only [execOp, resolve, invoke, builtin, Sem.run_bind, Sem.run_pure, Result.andThen_ok, List.map_toArray, List.map_cons, List.map_nil, hx, hy, this]) h

/-! ### Elements -/
theorem st_atV {e : TypeId} {k : IntKind} {v : Value} {B : Mem} {z n j : Nat} {xs : List Value} (hT : P.underlying T = some (.slice e)) (hs : (P.info? e).map (·.size) = some z) (hx : a.eval x = v) (hy : a.eval y = .int k (j : Int)) (hv : Shows B z v n xs) (hj : j < n)
    (h : opsM P G R ops K rest (a.put d (slAddr v (j * z))) m) : opsM P G R ops K (⟨d, .indexAddr T x y, ty, pos, aft, none⟩ :: rest) a m :=
  st_quiet (v := slAddr v (j * z)) rfl rfl (fun w => by
    rcases hv with ⟨rfl, _⟩ | ⟨b, o, cap, c, t, rfl, _⟩
    · omega
    · cases hi : P.info? e with
      | none => simp [hi] at hs
      | some i =>
        have hsz : i.size = z := by simpa [hi] using hs
        have h0 : (0 : Int) ≤ j ∧ (j : Int) < n := by omega
        simp only [execOp, Instr.indexAt, hx, hy, asIntOf, underlying, program, sizeOf, typeInfo]
        simp [Sem.run, hT, hi, hsz, add_off, hj, slAddr]) h
/-- One cell of an element that is one cell. -/
theorem st_loadV {td : TypeDesc} {v u : Value} {B : Mem} {n j : Nat} {xs : List Value} (hB : Seen G R m B) (hT : P.underlying T = some td) (hn : rowLike td = false) (hx : a.eval x = slAddr v j) (hv : Shows B 1 v n xs) (hj : xs[j]? = some u)
    (h : opsM P G R ops K rest (a.put d u) m) : opsM P G R ops K (⟨d, .load T x, ty, pos, aft, none⟩ :: rest) a m :=
  .inr ⟨rfl, u, fun w hG hm => .inl (by
    rcases hv with ⟨_, rfl, _⟩ | ⟨b, o, cap, c, t, rfl, _, hb, hl, ho, hc⟩
    · simp at hj
    · have hin := hB.rin hG hm hb
      have hlt : o + j < c.size := (Array.getElem?_eq_some_iff.1 (hc j u hj)).1
      have hcell : w.cell? ⟨b, o + j, none⟩ = some u := by rw [hin.2 (o + j) hlt]; exact hc j u hj
      simp only [execOp, Instr.loadAt, hx, slAddr, Instr.sureAddr, loadVar]
      simp [run_isAgg hT, hn, hcell]), h⟩
/-- A part of a slice. -/
theorem st_sliceV {e : TypeId} {v : Value} {B : Mem} {z n i j : Nat} {xs : List Value} {lo hi : Option Operand} (hT : P.underlying T = some (.slice e)) (hs : (P.info? e).map (·.size) = some z) (hx : a.eval x = v) (hv : Shows B z v n xs) (hl : isB (lo.map a.eval) i 0) (hh : isB (hi.map a.eval) j n) (h1 : i ≤ j) (h2 : j ≤ n)
    (hK : opsM P G R ops K rest (a.put d (slPart z v i j)) m) : opsM P G R ops K (⟨d, .slice T x lo hi none, ty, pos, aft, none⟩ :: rest) a m := by
  rcases hv with ⟨rfl, _, oa, cap, rfl, hoa⟩ | ⟨b, o, cap, c, t, rfl, hc, _⟩
  · refine st_quiet (v := slPart z (.slice oa 0 cap) i j) rfl rfl (fun w => ?_) hK
    cases hi' : P.info? e with
    | none => simp [hi'] at hs
    | some k =>
      have hsz : k.size = z := by simpa [hi'] using hs
      have hb := run_bounds (P := P) (isS := true) (len := 0) (cap := cap) hl hh h1 (by omega) w
      have e1 : i = 0 := by omega
      have e2 : j = 0 := by omega
      subst e1 e2
      simp only [execOp, Instr.sliceAt, Instr.slice, hx, Option.map_none]
      cases oa with
      | none =>
        have := hoa rfl
        subst this
        simp [run_underlying hT, hb, sizeOf, typeInfo, hi', slPart]
      | some a =>
        obtain ⟨ab, ao, asp⟩ := a
        by_cases hc0 : cap = 0
        · subst hc0
          simp [run_underlying hT, hb, sizeOf, typeInfo, hi', slPart]
        · simp [run_underlying hT, hb, sizeOf, typeInfo, hi', slPart, hc0, Addr.add]
  · refine st_sliceS hT hs hx hl hh h1 (by omega) ?_
    simpa [slPart] using hK
/-- Bytes that are read become a string. -/
theorem st_conv_strV {e : TypeId} {v : Value} {B : Mem} {l : List Nat} (hq : kconv R T T' = 1) (hB : Seen G R m B) (hs : P.underlying T = some (.slice e)) (he : P.underlying e = some (.int .u8)) (ht : P.underlying T' = some .string) (hx : a.eval x = v) (hv : Shows B 1 v l.length (l.map by8))
    (h : opsM P G R ops K rest (a.put d (sv l)) m) : opsM P G R ops K (⟨d, .convert T T' x, ty, pos, aft, none⟩ :: rest) a m :=
  st_conv hq (v := sv l) (fun w hG hm => by
    rcases hv with ⟨h0, _, oa, cap, rfl, _⟩ | ⟨b, o, cap, c, t, rfl, _, hb, hl, ho, hc⟩
    · have : l = [] := List.eq_nil_of_length_eq_zero h0
      subst this
      have hr : (convert T T' (.slice oa 0 cap)).run P w = .ok (.string ByteArray.empty) w := by
        rw [run_convert_bytes_string w T T' e oa 0 cap hs he ht]
        cases oa with
        | none => simp [Conv.bytesToString]
        | some a =>
          have := run_bytesToString (P := P) w a 0 cap [] (by simp [loadCells, loadCellsFrom])
          simpa using this
      simp only [execOp, hx]
      simp [hr]; rfl
    · have hin := hB.rin hG hm hb
      have := run_convert_bytes_arg (P := P) w T e hs he b o l.length cap (l.map fun n : Nat => (n : Int)) (by simp) (fun j hj => by
        have e1 : (l.map by8)[j]? = some (by8 l[j]) := by simp [hj]
        have h1 := hc j _ e1
        have hlt : o + j < c.size := (Array.getElem?_eq_some_iff.1 h1).1
        rw [hin.2 (o + j) hlt]
        simp only []
        rw [h1]
        simp [List.getD, hj]) T' ht
      rw [str_nums] at this
      simp only [execOp, hx]
      simp [this]) h

/-! ### Makes -/
theorem made_arr {z : Value} {n : Nat} {k : IntKind} (hz : z.cells = #[.int k 0]) : madeCells z.cells n = arr k n (fun _ => 0) := by
  rw [hz]
  apply Array.ext
  · simp [madeCells, arr]
  · intro i h1 h2
    simp [madeCells, arr, Nat.mod_one]
theorem st_make {e : TypeId} {kl kc k : IntKind} {n b : Nat} {z : Value} (hT : P.underlying T = some (.slice e)) (hs : (P.info? e).map (·.size) = some 1) (hb : (P.info? e).map (·.bytes) = some b) (hz : (P.info? e).bind (·.zero) = some z) (hzc : z.cells = #[.int k 0])
    (hx : a.eval x = .int kl (n : Int)) (hy : a.eval y = .int kc (n : Int)) (hn : b * n ≤ 281474976710656) (h63 : n ≤ 9223372036854775807)
    (h : ∀ r, (∀ x ∈ m, x.b ≠ r) → opsM P G R ops K rest (a.put d (.slice (some ⟨r, 0, none⟩) n n)) (m ++ [⟨r, arr k n (fun _ => 0), e⟩])) : opsM P G R ops K (⟨d, .makeSlice T x y, ty, pos, aft, none⟩ :: rest) a m :=
  .inr ⟨rfl, arr k n (fun _ => 0), e, fun r => .slice (some ⟨r, 0, none⟩) n n, fun w => by
    cases hi : P.info? e with
    | none => simp [hi] at hs
    | some i =>
      have hsz : i.size = 1 := by simpa [hi] using hs
      have hbz : i.bytes = b := by simpa [hi] using hb
      have hz' : i.zero = some z := by simpa [hi] using hz
      have hbn : ((b * n : Nat) : Int) ≤ 281474976710656 := by omega
      rw [Int.natCast_mul] at hbn
      have := run_make (P := P) w T e i z hT hi hz' kl kc n n (by omega) (by omega) (by rw [hbz]; exact hbn) (by omega)
      rw [hsz] at this
      simp only [Int.toNat_natCast, Nat.mul_one, made_arr hzc] at this
      simp only [execOp, hx, hy]
      simp [this], h⟩

/-! ### Writes by copy and append -/
theorem post_row {w : World} {b : Nat} {c c' : Array Value} {t : TypeId} (hin : In w ⟨b, c, t⟩) (hsz : c'.size = c.size) : Post [⟨b, c, t⟩] [⟨b, c', t⟩] [] w (w.setRow b c') :=
  ⟨⟨rfl, rfl, rfl, by simp [World.setRow], fun k _ hk => setRow_other w b k c' (by simpa using hk)⟩, fun x hx => by
    simp at hx; subst hx
    exact hin.set hsz, by simp [MemIn], by simp, by simp⟩
theorem post_drew (w : World) (c : Array Value) (t : TypeId) (l0 : Mem) (h0 : MemIn l0 w) : Post l0 l0 [⟨w.heap.size, c, t⟩] w (w.drew.alloc (.cells c t)) := by
  have hb : Below w.heap.size w (w.drew.alloc (.cells c t)) := (Below.refl w.heap.size w).drew.alloc (Nat.le_refl _) _
  refine ⟨Keep.of_below hb _, h0.later hb, fun x hx => ?_, by simp, by simp⟩
  simp at hx; subst hx
  refine In.of ?_
  show (w.heap.push _)[w.heap.size]? = _
  simp
/-- The run-time marks the place behind a string's bytes. -/
theorem post_marked (w : World) (c : Array Value) (t : TypeId) : Post [] [] [⟨w.heap.size, c, t⟩] w (w.drew.alloc (.cells c t (c.size, c.size + 1))) := by
  have hb : Below w.heap.size w (w.drew.alloc (.cells c t (c.size, c.size + 1))) := (Below.refl w.heap.size w).drew.alloc (Nat.le_refl _) _
  refine ⟨Keep.of_below hb _, by simp [MemIn], fun x hx => ?_, by simp, by simp⟩
  simp at hx; subst hx
  refine ⟨(c.size, c.size + 1), ?_, .inr (Nat.le_refl _)⟩
  show (w.heap.push _)[w.heap.size]? = _
  simp
/-- A string is copied into a block of bytes. -/
theorem st_copyStr {e : TypeId} {b o N dl cap i : Nat} {f : Nat → Nat} {t : TypeId} {l : List Nat} (hT : P.underlying T = some (.slice e)) (hs : (P.info? e).map (·.size) = some 1) (hx : a.eval x = .slice (some ⟨b, o, none⟩) dl cap) (hy : a.eval y = sv l) (hl : ∀ n ∈ l, n < 256)
    (hm : m[i]? = some ⟨b, arr .u8 N f, t⟩) (ho : o + dl ≤ N)
    (h : ∀ lr, List.Perm m (⟨b, arr .u8 N f, t⟩ :: lr) → opsM P G R ops K rest (a.put d (ii (min l.length dl))) (⟨b, arr .u8 N (fun j => if o ≤ j ∧ j < o + min l.length dl then l.getD (j - o) 0 else f j), t⟩ :: lr)) : opsM P G R ops K (⟨d, .call ⟨.builtin .copy, #[x, y], #[T, T']⟩, ty, pos, aft, none⟩ :: rest) a m := by
  have hmem : (⟨b, arr .u8 N f, t⟩ : Blk) ∈ m := mem_of_get hm
  obtain ⟨l1, l2, hml⟩ := List.append_of_mem hmem
  have hp : List.Perm m (⟨b, arr .u8 N f, t⟩ :: (l1 ++ l2)) := by rw [hml]; exact List.perm_middle
  obtain ⟨c', hc'⟩ : ∃ c', c' = arr .u8 N (fun j => if o ≤ j ∧ j < o + min l.length dl then l.getD (j - o) 0 else f j) := ⟨_, rfl⟩
  refine .inr ⟨rfl, ?_⟩
  show coreM _ _ _ _ _ _ _ 5
  refine ⟨[⟨b, arr .u8 N f, t⟩], l1 ++ l2, fun v r1 nw => v = ii (min l.length dl) ∧ r1 = [⟨b, c', t⟩] ∧ nw = [], by simpa using hp, ⟨_, _, _, ⟨rfl, rfl, rfl⟩, by simp, by simp⟩, ?_, ?_, ?_⟩
  · rintro v r1 nw ⟨_, rfl, _⟩; rfl
  · intro w _ hw _
    have hin := hw _ hmem
    refine .inl ⟨_, _, _, w.setRow b c', ?_, ⟨rfl, rfl, rfl⟩, post_row hin (by rw [hc', arr_size, arr_size])⟩
    cases hi : P.info? e with
    | none => simp [hi] at hs
    | some k =>
      have hsz : k.size = 1 := by simpa [hi] using hs
      have hf : (Builtin.firstCells 1 (min l.length dl) (sv l)).run P w = .ok ((l.take (min l.length dl)).map by8).toArray w := by
        simp only [Builtin.firstCells]
        rw [bstr_cut]
        simp only [Sem.run_pure, List.drop_zero, Nat.sub_zero]
        congr 1
        unfold bstr
        apply Array.ext'
        simp only [Array.toList_map, List.map_map]
        exact List.map_congr_left fun n hn => by
          have := hl n (List.mem_of_mem_take hn)
          simp
          omega
      have hst := run_storeCells_in (P := P) b o t ((l.take (min l.length dl)).map by8) 0 (arr .u8 N f) w hin (by simp [arr_size]; omega) (fun v hv => by
        obtain ⟨n, _, rfl⟩ := List.mem_map.1 hv; rfl)
      have hc2 : ((arr .u8 N f).toList.take (o + 0) ++ (l.take (min l.length dl)).map by8 ++ (arr .u8 N f).toList.drop (o + 0 + ((l.take (min l.length dl)).map by8).length)).toArray = c' := by
        rw [hc']
        apply Array.ext
        · simp [arr]; omega
        · intro j h1 h2
          have hjN : j < N := by simpa [arr] using h2
          simp only [List.getElem_toArray]
          by_cases ha : j < o
          · rw [List.getElem_append_left (by simp [arr]; omega), List.getElem_append_left (by simp [arr]; omega)]
            have : ¬ (o ≤ j ∧ j < o + min l.length dl) := by omega
            simp [arr, this]
          · by_cases hb2 : j < o + min l.length dl
            · rw [List.getElem_append_left (by simp [arr]; omega), List.getElem_append_right (by simp [arr]; omega)]
              have h3 : o ≤ j ∧ j < o + min l.length dl := by omega
              have h4 : j - o < l.length := by omega
              have h5 : min o N = o := by omega
              simp [arr, h3, h5, List.getD, h4]
            · rw [List.getElem_append_right (by simp [arr]; omega)]
              have h3 : ¬ (o ≤ j ∧ j < o + min l.length dl) := by omega
              have h5 : min o N = o := by omega
              simp [arr, h3, h5]
              congr 2
              omega
      rw [hc2] at hst
      generalize (l.take (min l.length dl)).map by8 = vs at hf hst
      have hmin : Nat.min l.length dl = min l.length dl := rfl
      simp only [execOp, resolve, invoke, builtin, Sem.run_bind, Sem.run_pure, Result.andThen_ok, List.map_toArray, List.map_cons, List.map_nil, hx, hy]
      simp [Builtin.copy_, run_underlying hT, Builtin.lenOf, bstr_size, sizeOf, typeInfo, hi, hsz, hmin, hf, hst, goInt]
  · rintro v r1 nw ⟨rfl, rfl, rfl⟩ _
    rw [hc']
    simpa using h (l1 ++ l2) hp

end Go.Proofs.Ytmnmhmpklknleaa
