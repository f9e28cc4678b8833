/-
  Structs as rows of parts: each part a row of cells; loads, stores and equality by parts.
-/
import Derived.Test.YtmnmhmpklknleaaEnv8
namespace Go.Proofs.Ytmnmhmpklknleaa
open Go Go.RowKit

abbrev Part := Nat × (Nat → Value)
def catF : List Part → Nat → Value
  | [], _ => .bool false
  | p :: ps, i => if i < p.1 then p.2 i else catF ps (i - p.1)
def catAt : List Part → Nat → Option (Nat × Part)
  | [], _ => none
  | p :: _, 0 => some (0, p)
  | p :: ps, k + 1 => match catAt ps k with
    | none => none
    | some q => some (p.1 + q.1, q.2)
def catSet : List Part → Nat → (Nat → Value) → List Part
  | [], _, _ => []
  | p :: ps, 0, F => (p.1, F) :: ps
  | p :: ps, k + 1, F => p :: catSet ps k F
def catOk : List Part → Prop
  | [] => True
  | p :: ps => (∀ i, (p.2 i).oneCell' = true) ∧ catOk ps
abbrev pI (k : IntKind) (l : Nat) (f : Nat → Nat) : Part := (l, fun i => .int k (f i : Int))
abbrev pV (v : Value) : Part := (1, fun _ => v)
/-- A struct's cells. -/
abbrev cells (N : Nat) (ps : List Part) : Array Value := arrv N (catF ps)

theorem cat_part : ∀ {ps : List Part} {k o l : Nat} {F : Nat → Value}, catAt ps k = some (o, l, F) → ∀ t, t < l → catF ps (o + t) = F t
  | [], _, _, _, _, h, _, _ => by simp [catAt] at h
  | p :: ps, 0, o, l, F, h, t, ht => by
    simp only [catAt, Option.some.injEq, Prod.mk.injEq] at h
    obtain ⟨rfl, rfl⟩ := h
    simp [catF, ht]
  | p :: ps, k + 1, o, l, F, h, t, ht => by
    simp only [catAt] at h
    cases hq : catAt ps k with
    | none => simp [hq] at h
    | some q =>
      obtain ⟨o', l', F'⟩ := q
      simp only [hq, Option.some.injEq, Prod.mk.injEq] at h
      obtain ⟨rfl, rfl, rfl⟩ := h
      have := cat_part hq t ht
      simp only [catF]
      rw [if_neg (by omega), show p.1 + o' + t - p.1 = o' + t by omega, this]
theorem cat_put : ∀ {ps : List Part} {k o l : Nat} {F : Nat → Value} (A : Nat → Value), catAt ps k = some (o, l, F) → ∀ i, putv (catF ps) o l A i = catF (catSet ps k A) i
  | [], _, _, _, _, _, h, _ => by simp [catAt] at h
  | p :: ps, 0, o, l, F, A, h, i => by
    simp only [catAt, Option.some.injEq, Prod.mk.injEq] at h
    obtain ⟨rfl, rfl⟩ := h
    simp only [putv, catF, catSet]
    by_cases hi : i < l
    · rw [if_pos (by omega), if_pos hi, Nat.sub_zero]
    · rw [if_neg (by omega), if_neg hi, if_neg hi]
  | p :: ps, k + 1, o, l, F, A, h, i => by
    simp only [catAt] at h
    cases hq : catAt ps k with
    | none => simp [hq] at h
    | some q =>
      obtain ⟨o', l', F'⟩ := q
      simp only [hq, Option.some.injEq, Prod.mk.injEq] at h
      obtain ⟨rfl, rfl, rfl⟩ := h
      have := cat_put A hq (i - p.1)
      simp only [catF, catSet]
      rw [← this]
      simp only [putv]
      by_cases hi : i < p.1
      · rw [if_neg (by omega), if_pos hi, if_pos hi]
      · rw [if_neg hi, if_neg hi]
        by_cases h2 : o' ≤ i - p.1 ∧ i - p.1 < o' + l'
        · rw [if_pos (by omega), if_pos h2]; congr 1; omega
        · rw [if_neg (by omega), if_neg h2]
theorem putv_one (F : Nat → Value) (o : Nat) (v : Value) : putv F o 1 (fun _ => v) = updv F o v := by
  funext i
  unfold putv updv
  by_cases h : i = o
  · subst h; rw [if_pos (by omega), if_pos rfl]
  · rw [if_neg (by omega), if_neg h]
theorem cat_upd {ps : List Part} {k o l : Nat} {F : Nat → Value} {j : Nat} (v : Value) (h : catAt ps k = some (o, l, F)) (hj : j < l) (i : Nat) : updv (catF ps) (o + j) v i = catF (catSet ps k (updv F j v)) i := by
  rw [← cat_put _ h i]
  unfold updv putv
  by_cases h1 : i = o + j
  · subst h1
    rw [if_pos rfl, if_pos (by omega)]
    show v = if o + j - o = j then v else F (o + j - o)
    rw [if_pos (by omega)]
  · rw [if_neg h1]
    by_cases h2 : o ≤ i ∧ i < o + l
    · rw [if_pos h2]
      show catF ps i = if i - o = j then v else F (i - o)
      rw [if_neg (by omega)]
      have := cat_part h (i - o) (by omega)
      rw [← this]; congr 1; omega
    · rw [if_neg h2]
theorem upd_int (k : IntKind) (f : Nat → Nat) (j v : Nat) : updv (fun i => .int k (f i : Int)) j (.int k (v : Int)) = fun i => .int k (upd f j v i : Int) := by
  funext i
  unfold updv upd
  split <;> rfl
theorem cat_one : ∀ {ps : List Part}, catOk ps → ∀ i, (catF ps i).oneCell' = true
  | [], _, _ => rfl
  | p :: ps, h, i => by
    simp only [catF]
    split
    · exact h.1 _
    · exact cat_one h.2 _
theorem cells_one {N : Nat} {ps : List Part} (h : catOk ps) : ∀ v ∈ cells N ps, v.oneCell' = true := fun v hv => by
  simp [cells, arrv] at hv
  obtain ⟨i, _, rfl⟩ := hv
  exact cat_one h i
theorem cells_sz {N : Nat} {ps qs : List Part} : (cells N ps).size = (cells N qs).size := by rw [arrv_size, arrv_size]

section
variable {P : Program} {G : Mem} {R : Reg} {ops : Array Oper} {n : Nat} {K : Env → Mm → Prop} {rest : List Oper} {E : Env} {M : Mm} {d : Nat} {ty : TypeId} {pos : String} {aft : Array Edge}
variable {T T' : TypeId} {x y : Operand}
/-- A part that is a row of numbers. -/
theorem e_ldC (k : Nat) {b i o l N : Nat} {kd : IntKind} {f : Nat → Nat} {ps : List Part} {t : TypeId} {td : TypeDesc} (hT : P.underlying T = some td) (hn : rowLike td = true) (hs : (P.info? T).map (·.size) = some l)
    (hx : rd E x = some (.pointer (some ⟨b, o, none⟩))) (hm : lkM M i = some ⟨b, cells N ps, t⟩) (hk : catAt ps k = some (o, pI kd l f)) (ho : o + l ≤ N) (hd : Nat.blt d n = true) (hX : ∃ js, okX M i js R.X) (h : OpsE P G R ops n K rest ((d, .agg (arr kd l f)) :: E) M) :
    OpsE P G R ops n K (⟨some d, .load T x, ty, pos, aft, none⟩ :: rest) E M :=
  e_ldP hT hn hs hx hm ho hd hX (by rw [arrv_congr (fun t ht => cat_part hk t ht), ← arr_arrv]; exact h)
/-- One number of a part. -/
theorem e_ldI (k j : Nat) {b i o o' l N : Nat} {kd : IntKind} {f : Nat → Nat} {ps : List Part} {t : TypeId} {td : TypeDesc} (hT : P.underlying T = some td) (hn : rowLike td = false)
    (hx : rd E x = some (.pointer (some ⟨b, o', none⟩))) (hm : lkM M i = some ⟨b, cells N ps, t⟩) (hk : catAt ps k = some (o, pI kd l f)) (ho : o' = o + j) (hj : j < l) (hN : o' < N) (hd : Nat.blt d n = true) (hX : ∃ js, okX M i js R.X) (h : OpsE P G R ops n K rest ((d, .int kd (f j : Int)) :: E) M) :
    OpsE P G R ops n K (⟨some d, .load T x, ty, pos, aft, none⟩ :: rest) E M :=
  e_load1 (v := .int kd (f j : Int)) hT hn hx hm (by rw [cells, arrv_get hN, ho, cat_part hk j hj]) hd hX h
/-- A part of one cell. -/
theorem e_ldV1 (k : Nat) {b i o N : Nat} {v : Value} {ps : List Part} {t : TypeId} {td : TypeDesc} (hT : P.underlying T = some td) (hn : rowLike td = false)
    (hx : rd E x = some (.pointer (some ⟨b, o, none⟩))) (hm : lkM M i = some ⟨b, cells N ps, t⟩) (hk : catAt ps k = some (o, pV v)) (hN : o < N) (hd : Nat.blt d n = true) (hX : ∃ js, okX M i js R.X) (h : OpsE P G R ops n K rest ((d, v) :: E) M) :
    OpsE P G R ops n K (⟨some d, .load T x, ty, pos, aft, none⟩ :: rest) E M :=
  e_load1 (v := v) hT hn hx hm (by have := cat_part hk 0 (by decide); rw [Nat.add_zero] at this; rw [cells, arrv_get hN, this]) hd hX h
theorem e_stC (k : Nat) {b o i l N : Nat} {kd : IntKind} {f : Nat → Nat} {F : Nat → Value} {ps : List Part} {t : TypeId} (hs : (P.info? T).map (·.size) = some l) (hx : rd E x = some (.pointer (some ⟨b, o, none⟩))) (hy : rd E y = some (.agg (arr kd l f)))
    (hm : lkM M i = some ⟨b, cells N ps, t⟩) (hk : catAt ps k = some (o, l, F)) (ho : o + l ≤ N) (hX : R.X = [] ∨ b ∈ R.X) (h : OpsE P G R ops n K rest E ((i, some ⟨b, cells N (catSet ps k (fun i => .int kd (f i : Int))), t⟩) :: M)) : OpsE P G R ops n K (⟨none, .store T x y, ty, pos, aft, none⟩ :: rest) E M :=
  e_stP (A := fun i => .int kd (f i : Int)) hs hx hy (fun _ _ => rfl) hm ho hX (by rw [funext (cat_put _ hk)]; exact h)
theorem e_stI (k j : Nat) {b o o' i l v N : Nat} {kd : IntKind} {f : Nat → Nat} {ps : List Part} {t : TypeId} (hs : (P.info? T).map (·.size) = some 1) (hx : rd E x = some (.pointer (some ⟨b, o', none⟩))) (hy : rd E y = some (.int kd (v : Int)))
    (hm : lkM M i = some ⟨b, cells N ps, t⟩) (hk : catAt ps k = some (o, pI kd l f)) (ho : o' = o + j) (hj : j < l) (hN : o' < N) (hX : R.X = [] ∨ b ∈ R.X) (h : OpsE P G R ops n K rest E ((i, some ⟨b, cells N (catSet ps k (fun i => .int kd (upd f j v i : Int))), t⟩) :: M)) : OpsE P G R ops n K (⟨none, .store T x y, ty, pos, aft, none⟩ :: rest) E M :=
  e_st1 hs hx hy rfl hm hN hX (by rw [ho, funext (cat_upd _ hk hj), upd_int]; exact h)
theorem e_stV (k : Nat) {b o i N : Nat} {v : Value} {F : Nat → Value} {ps : List Part} {t : TypeId} (hs : (P.info? T).map (·.size) = some 1) (hx : rd E x = some (.pointer (some ⟨b, o, none⟩))) (hy : rd E y = some v) (hv : v.oneCell' = true)
    (hm : lkM M i = some ⟨b, cells N ps, t⟩) (hk : catAt ps k = some (o, 1, F)) (hN : o < N) (hX : R.X = [] ∨ b ∈ R.X) (h : OpsE P G R ops n K rest E ((i, some ⟨b, cells N (catSet ps k (fun _ => v)), t⟩) :: M)) : OpsE P G R ops n K (⟨none, .store T x y, ty, pos, aft, none⟩ :: rest) E M :=
  e_st1 hs hx hy hv hm hN hX (by rw [← putv_one, funext (cat_put _ hk)]; exact h)
/-- A field of a struct that is a value: a row of numbers. -/
theorem st_fieldC {d : Option Tmp} {a : Act} {m : Mem} {K : Act → Mem → Prop} {f k o l N : Nat} {kd : IntKind} {g : Nat → Nat} {ps : List Part} {fs : Array Field} {fd : Field} {td : TypeDesc} (hT : P.underlying T = some (.struct fs)) (hf : fs[f]? = some fd) (he : P.underlying fd.type = some td) (hn : rowLike td = true) (hs : (P.info? fd.type).map (·.size) = some l)
    (hx : a.eval x = .agg (cells N ps)) (hk : catAt ps k = some (o, pI kd l g)) (ho : fd.offset = o) (hN : o + l ≤ N) (h : opsM P G R ops K rest (a.put d (.agg (arr kd l g))) m) : opsM P G R ops K (⟨d, .field T x f, ty, pos, aft, none⟩ :: rest) a m :=
  st_quiet (v := .agg (arr kd l g)) rfl rfl (fun w => by
    cases hi : P.info? fd.type with
    | none => simp [hi] at hs
    | some i =>
      have hsz : i.size = l := by simpa [hi] using hs
      have he2 : (cells N ps).extract o (o + l) = arr kd l g := by rw [cells, arrv_part N o l _ hN, arrv_congr (fun t ht => cat_part hk t ht), ← arr_arrv]
      have hp : (part fd.type (cells N ps) o).run P w = .ok (.agg (arr kd l g)) w := by
        unfold part
        simp only [Sem.run_bind, run_isAgg he, Result.andThen_ok, hn, if_true, sizeOf, typeInfo]
        simp [hi, hsz, he2]
      simp only [execOp, Instr.field, hx, underlying, program]
      simp [Sem.run, hT, hf, ho, asAgg]
      simp [hp]) h
theorem e_fieldC (k : Nat) {f o l N : Nat} {kd : IntKind} {g : Nat → Nat} {ps : List Part} {fs : Array Field} {fd : Field} {td : TypeDesc} (hT : P.underlying T = some (.struct fs)) (hf : fs[f]? = some fd) (he : P.underlying fd.type = some td) (hn : rowLike td = true) (hs : (P.info? fd.type).map (·.size) = some l)
    (hx : rd E x = some (.agg (cells N ps))) (hk : catAt ps k = some (o, pI kd l g)) (ho : fd.offset = o) (hN : o + l ≤ N) (hd : Nat.blt d n = true) (h : OpsE P G R ops n K rest ((d, .agg (arr kd l g)) :: E) M) : OpsE P G R ops n K (⟨some d, .field T x f, ty, pos, aft, none⟩ :: rest) E M :=
  fun _ _ ha hM => st_fieldC hT hf he hn hs (ha.rd hx) hk ho hN (h _ _ (ha.put hd _) hM)
end
section
variable {P : Program} {G : Mem} {R : Reg} {ops : Array Oper} {n : Nat} {K : Env → Mm → Prop} {rest : List Oper} {E : Env} {M : Mm} {d : Nat} {ty : TypeId} {pos : String} {aft : Array Edge}
/-- What hangs on an operation that was left out is left out. -/
theorem e_no2 {op : Op} {g s : Nat} {want : Bool} (hg : (ops[g]?).bind (·.dst) = some s) (hb : lk E s = some undef) (hd : Nat.blt d n = true) (h : OpsE P G R ops n K rest ((d, undef) :: E) M) :
    OpsE P G R ops n K (⟨some d, op, ty, pos, aft, some (g, want)⟩ :: rest) E M := fun a m ha hM => .inl ⟨by
      have hy : Go.yielded ops a.tmps g = none := by
        unfold Go.yielded
        rw [hg]
        simp [ha.slots _ _ hb, undef]
      simp [Region.wanted, hy], h _ _ (ha.put hd _) hM⟩
end
end Go.Proofs.Ytmnmhmpklknleaa
