/-
  Blocks of cells of any kinds, as functions of the place; structs.
-/
import Derived.Test.YtmnmhmpklknleaaEnv5
namespace Go.Proofs.Ytmnmhmpklknleaa
open Go Go.RowKit

def arrv (n : Nat) (F : Nat → Value) : Array Value := ((List.range n).map F).toArray
def updv (F : Nat → Value) (j : Nat) (v : Value) : Nat → Value := fun i => if i = j then v else F i
/-- l cells from o on are others. -/
def putv (F : Nat → Value) (o l : Nat) (A : Nat → Value) : Nat → Value := fun i => if o ≤ i ∧ i < o + l then A (i - o) else F i
theorem arr_arrv (k : IntKind) (n : Nat) (f : Nat → Nat) : arr k n f = arrv n (fun i => .int k (f i : Int)) := rfl
theorem arrv_size (n : Nat) (F : Nat → Value) : (arrv n F).size = n := by simp [arrv]
theorem arrv_get {n j : Nat} {F : Nat → Value} (h : j < n) : (arrv n F)[j]? = some (F j) := by simp [arrv, h]
theorem arrv_nth {n j : Nat} {F : Nat → Value} (h : j < n) : (arrv n F).toList[j]? = some (F j) := by simp [arrv, h]
theorem arrv_congr {n : Nat} {F H : Nat → Value} (h : ∀ j, j < n → F j = H j) : arrv n F = arrv n H := by
  unfold arrv
  congr 1
  exact List.map_congr_left fun i hi => h i (by simpa using hi)
theorem arrv_set {n : Nat} {F : Nat → Value} (j : Nat) (v : Value) : (arrv n F).setIfInBounds j v = arrv n (updv F j v) := by
  apply Array.ext
  · simp [arrv_size]
  · intro i h1 h2
    have hi : i < n := by simpa [arrv_size] using h2
    by_cases e : j = i
    · subst e; simp [arrv, updv]
    · have e' : ¬ i = j := fun h => e h.symm
      simp [arrv, updv, e, e']
theorem arrv_part (N o l : Nat) (F : Nat → Value) (h : o + l ≤ N) : (arrv N F).extract o (o + l) = arrv l (fun t => F (o + t)) := by
  apply Array.ext
  · simp [arrv]; omega
  · intro i h1 h2
    simp [arrv]
theorem arrv_put (N o l : Nat) (F A : Nat → Value) (h : o + l ≤ N) : ((arrv N F).toList.take o ++ (arrv l A).toList ++ (arrv N F).toList.drop (o + l)).toArray = arrv N (putv F o l A) := by
  apply Array.ext
  · simp [arrv]; omega
  · intro j h1 h2
    have hj : j < N := by simpa [arrv] using h2
    simp only [List.getElem_toArray]
    by_cases ha : j < o
    · rw [List.getElem_append_left (by simp [arrv]; omega), List.getElem_append_left (by simp [arrv]; omega)]
      simp [arrv, putv, show ¬ (o ≤ j ∧ j < o + l) by omega]
    · by_cases hb : j < o + l
      · rw [List.getElem_append_left (by simp [arrv]; omega), List.getElem_append_right (by simp [arrv]; omega)]
        have h5 : min o N = o := by omega
        simp [arrv, putv, h5, show o ≤ j ∧ j < o + l by omega]
      · rw [List.getElem_append_right (by simp [arrv]; omega)]
        have h5 : min o N = o := by omega
        simp [arrv, putv, h5, show ¬ (o ≤ j ∧ j < o + l) by omega]
        congr 1
        omega
theorem setRow_blk {w : World} {b : Nat} {c' : Array Value} {t : TypeId} : w.setRow b c' = setBlk w ⟨b, c', t⟩ := rfl

section
variable {P : Program} {G : Mem} {R : Reg} {ops : Array Oper} {K : Act → Mem → Prop} {rest : List Oper} {a : Act} {m : Mem} {d : Option Tmp} {ty : TypeId} {pos : String} {aft : Array Edge}
variable {T T' : TypeId} {x y : Operand}
/-- A store into a part of a block. -/
theorem st_storeP {b o i l N : Nat} {F A : Nat → Value} {t : TypeId} (hs : (P.info? T).map (·.size) = some l) (hx : a.eval x = .pointer (some ⟨b, o, none⟩)) (hy : a.eval y = .agg (arrv l A)) (hA : ∀ j, j < l → (A j).oneCell' = true)
    (hm : m[i]? = some ⟨b, arrv N F, t⟩) (hX : R.X = [] ∨ b ∈ R.X) (ho : o + l ≤ N) (h : opsM P G R ops K rest (a.put d undef) (m.set i ⟨b, arrv N (putv F o l A), t⟩)) : opsM P G R ops K (⟨d, .store T x y, ty, pos, aft, none⟩ :: rest) a m :=
  store_at hm hX (arrv N (putv F o l A)) (by simp [arrv_size]) (fun w hin => by
    have hst := run_storeCells_in (P := P) b o t (arrv l A).toList 0 (arrv N F) w hin (by simp [arrv_size]; omega) (fun v hv => by
      simp [arrv] at hv
      obtain ⟨j, hj, rfl⟩ := hv
      exact hA j hj)
    have hl : (arrv l A).toList.length = l := by simp [arrv]
    rw [hl, Nat.add_zero, arrv_put N o l F A ho, setRow_blk (t := t)] at hst
    cases hi : P.info? T with
    | none => simp [hi] at hs
    | some j =>
      have hsz : j.size = l := by simpa [hi] using hs
      simp only [execOp, Instr.storeAt, hx, hy, Instr.sureAddr, storeVar, sizeOf, typeInfo]
      simp [hi, hsz, Value.cells, arrv_size, hst]) h
end
section
variable {P : Program} {G : Mem} {R : Reg} {ops : Array Oper} {n : Nat} {K : Env → Mm → Prop} {rest : List Oper} {E : Env} {M : Mm} {d : Nat} {ty : TypeId} {pos : String} {aft : Array Edge}
variable {T T' : TypeId} {x y : Operand}
theorem e_ldP {b i o l N : Nat} {F : Nat → Value} {t : TypeId} {td : TypeDesc} (hT : P.underlying T = some td) (hn : rowLike td = true) (hs : (P.info? T).map (·.size) = some l)
    (hx : rd E x = some (.pointer (some ⟨b, o, none⟩))) (hm : lkM M i = some ⟨b, arrv N F, t⟩) (ho : o + l ≤ N) (hd : Nat.blt d n = true) (hX : ∃ js, okX M i js R.X) (h : OpsE P G R ops n K rest ((d, .agg (arrv l (fun t => F (o + t)))) :: E) M) :
    OpsE P G R ops n K (⟨some d, .load T x, ty, pos, aft, none⟩ :: rest) E M :=
  fun _ _ ha hM => by
    obtain ⟨j, hj⟩ := hM.at hm
    obtain ⟨js, hjs⟩ := hX
    exact st_loadS hT hn hs (ha.rd hx) hj (okX_not hM hm hjs) (by rw [arrv_size]; exact ho) (by rw [arrv_part N o l F ho]; exact h _ _ (ha.put hd _) hM)
theorem e_st1 {b o i N : Nat} {F : Nat → Value} {v : Value} {t : TypeId} (hs : (P.info? T).map (·.size) = some 1) (hx : rd E x = some (.pointer (some ⟨b, o, none⟩))) (hy : rd E y = some v) (hv : v.oneCell' = true)
    (hm : lkM M i = some ⟨b, arrv N F, t⟩) (ho : o < N) (hX : R.X = [] ∨ b ∈ R.X) (h : OpsE P G R ops n K rest E ((i, some ⟨b, arrv N (updv F o v), t⟩) :: M)) : OpsE P G R ops n K (⟨none, .store T x y, ty, pos, aft, none⟩ :: rest) E M :=
  fun _ _ ha hM => by
    obtain ⟨j, hj⟩ := hM.at hm
    exact st_store1 hs (ha.rd hx) (ha.rd hy) hv hj hX (by rw [arrv_size]; exact ho) (by rw [arrv_set]; exact h _ _ ha (hM.store hm hj _))
theorem e_stP {b o i l N : Nat} {F A : Nat → Value} {t : TypeId} (hs : (P.info? T).map (·.size) = some l) (hx : rd E x = some (.pointer (some ⟨b, o, none⟩))) (hy : rd E y = some (.agg (arrv l A))) (hA : ∀ j, j < l → (A j).oneCell' = true)
    (hm : lkM M i = some ⟨b, arrv N F, t⟩) (ho : o + l ≤ N) (hX : R.X = [] ∨ b ∈ R.X) (h : OpsE P G R ops n K rest E ((i, some ⟨b, arrv N (putv F o l A), t⟩) :: M)) : OpsE P G R ops n K (⟨none, .store T x y, ty, pos, aft, none⟩ :: rest) E M :=
  fun _ _ ha hM => by
    obtain ⟨j, hj⟩ := hM.at hm
    exact st_storeP hs (ha.rd hx) (ha.rd hy) hA hj hX ho (h _ _ ha (hM.store hm hj _))
/-- A block is as another one, as is known. -/
theorem e_blk {l : List Oper} {s b : Nat} {c c' : Array Value} {t : TypeId} (hc : c = c') (h : OpsE P G R ops n K l E ((s, some ⟨b, c', t⟩) :: M)) : OpsE P G R ops n K l E ((s, some ⟨b, c, t⟩) :: M) := by rw [hc]; exact h
end
end Go.Proofs.Ytmnmhmpklknleaa
