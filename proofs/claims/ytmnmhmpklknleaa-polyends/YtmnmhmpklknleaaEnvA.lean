/-
  Bytes of a string copied into a part of a struct; a struct against itself.
-/
import Derived.Test.YtmnmhmpklknleaaEnv9
namespace Go.Proofs.Ytmnmhmpklknleaa
open Go Go.RowKit

theorem cat_putp {ps : List Part} {k o l kk : Nat} {F : Nat → Value} (A : Nat → Value) (h : catAt ps k = some (o, l, F)) (hk : kk ≤ l) (i : Nat) : putv (catF ps) o kk A i = catF (catSet ps k (putv F 0 kk A)) i := by
  rw [← cat_put _ h i]
  unfold putv
  by_cases h1 : o ≤ i ∧ i < o + kk
  · rw [if_pos h1, if_pos (by omega)]
    show A (i - o) = if 0 ≤ i - o ∧ i - o < 0 + kk then A (i - o - 0) else F (i - o)
    rw [if_pos (by omega), Nat.sub_zero]
  · rw [if_neg h1]
    by_cases h2 : o ≤ i ∧ i < o + l
    · rw [if_pos h2]
      show catF ps i = if 0 ≤ i - o ∧ i - o < 0 + kk then A (i - o - 0) else F (i - o)
      rw [if_neg (by omega)]
      have := cat_part h (i - o) (by omega)
      rw [← this]; congr 1; omega
    · rw [if_neg h2]
theorem putv_bytes (f : Nat → Nat) (kk : Nat) (l : List Nat) : putv (fun i => .int .u8 (f i : Int)) 0 kk (fun j => by8 (l.getD j 0)) = fun i => .int .u8 ((if i < kk then l.getD i 0 else f i : Nat) : Int) := by
  funext i
  unfold putv
  by_cases h : i < kk
  · rw [if_pos (by omega), if_pos h, Nat.sub_zero]
  · rw [if_neg (by omega), if_neg h]
theorem take_arrv (l : List Nat) (k : Nat) (h : k ≤ l.length) : (l.take k).map by8 = (arrv k (fun j => by8 (l.getD j 0))).toList := by
  apply List.ext_getElem
  · simp [arrv]; omega
  · intro j h1 h2
    have hj : j < l.length := by
      have h3 := h1
      rw [List.length_map, List.length_take] at h3
      omega
    simp [arrv, List.getD, hj]
section
variable {P : Program} {G : Mem} {R : Reg} {ops : Array Oper} {K : Act → Mem → Prop} {rest : List Oper} {a : Act} {m : Mem} {d : Option Tmp} {ty : TypeId} {pos : String} {aft : Array Edge}
variable {T T' : TypeId} {x y : Operand}
theorem st_copyV {e : TypeId} {b o N dl cap i : Nat} {F : Nat → Value} {t : TypeId} {l : List Nat} (hT : P.underlying T = some (.slice e)) (hs : (P.info? e).map (·.size) = some 1) (hx : a.eval x = .slice (some ⟨b, o, none⟩) dl cap) (hy : a.eval y = sv l) (hl : ∀ n ∈ l, n < 256)
    (hm : m[i]? = some ⟨b, arrv N F, t⟩) (ho : o + dl ≤ N)
    (h : ∀ lr, List.Perm m (⟨b, arrv N F, t⟩ :: lr) → opsM P G R ops K rest (a.put d (ii (min l.length dl))) (⟨b, arrv N (putv F o (min l.length dl) (fun j => by8 (l.getD j 0))), t⟩ :: lr)) : opsM P G R ops K (⟨d, .call ⟨.builtin .copy, #[x, y], #[T, T']⟩, ty, pos, aft, none⟩ :: rest) a m := by
  have hmem : (⟨b, arrv N F, t⟩ : Blk) ∈ m := mem_of_get hm
  obtain ⟨l1, l2, hml⟩ := List.append_of_mem hmem
  have hp : List.Perm m (⟨b, arrv N F, t⟩ :: (l1 ++ l2)) := by rw [hml]; exact List.perm_middle
  obtain ⟨c', hc'⟩ : ∃ c', c' = arrv N (putv F o (min l.length dl) (fun j => by8 (l.getD j 0))) := ⟨_, rfl⟩
  refine .inr ⟨rfl, ?_⟩
  show coreM _ _ _ _ _ _ _ 5
  refine ⟨[⟨b, arrv N F, t⟩], l1 ++ l2, fun v r1 nw => v = ii (min l.length dl) ∧ r1 = [⟨b, c', t⟩] ∧ nw = [], by simpa using hp, ⟨_, _, _, ⟨rfl, rfl, rfl⟩, by simp, by simp⟩, ?_, ?_, ?_⟩
  · rintro v r1 nw ⟨_, rfl, _⟩; rfl
  · intro w _ hw _
    have hin := hw _ hmem
    refine .inl ⟨_, _, _, w.setRow b c', ?_, ⟨rfl, rfl, rfl⟩, post_row hin (by rw [hc', arrv_size, arrv_size])⟩
    cases hi : P.info? e with
    | none => simp [hi] at hs
    | some k =>
      have hsz : k.size = 1 := by simpa [hi] using hs
      have hf : (Builtin.firstCells 1 (min l.length dl) (sv l)).run P w = .ok ((l.take (min l.length dl)).map by8).toArray w := by
        simp only [Builtin.firstCells]
        rw [bstr_cut]
        simp only [Sem.run_pure, List.drop_zero, Nat.sub_zero]
        congr 1
        unfold bstr
        apply Array.ext'
        simp only [Array.toList_map, List.map_map]
        exact List.map_congr_left fun n hn => by
          have := hl n (List.mem_of_mem_take hn)
          simp
          omega
      have hst := run_storeCells_in (P := P) b o t ((l.take (min l.length dl)).map by8) 0 (arrv N F) w hin (by simp [arrv_size]; omega) (fun v hv => by
        obtain ⟨n, _, rfl⟩ := List.mem_map.1 hv; rfl)
      have hlen : ((l.take (min l.length dl)).map by8).length = min l.length dl := by simp
      rw [hlen, Nat.add_zero, take_arrv l _ (by omega), arrv_put N o _ F _ (by omega), ← hc', ← take_arrv l _ (by omega)] at hst
      generalize (l.take (min l.length dl)).map by8 = vs at hf hst
      have hmin : Nat.min l.length dl = min l.length dl := rfl
      simp only [execOp, resolve, invoke, builtin, Sem.run_bind, Sem.run_pure, Result.andThen_ok, List.map_toArray, List.map_cons, List.map_nil, hx, hy]
      simp [Builtin.copy_, run_underlying hT, Builtin.lenOf, bstr_size, sizeOf, typeInfo, hi, hsz, hmin, hf, hst, goInt]
  · rintro v r1 nw ⟨rfl, rfl, rfl⟩ _
    rw [hc']
    simpa using h (l1 ++ l2) hp
end
section
variable {P : Program} {G : Mem} {R : Reg} {ops : Array Oper} {n : Nat} {K : Env → Mm → Prop} {rest : List Oper} {E : Env} {M : Mm} {d : Nat} {ty : TypeId} {pos : String} {aft : Array Edge}
variable {T T' : TypeId} {x y : Operand}
/-- Bytes are copied into a part that is a row of bytes. -/
theorem e_copyC (k : Nat) {e : TypeId} {b o N dl cap i L : Nat} {f : Nat → Nat} {ps : List Part} {t : TypeId} {l : List Nat} (hT : P.underlying T = some (.slice e)) (hs : (P.info? e).map (·.size) = some 1) (hx : rd E x = some (.slice (some ⟨b, o, none⟩) dl cap)) (hy : rd E y = some (sv l)) (hl : ∀ q ∈ l, q < 256)
    (hm : lkM M i = some ⟨b, cells N ps, t⟩) (hk : catAt ps k = some (o, pI .u8 L f)) (hL : dl ≤ L) (ho : o + dl ≤ N) (hd : Nat.blt d n = true)
    (h : OpsE P G R ops n K rest ((d, ii (min l.length dl)) :: E) ((i, some ⟨b, cells N (catSet ps k (fun i => .int .u8 ((if i < min l.length dl then l.getD i 0 else f i : Nat) : Int))), t⟩) :: M)) : OpsE P G R ops n K (⟨some d, .call ⟨.builtin .copy, #[x, y], #[T, T']⟩, ty, pos, aft, none⟩ :: rest) E M :=
  fun _ _ ha hM => by
    obtain ⟨kk, hkk⟩ := hM.at hm
    refine st_copyV hT hs (ha.rd hx) (ha.rd hy) hl hkk ho fun lr hp => ?_
    rw [funext (cat_putp _ hk (by omega)), putv_bytes]
    exact h _ _ (ha.put hd _) (hM.same (oz' := some _) hm (by simpa using hp) rfl)
end

/-! ### A value against itself -/
/-- == of a value with itself says true. -/
def Same (P : Program) (dp : Nat) (t : TypeId) (v : Value) : Prop := ∀ w, (Op.equalIn dp t v v).run P w = .ok true w
section
variable {P : Program}
theorem same_int {dp : Nat} {t : TypeId} {k k' : IntKind} {z : Int} (h : P.underlying t = some (.int k')) : Same P (dp + 1) t (.int k z) := fun w => by rw [run_equalIn_int w dp t k k' z z h]; simp
theorem same_bool {dp : Nat} {t : TypeId} {z : Bool} (h : P.underlying t = some .bool) : Same P (dp + 1) t (.bool z) := fun w => by rw [run_equalIn_bool' w dp t z z h]; simp
theorem same_str {dp : Nat} {t : TypeId} {z : ByteArray} (h : P.underlying t = some .string) : Same P (dp + 1) t (.string z) := fun w => by rw [run_equalIn_string w dp t z z h]; simp
theorem same_arr {dp : Nat} {t e : TypeId} {k k' : IntKind} {l : Nat} {f : Nat → Nat} (hT : P.underlying t = some (.array l e)) (he : P.underlying e = some (.int k')) (hs : (P.info? e).map (·.size) = some 1) : Same P (dp + 2) t (.agg (arr k l f)) := fun w => by
  rw [run_equalArr hT he hs w]
  congr 1
  exact allEq_iff.2 fun _ _ => rfl
/-- The part of a struct that a field shows. -/
def Shown (P : Program) (ps : List Part) (N : Nat) (f : Field) (v : Value) : Prop := ∀ w, (part f.type (cells N ps) f.offset).run P w = .ok v w
theorem shown_row {ps : List Part} {N k o l : Nat} {kd : IntKind} {g : Nat → Nat} {f : Field} {td : TypeDesc} (he : P.underlying f.type = some td) (hn : rowLike td = true) (hs : (P.info? f.type).map (·.size) = some l) (hk : catAt ps k = some (o, pI kd l g)) (ho : f.offset = o) (hN : o + l ≤ N) : Shown P ps N f (.agg (arr kd l g)) := fun w => by
  cases hi : P.info? f.type with
  | none => simp [hi] at hs
  | some i =>
    have hsz : i.size = l := by simpa [hi] using hs
    have he2 : (cells N ps).extract o (o + l) = arr kd l g := by rw [cells, arrv_part N o l _ hN, arrv_congr (fun t ht => cat_part hk t ht), ← arr_arrv]
    unfold part
    simp only [Sem.run_bind, run_isAgg he, Result.andThen_ok, hn, if_true, sizeOf, typeInfo, ho]
    simp [hi, hsz, he2]
theorem shown_one {ps : List Part} {N k o : Nat} {v : Value} {f : Field} {td : TypeDesc} (he : P.underlying f.type = some td) (hn : rowLike td = false) (hk : catAt ps k = some (o, pV v)) (ho : f.offset = o) (hN : o < N) : Shown P ps N f v := fun w => by
  have h1 := cat_part hk 0 (by decide)
  rw [Nat.add_zero] at h1
  unfold part
  simp only [Sem.run_bind, run_isAgg he, Result.andThen_ok, hn, ho, cells, arrv_get hN, h1]
  simp
theorem same_fields {dp : Nat} {ps : List Part} {N : Nat} : ∀ fs : List Field, (∀ f ∈ fs, ∃ v, Shown P ps N f v ∧ Same P dp f.type v) → ∀ w, (Op.eqFields dp (cells N ps) (cells N ps) fs).run P w = .ok true w
  | [], _, w => by simp [Op.eqFields]
  | f :: fs, h, w => by
    have ih := same_fields fs (fun g hg => h g (by simp [hg])) w
    obtain ⟨v, h1, h2⟩ := h f (by simp)
    simp only [Op.eqFields]
    split
    · simp only [Sem.run_bind, h1 w, Result.andThen_ok, h2 w]
      simpa using ih
    · exact ih
theorem same_struct {dp : Nat} {t : TypeId} {ps : List Part} {N : Nat} {fs : Array Field} (ht : P.underlying t = some (.struct fs)) (hp : P.stoodInHeld t = false) (h : ∀ f ∈ fs.toList, ∃ v, Shown P ps N f v ∧ Same P dp f.type v) : Same P (dp + 1) t (.agg (cells N ps)) := fun w => by
  have hf : P.fieldsOf t = fs := by simp [Program.fieldsOf, ht]
  rw [run_equalIn_struct w dp t _ _ (by rw [hf]; exact ht) hp, hf]
  exact same_fields fs.toList h w
end
section
variable {P : Program} {G : Mem} {R : Reg} {ops : Array Oper} {n : Nat} {K : Env → Mm → Prop} {rest : List Oper} {E : Env} {M : Mm} {d : Nat} {ty : TypeId} {pos : String} {aft : Array Edge}
variable {T T' : TypeId} {x y : Operand}
theorem e_eqSame {c : Array Value} (hs : Same P 10000 T (.agg c)) (hg : P.eqGuardType P.depth T = false) (hx : rd E x = some (.agg c)) (hy : rd E y = some (.agg c)) (hd : Nat.blt d n = true) (h : OpsE P G R ops n K rest ((d, .bool true) :: E) M) : OpsE P G R ops n K (⟨some d, .binOp .eql T x y T', ty, pos, aft, none⟩ :: rest) E M :=
  fun _ _ ha hM => st_bin (fun w => by
    rw [ha.rd hx, ha.rd hy]
    simp only [Sem.run_bind, run_eqGuard_agg w .eql T x y _ _ hg, Result.andThen_ok, run_eql_struct, hs w]) (h _ _ (ha.put hd _) hM)
end
end Go.Proofs.Ytmnmhmpklknleaa
