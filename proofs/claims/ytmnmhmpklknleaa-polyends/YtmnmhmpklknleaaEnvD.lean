/-
  Bytes of a slice are copied into a block.
-/
import Derived.Test.YtmnmhmpklknleaaEnv8
import Derived.Test.YtmnmhmpklknleaaEnvC
namespace Go.Proofs.Ytmnmhmpklknleaa
open Go Go.RowKit

theorem arrv_shows (r n : Nat) (F : Nat → Value) (e : TypeId) : Shows [⟨r, arrv n F, e⟩] 1 (.slice (some ⟨r, 0, none⟩) n n) n (arrv n F).toList := shows_new _ _ (by rw [arrv_size, Nat.mul_one])
theorem bstr_eq {l k : List Nat} (hl : ∀ b ∈ l, b < 256) (hk : ∀ b ∈ k, b < 256) : ((bstr l).toList == (bstr k).toList) = decide (l = k) := by
  have e : ∀ r : List Nat, (bstr r).toList = r.map UInt8.ofNat := fun r => by
    rw [ByteArray.toList_eq]
    simp [bstr]
  rw [e, e]
  by_cases hlk : l = k
  · subst hlk; simp
  · rw [decide_eq_false hlk, beq_eq_false_iff_ne]
    intro hh
    apply hlk
    have back : ∀ r : List Nat, (∀ b ∈ r, b < 256) → (r.map UInt8.ofNat).map UInt8.toNat = r := fun r hr => by
      rw [List.map_map]
      conv => rhs; rw [← List.map_id r]
      exact List.map_congr_left fun b hb => by have := hr b hb; simp; omega
    rw [← back l hl, ← back k hk, hh]
theorem arr_shows (r N : Nat) (f : Nat → Nat) (t : TypeId) (o len cap : Nat) (h : o + len ≤ N) (hc : len ≤ cap) : Shows [⟨r, arr .u8 N f, t⟩] 1 (.slice (some ⟨r, o, none⟩) len cap) ((List.range len).map fun j => f (o + j)).length (((List.range len).map fun j => f (o + j)).map by8) := by
  have e : ((List.range len).map fun j => f (o + j)).length = len := by simp
  refine .inr ⟨r, o, cap, arr .u8 N f, t, by rw [e], by rw [e]; exact hc, by simp, by simp, by rw [e, arr_size]; omega, fun j u hj => ?_⟩
  rw [List.getElem?_map, List.getElem?_map] at hj
  by_cases hl : j < len
  · rw [List.getElem?_eq_getElem (by simpa using hl)] at hj
    simp at hj
    rw [arr_get (by omega), ← hj]
  · rw [List.getElem?_eq_none (by simpa using hl)] at hj
    cases hj
theorem own_setB {e : TypeId} {v : Value} {k j b : Nat} {l : List Nat} {m : Mem} (h : OwnS e 1 v k ((l.map by8).set j (by8 b)) m) : OwnS e 1 v k ((l.set j b).map by8) m := by
  rw [List.map_set]; exact h
theorem shows_one {B : Mem} {z n : Nat} {v : Value} {xs : List Value} (h : Shows B z v n xs) : v.cells = #[v] := by
  rcases h with ⟨_, _, oa, c, rfl, _⟩ | ⟨b, o, c, cs, t, rfl, _⟩ <;> rfl
theorem fill3 {Z : Array Value} (hZ : Z.size = 3) {a b c : Value} (ha : a.cells = #[a]) (hb : b.cells = #[b]) (hc : c.cells = #[c]) : Instr.fill (fun i => some (i * 1, 1)) Z [(0, a), (1, b), (2, c)] = some #[a, b, c] := by
  obtain ⟨p, q, r, rfl⟩ : ∃ p q r, Z = #[p, q, r] := by
    rcases Z with ⟨_ | ⟨p, _ | ⟨q, _ | ⟨r, _ | ⟨x, l⟩⟩⟩⟩⟩
    · simp at hZ
    · simp at hZ
    · simp at hZ
    · exact ⟨p, q, r, rfl⟩
    · simp at hZ
  simp [Instr.fill, ha, hb, hc]
section
variable {P : Program} {G : Mem} {R : Reg} {ops : Array Oper} {K : Act → Mem → Prop} {rest : List Oper} {a : Act} {m : Mem} {d : Option Tmp} {ty : TypeId} {pos : String} {aft : Array Edge}
variable {T T' : TypeId} {x y : Operand}
theorem first_shows {B : Mem} {vy : Value} {k n : Nat} {xs : List Value} (hsrc : Shows B 1 vy k xs) (hn : n ≤ k) {w : World} (hR : ∀ q ∈ B, RIn w q) : (Builtin.firstCells 1 n vy).run P w = .ok (xs.take n).toArray w ∧ (Builtin.lenOf vy).run P w = .ok k w := by
  rcases hsrc with ⟨rfl, rfl, oa, cap, rfl, _⟩ | ⟨b, o, cap, c, t, rfl, _, hb, hl, ho, hc⟩
  · have : n = 0 := by omega
    subst this
    refine ⟨?_, by simp [Builtin.lenOf]⟩
    cases oa with
    | none => simp [Builtin.firstCells]
    | some a => simp [Builtin.firstCells, loadCells, loadCellsFrom]
  · refine ⟨?_, by simp [Builtin.lenOf]⟩
    have hin := hR _ hb
    refine run_firstCells_some (P := P) w 1 n ⟨b, o, none⟩ k cap (xs.take n) (by rw [List.length_take, hl]; omega) fun j v hj => ?_
    rw [List.getElem?_take] at hj
    split at hj
    · have h1 := hc j v hj
      have hlt : o + j < c.size := (Array.getElem?_eq_some_iff.1 h1).1
      rw [add_off]
      have := hin.2 (o + j) hlt
      simp only at this
      rw [this]; exact h1
    · cases hj
theorem st_copyS {e : TypeId} {b o N dl cap i k : Nat} {F : Nat → Value} {t : TypeId} {xs : List Value} {B : Mem} {vy : Value} (hT : P.underlying T = some (.slice e)) (hs : (P.info? e).map (·.size) = some 1) (hx : a.eval x = .slice (some ⟨b, o, none⟩) dl cap) (hy : a.eval y = vy)
    (hsrc : Shows B 1 vy k xs) (hB : ∀ q ∈ B, q ∈ G ∨ q ∈ m) (h1 : ∀ u ∈ xs, u.oneCell' = true) (hm : m[i]? = some ⟨b, arrv N F, t⟩) (ho : o + dl ≤ N)
    (h : ∀ lr, List.Perm m (⟨b, arrv N F, t⟩ :: lr) → opsM P G R ops K rest (a.put d (ii (min k dl))) (⟨b, arrv N (putv F o (min k dl) (fun j => xs.getD j undef)), t⟩ :: lr)) : opsM P G R ops K (⟨d, .call ⟨.builtin .copy, #[x, y], #[T, T']⟩, ty, pos, aft, none⟩ :: rest) a m := by
  have hmem : (⟨b, arrv N F, t⟩ : Blk) ∈ m := mem_of_get hm
  obtain ⟨l1, l2, hml⟩ := List.append_of_mem hmem
  have hp : List.Perm m (⟨b, arrv N F, t⟩ :: (l1 ++ l2)) := by rw [hml]; exact List.perm_middle
  obtain ⟨c', hc'⟩ : ∃ c', c' = arrv N (putv F o (min k dl) (fun j => xs.getD j undef)) := ⟨_, rfl⟩
  have hxl : xs.length = k := by have := hsrc.len; omega
  refine .inr ⟨rfl, ?_⟩
  show coreM _ _ _ _ _ _ _ 5
  refine ⟨[⟨b, arrv N F, t⟩], l1 ++ l2, fun v r1 nw => v = ii (min k dl) ∧ r1 = [⟨b, c', t⟩] ∧ nw = [], by simpa using hp, ⟨_, _, _, ⟨rfl, rfl, rfl⟩, by simp, by simp⟩, ?_, ?_, ?_⟩
  · rintro v r1 nw ⟨_, rfl, _⟩; rfl
  · intro w hG hw _
    have hin := hw _ hmem
    refine .inl ⟨_, _, _, w.setRow b c', ?_, ⟨rfl, rfl, rfl⟩, post_row hin (by rw [hc', arrv_size, arrv_size])⟩
    obtain ⟨hf, hlo⟩ := first_shows (P := P) (n := min k dl) hsrc (by omega) (w := w) (fun q hq => by
      rcases hB q hq with h2 | h2
      · exact hG q h2
      · exact (hw q h2).read)
    have e1 : xs.take (min k dl) = (arrv (min k dl) (fun j => xs.getD j undef)).toList := by
      apply List.ext_getElem
      · simp [arrv]; omega
      · intro j h2 h3
        have hj : j < xs.length := by simp at h2; omega
        simp [arrv, List.getD_eq_getElem?_getD, List.getElem?_eq_getElem hj]
    have hst := run_storeCells_in (P := P) b o t (xs.take (min k dl)) 0 (arrv N F) w hin (by simp [arrv_size]; omega) (fun v hv => h1 v (List.mem_of_mem_take hv))
    have hc2 : ((arrv N F).toList.take (o + 0) ++ xs.take (min k dl) ++ (arrv N F).toList.drop (o + 0 + (xs.take (min k dl)).length)).toArray = c' := by
      have hl2 : (xs.take (min k dl)).length = min k dl := by rw [List.length_take]; omega
      rw [hc', hl2, e1, Nat.add_zero, arrv_put N o (min k dl) F _ (by omega)]
    rw [hc2] at hst
    generalize xs.take (min k dl) = vs at hf hst
    cases hi : P.info? e with
    | none => simp [hi] at hs
    | some q =>
      have hsz : q.size = 1 := by simpa [hi] using hs
      have hmin : Nat.min k dl = min k dl := rfl
      simp only [execOp, resolve, invoke, builtin, Sem.run_bind, Sem.run_pure, Result.andThen_ok, List.map_toArray, List.map_cons, List.map_nil, hx, hy]
      simp [Builtin.copy_, run_underlying hT, hlo, sizeOf, typeInfo, hi, hsz, hmin, hf, hst, goInt]
  · rintro v r1 nw ⟨rfl, rfl, rfl⟩ _
    rw [hc']
    simpa using h (l1 ++ l2) hp
end
section
variable {P : Program} {G : Mem} {R : Reg} {ops : Array Oper} {n : Nat} {K : Env → Mm → Prop} {rest : List Oper} {E : Env} {M : Mm} {d : Nat} {ty : TypeId} {pos : String} {aft : Array Edge}
variable {T T' : TypeId} {x y : Operand}
theorem SeenE.mem {B : Mem} (h : SeenE G R M B) {m : Mem} (hM : FitsM M m) : ∀ q ∈ B, q ∈ G ∨ q ∈ m := fun q hq => by
  rcases h q hq with h1 | ⟨i, h1, _⟩
  · exact .inl h1
  · exact .inr (hM.has i q h1)
theorem e_copyS {e : TypeId} {b o N dl cap i k : Nat} {F : Nat → Value} {t : TypeId} {xs : List Value} {B : Mem} {vy : Value} (hT : P.underlying T = some (.slice e)) (hs : (P.info? e).map (·.size) = some 1) (hsrc : Shows B 1 vy k xs) (hB : SeenE G R M B) (h1 : ∀ u ∈ xs, u.oneCell' = true)
    (hx : rd E x = some (.slice (some ⟨b, o, none⟩) dl cap)) (hy : rd E y = some vy) (hm : lkM M i = some ⟨b, arrv N F, t⟩) (ho : o + dl ≤ N) (hd : Nat.blt d n = true)
    (h : OpsE P G R ops n K rest ((d, ii (min k dl)) :: E) ((i, some ⟨b, arrv N (putv F o (min k dl) (fun j => xs.getD j undef)), t⟩) :: M)) : OpsE P G R ops n K (⟨some d, .call ⟨.builtin .copy, #[x, y], #[T, T']⟩, ty, pos, aft, none⟩ :: rest) E M :=
  fun _ _ ha hM => by
    obtain ⟨k', hk⟩ := hM.at hm
    exact st_copyS hT hs (ha.rd hx) (ha.rd hy) hsrc (hB.mem hM) h1 hk ho fun lr hp => h _ _ (ha.put hd _) (hM.same (oz' := some _) hm (by simpa using hp) rfl)
theorem seen_app {A B : Mem} (h1 : SeenE G R M A) (h2 : SeenE G R M B) : SeenE G R M (A ++ B) := fun z hz => by
  rcases List.mem_append.1 hz with h | h
  · exact h1 z h
  · exact h2 z h
theorem seen_hd {x : Blk} {G' : Mem} : SeenE (x :: G') R M [x] := fun z hz => .inl (by simp at hz; simp [hz])
theorem seen_gl {A G' : Mem} : SeenE (A ++ G') R M A := fun _ hz => .inl (List.mem_append_left _ hz)
theorem seen_nil : SeenE G R M [] := fun _ h => nomatch h
/-- A call that reads what is seen. -/
theorem e_callS {g' : Mem} {fo : Operand} {f : FuncId} {args : Array Operand} {tys : Array TypeId} {vs cap : List Value} {v : Value} (hf : rd E fo = some (.func (.func f) #[] cap.toArray)) (hargs : rdl E args.toList = some vs) (he : enters P f = true) (hg : SeenE G R M g')
    (hF : Fn P g' f (vs ++ cap).toArray v) (hd : Nat.blt d n = true) (hR : callOk R = true) (h : OpsE P G R ops n K rest ((d, v) :: E) M) : OpsE P G R ops n K (⟨some d, .call ⟨.value fo, args, tys⟩, ty, pos, aft, none⟩ :: rest) E M :=
  fun _ _ ha hM => st_callV hR (ha.rd hf) (ha.args hargs) he (fun w hG hm => by
    have := hF w (fun z hz => (hg.seen hM).rin hG hm hz)
    simpa using this) (h _ _ (ha.put hd _) hM)
/-- A store into a slice of one's own. -/
theorem e_stOwn {i k j : Nat} {e : TypeId} {v w : Value} {xs : List Value} {oz : Option Blk} (hown : OwnS e 1 v k xs oz.toList) (hs : (P.info? T).map (·.size) = some 1) (hx : rd E x = some (slAddr v j)) (hy : rd E y = some w) (hw : w.oneCell' = true) (hi : lkM M i = oz) (hj : j < k) (hX : R.X = [])
    (h : ∀ oz' : Option Blk, OwnS e 1 v k (xs.set j w) oz'.toList → OpsE P G R ops n K rest E ((i, oz') :: M)) : OpsE P G R ops n K (⟨none, .store T x y, ty, pos, aft, none⟩ :: rest) E M :=
  fun _ m ha hM => by
    rcases hown with ⟨_, h0, _, _⟩ | ⟨r, cap, c, rfl, hl, hc, hm, hz, hxl, ht⟩
    · omega
    · have hoz : oz = some ⟨r, c, e⟩ := by
        cases oz with
        | none => simp at hl
        | some z => simp at hl; rw [hl]
      subst hoz
      obtain ⟨q, hq⟩ := hM.at hi
      have hjc : j < c.size := by omega
      have hx' : rd E x = some (.pointer (some ⟨r, j, none⟩)) := by
        rw [hx]; simp [slAddr]
      refine st_store1 hs (ha.rd hx') (ha.rd hy) hw hq (.inl hX) hjc ?_
      refine h (some ⟨r, c.setIfInBounds j w, e⟩) (.inr ⟨r, cap, _, rfl, rfl, hc, hm, by simpa using hz, by simpa using hxl, ?_⟩) _ _ ha (hM.store hi hq _)
      rw [Array.toList_setIfInBounds, List.take_set, ht]
theorem e_neStr {l k : List Nat} (hx : rd E x = some (sv l)) (hy : rd E y = some (sv k)) (hd : Nat.blt d n = true) (hl : ∀ b ∈ l, b < 256) (hk : ∀ b ∈ k, b < 256) (h : OpsE P G R ops n K rest ((d, .bool (decide (l ≠ k))) :: E) M) :
    OpsE P G R ops n K (⟨some d, .binOp .neq T x y T', ty, pos, aft, none⟩ :: rest) E M := fun _ _ ha hM => st_bin (fun w => by
      have e1 := bstr_eq hl hk
      rw [ha.rd hx, ha.rd hy]
      have e2 : ((bstr l).toList != (bstr k).toList) = decide (l ≠ k) := by
        rw [bne, e1]
        by_cases h : l = k <;> simp [h]
      simp only [eqGuard, binOp, Op.stringOp]
      rw [← e2]
      rfl) (h _ _ (ha.put hd _) hM)
/-- The same, into bytes. -/
theorem e_copyB {e : TypeId} {b o N dl cap i : Nat} {f : Nat → Nat} {t : TypeId} {l : List Nat} {B : Mem} {vy : Value} (hT : P.underlying T = some (.slice e)) (hs : (P.info? e).map (·.size) = some 1) (hsrc : Shows B 1 vy l.length (l.map by8)) (hB : SeenE G R M B)
    (hx : rd E x = some (.slice (some ⟨b, o, none⟩) dl cap)) (hy : rd E y = some vy) (hm : lkM M i = some ⟨b, arr .u8 N f, t⟩) (ho : o + dl ≤ N) (hd : Nat.blt d n = true)
    (h : OpsE P G R ops n K rest ((d, ii (min l.length dl)) :: E) ((i, some ⟨b, arr .u8 N (fun j => if o ≤ j ∧ j < o + min l.length dl then l.getD (j - o) 0 else f j), t⟩) :: M)) : OpsE P G R ops n K (⟨some d, .call ⟨.builtin .copy, #[x, y], #[T, T']⟩, ty, pos, aft, none⟩ :: rest) E M :=
  e_copyS (F := fun i => .int .u8 (f i : Int)) hT hs hsrc hB (fun u hu => by obtain ⟨n, _, rfl⟩ := List.mem_map.1 hu; rfl) hx hy hm ho hd (by
    have e1 : arrv N (putv (fun i => .int .u8 (f i : Int)) o (min l.length dl) (fun j => (l.map by8).getD j undef)) = arr .u8 N (fun j => if o ≤ j ∧ j < o + min l.length dl then l.getD (j - o) 0 else f j) := by
      rw [arr_arrv]
      refine arrv_congr fun j _ => ?_
      unfold putv
      by_cases hj : o ≤ j ∧ j < o + min l.length dl
      · rw [if_pos hj, if_pos hj]
        have : j - o < l.length := by omega
        simp [List.getD_eq_getElem?_getD, List.getElem?_eq_getElem this]
      · rw [if_neg hj, if_neg hj]
    rw [e1]; exact h)
end
end Go.Proofs.Ytmnmhmpklknleaa
