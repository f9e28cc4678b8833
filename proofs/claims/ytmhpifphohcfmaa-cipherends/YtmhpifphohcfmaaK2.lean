import Derived.Test.YtmhpifphohcfmaaK1
namespace Go.Proofs.Ytmhpifphohcfmaa
open Go Go.RowKit
variable {P : Program} {G : Mem} {R : Reg} {ops : Array Oper} {K : Act → Mem → Prop} {rest : List Oper} {a : Act} {m : Mem} {d : Option Tmp} {ty : TypeId} {pos : String} {aft : Array Edge}
variable {T T' : TypeId} {x y : Operand}
def OwnS (e : TypeId) (z : Nat) (v : Value) (n : Nat) (xs : List Value) (l : Mem) : Prop :=
  (v = nilS ∧ n = 0 ∧ xs = [] ∧ l = []) ∨ ∃ r cap c, v = .slice (some ⟨r, 0, none⟩) n cap ∧ l = [⟨r, c, e⟩] ∧ n ≤ cap ∧ cap ≤ maxLen ∧ c.size = cap * z ∧ xs.length = n * z ∧ c.toList.take (n * z) = xs
theorem OwnS.shows {e : TypeId} {z n : Nat} {v : Value} {xs : List Value} {l : Mem} (h : OwnS e z v n xs l) : Shows l z v n xs := by
  rcases h with ⟨h1, h2, h3, _⟩ | ⟨r, cap, c, h1, rfl, h3, _, h4, h5, h6⟩
  · exact .inl ⟨h2, h3, none, 0, h1, fun _ => rfl⟩
  · refine .inr ⟨r, 0, cap, c, e, h1, h3, by simp, h5, ?_, fun j u hj => ?_⟩
    · rw [h4, Nat.zero_add]; exact Nat.mul_le_mul_right _ h3
    · rw [← h6, List.getElem?_take] at hj
      split at hj
      · rw [Nat.zero_add]; simpa using hj
      · cases hj
theorem OwnS.len {e : TypeId} {z n : Nat} {v : Value} {xs : List Value} {l : Mem} (h : OwnS e z v n xs l) : xs.length = n * z := h.shows.len
theorem shows_new {z len r : Nat} (c : Array Value) (e : TypeId) (h : c.size = len * z) : Shows [⟨r, c, e⟩] z (.slice (some ⟨r, 0, none⟩) len len) len c.toList :=
  .inr ⟨r, 0, len, c, e, rfl, Nat.le_refl _, by simp, by simpa using h, by omega, fun j u hj => by rw [Nat.zero_add]; simpa using hj⟩
theorem own_nil (e : TypeId) (z : Nat) : OwnS e z nilS 0 [] [] := .inl ⟨rfl, rfl, rfl, rfl⟩
theorem run_append_in (w : World) (t ty e : TypeId) (i : TypeInfo) (ht : P.underlying t = some (.slice e)) (hi : P.info? e = some i)
    (g sLen sCap : Nat) (cur : Array Value) (hg : In w ⟨g, cur, e⟩)
    (a : Addr) (m c : Nat) (news : List Value) (hl : news.length = m * i.size) (hnews : ∀ j u, news[j]? = some u → w.cell? (a.add j) = some u) (h1 : ∀ u ∈ news, u.oneCell' = true)
    (hroom : sLen + m ≤ sCap) (hfit : sLen * i.size + news.length ≤ cur.size) :
    (Builtin.append_ #[t, t] ty #[.slice (some ⟨g, 0, none⟩) sLen sCap, .slice (some a) m c]).run P w =
      .ok (.slice (some ⟨g, 0, none⟩) (sLen + m) sCap) (w.setRow g (cur.toList.take (sLen * i.size) ++ news ++ cur.toList.drop (sLen * i.size + news.length)).toArray) := by
  have hf := run_firstCells_some (P := P) w i.size m a m c news hl hnews
  have hst := run_storeCells_in (P := P) g (sLen * i.size) e news 0 cur w hg (by simpa using hfit) h1
  simp only [Nat.add_zero] at hst
  simp [Builtin.append_, run_underlying ht, sizeOf, typeInfo, hi, Builtin.lenOf, hroom, hf, Addr.add_lit, hst]
theorem st_append {e : TypeId} {z n k bytes : Nat} {zv v vy : Value} {xs news : List Value} {l0 lr B : Mem} (hT : P.underlying T = some (.slice e)) (hs : (P.info? e).map (·.size) = some z) (hb : (P.info? e).map (·.bytes) = some bytes) (hz : (P.info? e).bind (·.zero) = some zv) (hzs : zv.cells.size = z)
    (hx : a.eval x = v) (hy : a.eval y = vy) (hown : OwnS e z v n xs l0) (hoff : ∀ x ∈ l0, offL R.L x.b) (hp : List.Perm m (l0 ++ lr)) (hsrc : Shows B z vy k news) (hB : ∀ q ∈ B, q ∈ G ∨ q ∈ m) (h1 : ∀ u ∈ news, u.oneCell' = true) (h63 : n + k ≤ maxLen) (hbytes : (n + k) * bytes ≤ 140737488355328)
    (h : ∀ v' l', OwnS e z v' (n + k) (xs ++ news) l' → (l'.map (·.b) = l0.map (·.b) → opsM P G R ops K rest (a.put d v') (l' ++ lr ++ [])) ∧ (FreshM m l' → opsM P G R ops K rest (a.put d v') (l0 ++ lr ++ l'))) :
    opsM P G R ops K (⟨d, .call ⟨.builtin .append, #[x, y], #[T, T]⟩, ty, pos, aft, none⟩ :: rest) a m := by
  have hlen : (xs ++ news).length = (n + k) * z := by rw [List.length_append, hown.len, hsrc.len, Nat.add_mul]
  refine .inr ⟨rfl, ?_⟩
  show coreM _ _ _ _ _ _ _ 5
  refine ⟨l0, lr, fun v' r1 nw => ∃ l', OwnS e z v' (n + k) (xs ++ news) l' ∧ ((r1 = l' ∧ nw = [] ∧ l'.map (·.b) = l0.map (·.b)) ∨ (r1 = l0 ∧ nw = l')), hp, ?_, ?_, ?_, ?_⟩
  · obtain ⟨r, hr⟩ := fresh_of m
    exact ⟨.slice (some ⟨r, 0, none⟩) (n + k) (n + k), l0, [⟨r, (xs ++ news).toArray, e⟩], ⟨_, .inr ⟨r, n + k, (xs ++ news).toArray, rfl, rfl, Nat.le_refl _, h63, by simp only [List.size_toArray]; exact hlen, hlen, by rw [← hlen]; exact List.take_length⟩, .inr ⟨rfl, rfl⟩⟩, by simp, by simpa using hr⟩
  · refine ⟨?_, hoff⟩
    rintro v' r1 nw ⟨l', _, ⟨rfl, _, h3⟩ | ⟨rfl, _⟩⟩
    · exact h3
    · rfl
  · intro w hG hm _
    have hrun : ∀ v' w', (Builtin.append_ #[T, T] ty #[v, vy]).run P w = .ok v' w' → (execOp a.eval ⟨d, .call ⟨.builtin .append, #[x, y], #[T, T]⟩, ty, pos, aft, none⟩).run P w = .ok (.value v') w' := fun v' w' hr => by
      simp only [execOp, resolve, invoke, builtin, Sem.run_bind, Sem.run_pure, Result.andThen_ok, List.map_toArray, List.map_cons, List.map_nil, hx, hy, hr]
    have hl0 : MemIn l0 w := fun q hq => hm q (hp.mem_iff.2 (by simp [hq]))
    left
    cases hi : P.info? e with
    | none => simp [hi] at hs
    | some i =>
      have hsz : i.size = z := by simpa [hi] using hs
      have hby : i.bytes = bytes := by simpa [hi] using hb
      have hz' : i.zero = some zv := by simpa [hi] using hz
      have hsmall : n + k ≤ 9223372036854775807 := by simp only [maxLen] at h63; omega
      have grown : ∀ old (w0 : World), w0 = w → (∃ c', c' = xs.toArray ++ news.toArray ++ Builtin.zeroCells zv.cells (grownCap w (n + k) old e - (n + k)) ∧
          OwnS e z (.slice (some ⟨w.heap.size, 0, none⟩) (n + k) (grownCap w (n + k) old e)) (n + k) (xs ++ news) [⟨w.heap.size, c', e⟩]) := fun old _ _ => by
        have hge := grownCap_ge w (n + k) old e
        refine ⟨_, rfl, .inr ⟨_, _, _, rfl, rfl, hge, grownCap_le_maxLen w (n + k) old e h63, ?_, hlen, ?_⟩⟩
        · simp only [Array.size_append, List.size_toArray, size_zeroCells, hzs, hown.len, hsrc.len, ← Nat.add_mul]
          congr 1
          omega
        · simp only [Array.toList_append, List.append_assoc]
          rw [← List.append_assoc, ← hlen]
          exact List.take_left
      rcases hsrc with ⟨rfl, rfl, oa, cp, rfl, hoa⟩ | ⟨b, o, cp, c, t, rfl, hkc, hbB, hnl, ho, hnc⟩
      · -- nothing is appended
        refine ⟨v, l0, [], w, hrun _ _ ?_, ⟨l0, by simpa using hown, .inl ⟨rfl, rfl, rfl⟩⟩, Keep.refl _ _ _, hl0, by simp [MemIn], by simp, by simp⟩
        have hf : ∀ q, (Builtin.firstCells q 0 (.slice oa 0 cp)).run P w = .ok #[] w := fun q => by
          cases oa with
          | none => simp [Builtin.firstCells]
          | some a => simp [Builtin.firstCells, loadCells, loadCellsFrom]
        rcases hown with ⟨rfl, rfl, _⟩ | ⟨r, cap, c, rfl, rfl, hnc, _⟩
        · simp [Builtin.append_, run_underlying hT, sizeOf, typeInfo, hi, Builtin.lenOf, hf]
        · simp [Builtin.append_, run_underlying hT, sizeOf, typeInfo, hi, Builtin.lenOf, hf, hnc, storeCells]
      · have hrin : RIn w ⟨b, c, t⟩ := by
          rcases hB _ hbB with h2 | h2
          · exact hG _ h2
          · exact (hm _ h2).read
        have hnews : ∀ j u, news[j]? = some u → w.cell? ((⟨b, o, none⟩ : Addr).add j) = some u := fun j u hj => by
          have hlt : o + j < c.size := (Array.getElem?_eq_some_iff.1 (hnc j u hj)).1
          rw [add_off, hrin.2 (o + j) hlt]
          exact hnc j u hj
        rcases hown with ⟨rfl, rfl, rfl, rfl⟩ | ⟨r, cap, cur, rfl, rfl, hncap, hcm, hcs, hxl, htake⟩
        · by_cases hk : k = 0
          · subst hk
            have hn0 : news = [] := List.eq_nil_of_length_eq_zero (by simpa using hnl)
            subst hn0
            refine ⟨nilS, [], [], w, hrun _ _ ?_, ⟨[], .inl ⟨rfl, rfl, rfl, rfl⟩, .inl ⟨rfl, rfl, rfl⟩⟩, Keep.refl _ _ _, by simp [MemIn], by simp [MemIn], by simp, by simp⟩
            simp [Builtin.append_, run_underlying hT, sizeOf, typeInfo, hi, Builtin.lenOf, Builtin.firstCells, loadCells, loadCellsFrom]
          · have hr := run_append_nil (P := P) w T ty e i zv hT hi hz' ⟨b, o, none⟩ k cp news (by rw [hsz]; exact hnl) hnews (by omega) (by omega) (by rw [hby]; have := hbytes; simp only [Nat.zero_add] at this; omega)
            obtain ⟨c', hc', ho'⟩ := grown 0 w rfl
            simp only [Nat.zero_add, List.nil_append, Array.empty_append] at hc' ho' hr ⊢
            rw [← hc'] at hr
            exact ⟨_, [], _, _, hrun _ _ hr, ⟨_, ho', .inr ⟨rfl, rfl⟩⟩, post_drew w c' e [] (by simp [MemIn])⟩
        · have hg : In w ⟨r, cur, e⟩ := hl0 ⟨r, cur, e⟩ (by simp)
          by_cases hroom : n + k ≤ cap
          · have hfit : n * i.size + news.length ≤ cur.size := by rw [hsz, hnl, hcs, ← Nat.add_mul]; exact Nat.mul_le_mul_right _ hroom
            have hr := run_append_in (P := P) w T ty e i hT hi r n cap cur hg ⟨b, o, none⟩ k cp news (by rw [hsz]; exact hnl) hnews h1 hroom hfit
            obtain ⟨cw, hcw⟩ : ∃ cw, cw = (cur.toList.take (n * i.size) ++ news ++ cur.toList.drop (n * i.size + news.length)).toArray := ⟨_, rfl⟩
            rw [← hcw] at hr
            have hcz : cw.size = cur.size := by
              rw [hcw]
              simp only [List.size_toArray, List.length_append, List.length_take, List.length_drop, Array.length_toList]
              rw [hsz] at hfit ⊢
              omega
            refine ⟨_, [⟨r, cw, e⟩], [], _, hrun _ _ hr, ⟨[⟨r, cw, e⟩], .inr ⟨r, cap, cw, rfl, rfl, hroom, hcm, ?_, hlen, ?_⟩, .inl ⟨rfl, rfl, rfl⟩⟩, post_row (hl0 ⟨r, cur, e⟩ (by simp)) hcz⟩
            · exact hcz.trans hcs
            · rw [hcw, hsz, htake, ← hlen]
              exact List.take_left
          · have holds : ∀ j u, xs[j]? = some u → w.cell? ((⟨r, 0, none⟩ : Addr).add j) = some u := fun j u hj => by
              rw [← htake, List.getElem?_take] at hj
              split at hj
              · have hin : In w ⟨r, cur, e⟩ := hl0 ⟨r, cur, e⟩ (by simp)
                rw [add_off, Nat.zero_add]
                have := In.cell hin j
                simp only at this
                rw [this]; simpa using hj
              · cases hj
            have hr := run_append_grow (P := P) w T ty e i zv hT hi hz' ⟨r, 0, none⟩ n cap xs (by rw [hsz]; exact hxl) holds ⟨b, o, none⟩ k cp news (by rw [hsz]; exact hnl) hnews (by omega) (by omega) (by rw [hby]; exact growslice_fits (by omega) hbytes)
            obtain ⟨c', hc', ho'⟩ := grown cap w rfl
            rw [← hc'] at hr
            exact ⟨_, [⟨r, cur, e⟩], _, _, hrun _ _ hr, ⟨_, ho', .inr ⟨rfl, rfl⟩⟩, post_drew w c' e [⟨r, cur, e⟩] hl0⟩
  · rintro v' r1 nw ⟨l', ho', ⟨rfl, rfl, h3⟩ | ⟨rfl, rfl⟩⟩ hfr
    · exact (h v' r1 ho').1 h3
    · exact (h v' nw ho').2 hfr
def callMk (R : Reg) : Bool := R.c == 4 || R.c == 5
theorem st_callN (hR : callMk R = true) {fo : Operand} {f : FuncId} {args : Array Operand} {tys : Array TypeId} {vs cap : Array Value} {g' : Mem} {S : Value → Mem → Prop} (hf : a.eval fo = .func (.func f) #[] cap) (hargs : args.map a.eval = vs) (he : enters P f = true)
    (hF : Fx P g' [] f (vs ++ cap) (fun v l1 nw => l1 = [] ∧ S v nw)) (hS : ∀ m' : Mem, ∃ v nw, S v nw ∧ FreshM m' nw) (hg : ∀ w, MemR G w → vis R m w → MemR g' w)
    (h : ∀ v nw, S v nw → FreshM m nw → opsM P G R ops K rest (a.put d v) (m ++ nw)) : opsM P G R ops K (⟨d, .call ⟨.value fo, args, tys⟩, ty, pos, aft, none⟩ :: rest) a m := by
  by_cases h4 : R.c = 4
  · exact st_callM h4 hf hargs he hF hS hg h
  · have h5 : R.c = 5 := by
      unfold callMk at hR
      simp only [Bool.or_eq_true, beq_iff_eq] at hR
      exact hR.resolve_left h4
    obtain ⟨v0, n0, h0, h1⟩ := hS m
    refine st_callX h5 hf hargs he hF (l0 := []) (lr := m) (by simp) (by simp) ⟨v0, [], n0, ⟨rfl, h0⟩, h1⟩ ?_ (fun w hG hm => hg w hG (fun z hz _ => hm z hz)) (by simp) (by simp) ?_
    · rintro v l1 nw ⟨rfl, _⟩; rfl
    · rintro v l1 nw ⟨rfl, hs⟩ hr
      simpa using h v nw hs hr
end Go.Proofs.Ytmhpifphohcfmaa
namespace Go.Proofs.Ytmhpifphohcfmaa
open Go Go.RowKit
variable {P : Program} {G : Mem} {R : Reg} {ops : Array Oper} {n : Nat} {K : Env → Mm → Prop} {rest : List Oper} {E : Env} {M : Mm} {d : Nat} {ty : TypeId} {pos : String} {aft : Array Edge}
variable {T T' : TypeId} {x y : Operand}
theorem arr_part (k : IntKind) (N o l : Nat) (f : Nat → Nat) (h : o + l ≤ N) : (arr k N f).extract o (o + l) = arr k l (fun t => f (o + t)) := by
  apply Array.ext
  · simp [arr]; omega
  · intro i h1 h2
    simp [arr]
theorem e_loadS {b i o l N : Nat} {k : IntKind} {f : Nat → Nat} {t : TypeId} {td : TypeDesc} (hT : P.underlying T = some td) (hn : rowLike td = true) (hs : (P.info? T).map (·.size) = some l)
    (hx : rd E x = some (.pointer (some ⟨b, o, none⟩))) (hm : lkM M i = some ⟨b, arr k N f, t⟩) (ho : o + l ≤ N) (hd : Nat.blt d n = true) (hX : ∃ js, okXL M i js R) (h : OpsE P G R ops n K rest ((d, .agg (arr k l (fun t => f (o + t)))) :: E) M) :
    OpsE P G R ops n K (⟨some d, .load T x, ty, pos, aft, none⟩ :: rest) E M :=
  fun _ _ ha hM => by
    obtain ⟨j, hj⟩ := hM.at hm
    exact st_loadS hT hn hs (ha.rd hx) hj (by obtain ⟨js, hjs⟩ := hX; exact okXL_not hM hm hjs) (by rw [arr_size]; exact ho) (by rw [arr_part k N o l f ho]; exact h _ _ (ha.put hd _) hM)
theorem e_buildS {z : Value} {fs : Array Field} {places : Array (Nat × Nat)} {parts : Array (Nat × Operand)} {pv : List (Nat × Value)} (c : Array Value) (hz : (P.info? T).bind (·.zero) = some z) (hT : P.underlying T = some (.struct fs))
    (hpl : ∀ w, (fs.mapM fun f => do pure (f.offset, ← sizeOf f.type) : Sem (Array (Nat × Nat))).run P w = .ok places w)
    (hp : rdp E parts.toList = some pv) (hf : Instr.fill (places[·]?) z.cells pv = some c) (hd : Nat.blt d n = true)
    (h : OpsE P G R ops n K rest ((d, .agg c) :: E) M) : OpsE P G R ops n K (⟨some d, .build T parts, ty, pos, aft, none⟩ :: rest) E M :=
  fun _ _ ha hM => st_buildS hz hT hpl (ha.rdp hp) hf (h _ _ (ha.put hd _) hM)
end Go.Proofs.Ytmhpifphohcfmaa
namespace Go.Proofs.Ytmhpifphohcfmaa
open Go Go.RowKit
variable {P : Program} {G : Mem} {R : Reg} {ops : Array Oper} {n : Nat} {K : Env → Mm → Prop} {rest : List Oper} {E : Env} {M : Mm} {d : Nat} {ty : TypeId} {pos : String} {aft : Array Edge}
variable {T T' : TypeId} {x y : Operand}
theorem e_and_b {p q : Nat} (hx : rd E x = some (by8 p)) (hy : rd E y = some (by8 q)) (hd : Nat.blt d n = true) (h : OpsE P G R ops n K rest ((d, by8 ((p &&& q) % 256)) :: E) M) :
    OpsE P G R ops n K (⟨some d, .binOp .and T x y T', ty, pos, aft, none⟩ :: rest) E M := fun _ _ ha hM => st_and_b (ha.rd hx) (ha.rd hy) (h _ _ (ha.put hd _) hM)
theorem e_or_b {p q : Nat} (hx : rd E x = some (by8 p)) (hy : rd E y = some (by8 q)) (hd : Nat.blt d n = true) (h : OpsE P G R ops n K rest ((d, by8 ((p ||| q) % 256)) :: E) M) :
    OpsE P G R ops n K (⟨some d, .binOp .or T x y T', ty, pos, aft, none⟩ :: rest) E M := fun _ _ ha hM => st_or_b (ha.rd hx) (ha.rd hy) (h _ _ (ha.put hd _) hM)
theorem e_xor_b {p q : Nat} (hx : rd E x = some (by8 p)) (hy : rd E y = some (by8 q)) (hd : Nat.blt d n = true) (h : OpsE P G R ops n K rest ((d, by8 ((p ^^^ q) % 256)) :: E) M) :
    OpsE P G R ops n K (⟨some d, .binOp .xor T x y T', ty, pos, aft, none⟩ :: rest) E M := fun _ _ ha hM => st_xor_b (ha.rd hx) (ha.rd hy) (h _ _ (ha.put hd _) hM)
theorem e_at (o' : Nat) {b o j l z : Nat} {k : IntKind} {e : TypeId} (hT : P.underlying T = some (.array l e)) (hs : (P.info? e).map (·.size) = some (z + 1)) (hx : rd E x = some (.pointer (some ⟨b, o, none⟩))) (hy : rd E y = some (.int k (j : Int))) (hj : j < l) (ho : o + j * (z + 1) = o')
    (hd : Nat.blt d n = true) (h : OpsE P G R ops n K rest ((d, .pointer (some ⟨b, o', none⟩)) :: E) M) : OpsE P G R ops n K (⟨some d, .indexAddr T x y, ty, pos, aft, none⟩ :: rest) E M :=
  fun _ _ ha hM => st_indexZ hT hs (ha.rd hx) (ha.rd hy) hj (by rw [ho]; exact h _ _ (ha.put hd _) hM)
theorem e_fld (o' : Nat) {b o f sz : Nat} {fs : Array Field} {fd : Field} (hT : P.underlying T = some (.struct fs)) (hf : fs[f]? = some fd) (hs : (P.info? fd.type).map (·.size) = some (sz + 1)) (hx : rd E x = some (.pointer (some ⟨b, o, none⟩)))
    (ho : o + fd.offset = o') (hd : Nat.blt d n = true) (h : OpsE P G R ops n K rest ((d, .pointer (some ⟨b, o', none⟩)) :: E) M) : OpsE P G R ops n K (⟨some d, .fieldAddr T x f, ty, pos, aft, none⟩ :: rest) E M :=
  fun _ _ ha hM => st_field hT hf hs (ha.rd hx) (by rw [ho]; exact h _ _ (ha.put hd _) hM)
end Go.Proofs.Ytmhpifphohcfmaa
namespace Go.Proofs.Ytmhpifphohcfmaa
open Go Go.RowKit
variable {P : Program} {G : Mem} {R : Reg} {ops : Array Oper} {n : Nat} {K : Env → Mm → Prop} {rest : List Oper} {E : Env} {M : Mm} {d : Nat} {ty : TypeId} {pos : String} {aft : Array Edge}
variable {T T' : TypeId} {x y : Operand}
theorem e_rem_z {p q : Int} (hx : rd E x = some (.int .i64 p)) (hy : rd E y = some (.int .i64 q)) (hd : Nat.blt d n = true) (hq : q ≠ 0) (h : OpsE P G R ops n K rest ((d, .int .i64 (p.tmod q)) :: E) M) :
    OpsE P G R ops n K (⟨some d, .binOp .rem T x y T', ty, pos, aft, none⟩ :: rest) E M := fun _ _ ha hM => st_rem_z (ha.rd hx) (ha.rd hy) hq (h _ _ (ha.put hd _) hM)
theorem e_add_z {p q : Int} (hx : rd E x = some (.int .i64 p)) (hy : rd E y = some (.int .i64 q)) (hd : Nat.blt d n = true) (h0 : -9223372036854775808 ≤ p + q) (h1 : p + q < 9223372036854775808) (h : OpsE P G R ops n K rest ((d, .int .i64 (p + q)) :: E) M) :
    OpsE P G R ops n K (⟨some d, .binOp .add T x y T', ty, pos, aft, none⟩ :: rest) E M := fun _ _ ha hM => st_add_z (ha.rd hx) (ha.rd hy) h0 h1 (h _ _ (ha.put hd _) hM)
theorem e_mul_z {p q : Int} (hx : rd E x = some (.int .i64 p)) (hy : rd E y = some (.int .i64 q)) (hd : Nat.blt d n = true) (h0 : -9223372036854775808 ≤ p * q) (h1 : p * q < 9223372036854775808) (h : OpsE P G R ops n K rest ((d, .int .i64 (p * q)) :: E) M) :
    OpsE P G R ops n K (⟨some d, .binOp .mul T x y T', ty, pos, aft, none⟩ :: rest) E M := fun _ _ ha hM => st_mul_z (ha.rd hx) (ha.rd hy) h0 h1 (h _ _ (ha.put hd _) hM)
theorem e_buildSl (i : Nat) {zv : Value} {len z : Nat} {e : TypeId} {parts : Array (Nat × Operand)} {pv : List (Nat × Value)} (c : Array Value) (hT : P.underlying T = some (.slice e)) (hs : (P.info? e).map (·.size) = some z) (hz : (P.info? e).bind (·.zero) = some zv)
    (h0 : len * z ≠ 0) (h1 : len * z ≤ 16777216) (hp : rdp E parts.toList = some pv) (hf : Instr.fill (fun i => some (i * z, z)) ((Array.range (len * z)).map (zv.cells[· % zv.cells.size]!)) pv = some c) (hd : Nat.blt d n = true)
    (h : ∀ r, OpsE P G R ops n K rest ((d, .slice (some ⟨r, 0, none⟩) len len) :: E) ((i, some ⟨r, c, e⟩) :: M)) : OpsE P G R ops n K (⟨some d, .buildSlice T len parts, ty, pos, aft, none⟩ :: rest) E M :=
  fun _ _ ha hM => st_buildSl hT hs hz h0 h1 (ha.rdp hp) hf fun r hr => h r _ _ (ha.put hd _) (hM.alloc i ⟨r, c, e⟩ hr)
theorem e_atSl (o' : Nat) {b o j len cap z : Nat} {k : IntKind} {e : TypeId} (hT : P.underlying T = some (.slice e)) (hs : (P.info? e).map (·.size) = some (z + 1)) (hx : rd E x = some (.slice (some ⟨b, o, none⟩) len cap)) (hy : rd E y = some (.int k (j : Int))) (hj : j < len) (ho : o + j * (z + 1) = o')
    (hd : Nat.blt d n = true) (h : OpsE P G R ops n K rest ((d, .pointer (some ⟨b, o', none⟩)) :: E) M) : OpsE P G R ops n K (⟨some d, .indexAddr T x y, ty, pos, aft, none⟩ :: rest) E M :=
  fun _ _ ha hM => st_indexSl hT hs (ha.rd hx) (ha.rd hy) hj (by rw [ho]; exact h _ _ (ha.put hd _) hM)
def rdo (E : Env) : Option Operand → Option (Option Value)
  | none => some none
  | some x => (rd E x).map some
theorem Fits.rdo {a : Act} (h : Fits n E a) {o : Option Operand} {v : Option Value} (ho : Ytmhpifphohcfmaa.rdo E o = some v) : o.map a.eval = v := by
  cases o with
  | none => simpa [Ytmhpifphohcfmaa.rdo] using ho
  | some x =>
    cases hx : Ytmhpifphohcfmaa.rd E x with
    | none => simp [Ytmhpifphohcfmaa.rdo, hx] at ho
    | some u => simp [Ytmhpifphohcfmaa.rdo, hx] at ho; subst ho; simp [h.rd hx]
theorem e_sliceA (l h : Nat) {b o N z : Nat} {e : TypeId} {lo hi : Option Operand} {vl vh : Option Value} (hT : P.underlying T = some (.array N e)) (hs : (P.info? e).map (·.size) = some z) (hx : rd E x = some (.pointer (some ⟨b, o, none⟩))) (hlo : rdo E lo = some vl) (hhi : rdo E hi = some vh) (hl : isB vl l 0) (hh : isB vh h N)
    (h1 : l ≤ h) (h2 : h ≤ N) (h3 : l < N) (hd : Nat.blt d n = true) (hK : OpsE P G R ops n K rest ((d, .slice (some ⟨b, o + l * z, none⟩) (h - l) (N - l)) :: E) M) : OpsE P G R ops n K (⟨some d, .slice T x lo hi none, ty, pos, aft, none⟩ :: rest) E M :=
  fun _ _ ha hM => st_sliceA hT hs (ha.rd hx) (by rw [ha.rdo hlo]; exact hl) (by rw [ha.rdo hhi]; exact hh) h1 h2 h3 (hK _ _ (ha.put hd _) hM)
theorem e_conv_str {b o N len cap i : Nat} {e : TypeId} {f : Nat → Nat} {t : TypeId} (hs : P.underlying T = some (.slice e)) (he : P.underlying e = some (.int .u8)) (ht : P.underlying T' = some .string) (hx : rd E x = some (.slice (some ⟨b, o, none⟩) len cap))
    (hm : lkM M i = some ⟨b, arr .u8 N f, t⟩) (ho : o + len ≤ N) (hd : Nat.blt d n = true) (hq : kconv R T T' = 1) (hX : ∃ js, okXL M i js R) (h : OpsE P G R ops n K rest ((d, .string (strOfNums ((List.range len).map fun j => (f (o + j) : Int)))) :: E) M) : OpsE P G R ops n K (⟨some d, .convert T T' x, ty, pos, aft, none⟩ :: rest) E M :=
  fun _ _ ha hM => by
    obtain ⟨k, hk⟩ := hM.at hm
    obtain ⟨js, hjs⟩ := hX
    exact st_conv_str hq hs he ht (ha.rd hx) hk (okXL_not hM hm hjs) ho (h _ _ (ha.put hd _) hM)
end Go.Proofs.Ytmhpifphohcfmaa
namespace Go.Proofs.Ytmhpifphohcfmaa
open Go Go.RowKit
section
variable {P : Program} {G : Mem} {R : Reg} {ops : Array Oper} {n : Nat} {K : Env → Mm → Prop} {rest : List Oper} {E : Env} {M : Mm} {d : Nat} {ty : TypeId} {pos : String} {aft : Array Edge}
variable {T T' : TypeId} {x y : Operand}
theorem e_add_w {p q : Nat} (hx : rd E x = some (uw p)) (hy : rd E y = some (uw q)) (hd : Nat.blt d n = true) (h : OpsE P G R ops n K rest ((d, uw ((p + q) % 4294967296)) :: E) M) :
    OpsE P G R ops n K (⟨some d, .binOp .add T x y T', ty, pos, aft, none⟩ :: rest) E M := fun _ _ ha hM => st_add_w (ha.rd hx) (ha.rd hy) (h _ _ (ha.put hd _) hM)
theorem e_or_w {p q : Nat} (hx : rd E x = some (uw p)) (hy : rd E y = some (uw q)) (hd : Nat.blt d n = true) (h : OpsE P G R ops n K rest ((d, uw ((p ||| q) % 4294967296)) :: E) M) :
    OpsE P G R ops n K (⟨some d, .binOp .or T x y T', ty, pos, aft, none⟩ :: rest) E M := fun _ _ ha hM => st_or_w (ha.rd hx) (ha.rd hy) (h _ _ (ha.put hd _) hM)
theorem e_xor_w {p q : Nat} (hx : rd E x = some (uw p)) (hy : rd E y = some (uw q)) (hd : Nat.blt d n = true) (h : OpsE P G R ops n K rest ((d, uw ((p ^^^ q) % 4294967296)) :: E) M) :
    OpsE P G R ops n K (⟨some d, .binOp .xor T x y T', ty, pos, aft, none⟩ :: rest) E M := fun _ _ ha hM => st_xor_w (ha.rd hx) (ha.rd hy) (h _ _ (ha.put hd _) hM)
theorem e_shl_w {k : IntKind} {p s : Nat} (hx : rd E x = some (uw p)) (hy : rd E y = some (.int k (s : Int))) (hd : Nat.blt d n = true) (hs : s ≤ 32) (h : OpsE P G R ops n K rest ((d, uw ((p * 2 ^ s) % 4294967296)) :: E) M) :
    OpsE P G R ops n K (⟨some d, .binOp .shl T x y T', ty, pos, aft, none⟩ :: rest) E M := fun _ _ ha hM => st_shl_w (ha.rd hx) (ha.rd hy) hs (h _ _ (ha.put hd _) hM)
theorem e_shr_w {k : IntKind} {p s : Nat} (hx : rd E x = some (uw p)) (hy : rd E y = some (.int k (s : Int))) (hd : Nat.blt d n = true) (hs : s ≤ 32) (h : OpsE P G R ops n K rest ((d, uw (p / 2 ^ s)) :: E) M) :
    OpsE P G R ops n K (⟨some d, .binOp .shr T x y T', ty, pos, aft, none⟩ :: rest) E M := fun _ _ ha hM => st_shr_w (ha.rd hx) (ha.rd hy) hs (h _ _ (ha.put hd _) hM)
theorem e_conv_w {k : IntKind} {dk : TypeDesc} {p : Nat} (hs : P.underlying T = some dk) (ht : P.underlying T' = some (.int .u32)) (hx : rd E x = some (.int k (p : Int))) (hd : Nat.blt d n = true) (hv : kconv R T T' = 1)
    (h : OpsE P G R ops n K rest ((d, uw (p % 4294967296)) :: E) M) : OpsE P G R ops n K (⟨some d, .convert T T' x, ty, pos, aft, none⟩ :: rest) E M := fun _ _ ha hM => st_conv_w hv hs ht (ha.rd hx) (h _ _ (ha.put hd _) hM)
theorem e_conv_i {k : IntKind} {dk : TypeDesc} {p : Nat} (hs : P.underlying T = some dk) (ht : P.underlying T' = some (.int .i64)) (hx : rd E x = some (.int k (p : Int))) (hd : Nat.blt d n = true) (hv : kconv R T T' = 1) (hp : p < 9223372036854775808)
    (h : OpsE P G R ops n K rest ((d, ii p) :: E) M) : OpsE P G R ops n K (⟨some d, .convert T T' x, ty, pos, aft, none⟩ :: rest) E M := fun _ _ ha hM => st_conv_i hv hs ht (ha.rd hx) hp (h _ _ (ha.put hd _) hM)
theorem e_catS {l k : List Nat} (hx : rd E x = some (sv l)) (hy : rd E y = some (sv k)) (hd : Nat.blt d n = true) (hl : l.length + k.length ≤ 9223372036854775807) (h : OpsE P G R ops n K rest ((d, sv (l ++ k)) :: E) M) :
    OpsE P G R ops n K (⟨some d, .binOp .add T x y T', ty, pos, aft, none⟩ :: rest) E M := fun _ _ ha hM => st_catS (ha.rd hx) (ha.rd hy) hl (h _ _ (ha.put hd _) hM)
theorem e_sliceStr (i j : Nat) {l : List Nat} {lo hi : Option Operand} {vl vh : Option Value} (hT : P.underlying T = some .string) (hx : rd E x = some (sv l)) (hlo : rdo E lo = some vl) (hhi : rdo E hi = some vh) (hl : isB vl i 0) (hh : isB vh j l.length) (h1 : i ≤ j) (h2 : j ≤ l.length) (hd : Nat.blt d n = true)
    (hK : OpsE P G R ops n K rest ((d, sv ((l.drop i).take (j - i))) :: E) M) : OpsE P G R ops n K (⟨some d, .slice T x lo hi none, ty, pos, aft, none⟩ :: rest) E M :=
  fun _ _ ha hM => st_sliceStr hT (ha.rd hx) (by rw [ha.rdo hlo]; exact hl) (by rw [ha.rdo hhi]; exact hh) h1 h2 (hK _ _ (ha.put hd _) hM)
theorem e_idxStr {l : List Nat} {j b : Nat} {k : IntKind} (hT : P.underlying T = some .string) (hx : rd E x = some (sv l)) (hy : rd E y = some (.int k (j : Int))) (hj : l[j]? = some b) (hb : b < 256) (hd : Nat.blt d n = true)
    (h : OpsE P G R ops n K rest ((d, by8 b) :: E) M) : OpsE P G R ops n K (⟨some d, .index T x y, ty, pos, aft, none⟩ :: rest) E M := fun _ _ ha hM => st_idxStr hT (ha.rd hx) (ha.rd hy) hj hb (h _ _ (ha.put hd _) hM)
theorem e_eqStr {l k : List Nat} (hx : rd E x = some (sv l)) (hy : rd E y = some (sv k)) (hd : Nat.blt d n = true) (hl : ∀ b ∈ l, b < 256) (hk : ∀ b ∈ k, b < 256) (h : OpsE P G R ops n K rest ((d, .bool (decide (l = k))) :: E) M) :
    OpsE P G R ops n K (⟨some d, .binOp .eql T x y T', ty, pos, aft, none⟩ :: rest) E M := fun _ _ ha hM => st_eqStr hl hk (ha.rd hx) (ha.rd hy) (h _ _ (ha.put hd _) hM)
theorem e_lenStr {l : List Nat} (hT : P.underlying T = some .string) (hx : rd E x = some (sv l)) (hd : Nat.blt d n = true) (hR : callOk R = true) (h : OpsE P G R ops n K rest ((d, ii l.length) :: E) M) :
    OpsE P G R ops n K (⟨some d, .call ⟨.builtin .len, #[x], #[T]⟩, ty, pos, aft, none⟩ :: rest) E M := fun _ _ ha hM => st_lenStr hR hT (ha.rd hx) (h _ _ (ha.put hd _) hM)
def SeenE (G : Mem) (R : Reg) (M : Mm) (B : Mem) : Prop := ∀ z ∈ B, z ∈ G ∨ ∃ i, lkM M i = some z ∧ ∃ js, okXL M i js R
theorem SeenE.seen {B : Mem} (h : SeenE G R M B) {m : Mem} (hM : FitsM M m) : Seen G R m B := fun z hz => by
  rcases h z hz with h1 | ⟨i, h1, js, h2⟩
  · exact .inl h1
  · exact .inr ⟨hM.has i z h1, okXL_not hM h1 h2⟩
theorem seenG : SeenE G R M G := fun _ hz => .inl hz
theorem seenM (i : Nat) {oz : Option Blk} (hi : lkM M i = oz) (hX : ∃ js, okXL M i js R) : SeenE G R M oz.toList := fun z hz => by
  have : oz = some z := by simpa using hz
  exact .inr ⟨i, hi.trans this, hX⟩
theorem seen1 (i : Nat) {z : Blk} (hi : lkM M i = some z) (hX : ∃ js, okXL M i js R) : SeenE G R M [z] := fun q hq => by
  simp at hq; subst hq
  exact .inr ⟨i, hi, hX⟩
theorem e_lenV {e : TypeId} {v : Value} {B : Mem} {z k : Nat} {xs : List Value} (hv : Shows B z v k xs) (hT : P.underlying T = some (.slice e)) (hx : rd E x = some v) (hd : Nat.blt d n = true) (hR : callOk R = true) (h : OpsE P G R ops n K rest ((d, ii k) :: E) M) :
    OpsE P G R ops n K (⟨some d, .call ⟨.builtin .len, #[x], #[T]⟩, ty, pos, aft, none⟩ :: rest) E M := fun _ _ ha hM => st_lenS hR hT (ha.rd hx) hv (h _ _ (ha.put hd _) hM)
theorem e_min {k k' : IntKind} {p q : Nat} (hx : rd E x = some (.int k (p : Int))) (hy : rd E y = some (.int k' (q : Int))) (hd : Nat.blt d n = true) (hR : callOk R = true) (h : OpsE P G R ops n K rest ((d, .int k ((min p q : Nat) : Int)) :: E) M) :
    OpsE P G R ops n K (⟨some d, .call ⟨.builtin .min, #[x, y], #[T, T']⟩, ty, pos, aft, none⟩ :: rest) E M := fun _ _ ha hM => st_min hR (ha.rd hx) (ha.rd hy) (h _ _ (ha.put hd _) hM)
theorem e_atV {e : TypeId} {k : IntKind} {v : Value} {B : Mem} {z l j : Nat} {xs : List Value} (hv : Shows B z v l xs) (hT : P.underlying T = some (.slice e)) (hs : (P.info? e).map (·.size) = some z) (hx : rd E x = some v) (hy : rd E y = some (.int k (j : Int))) (hj : j < l) (hd : Nat.blt d n = true)
    (h : OpsE P G R ops n K rest ((d, slAddr v (j * z)) :: E) M) : OpsE P G R ops n K (⟨some d, .indexAddr T x y, ty, pos, aft, none⟩ :: rest) E M := fun _ _ ha hM => st_atV hT hs (ha.rd hx) (ha.rd hy) hv hj (h _ _ (ha.put hd _) hM)
theorem e_loadV {td : TypeDesc} {v u : Value} {B : Mem} {l j : Nat} {xs : List Value} (hv : Shows B 1 v l xs) (hB : SeenE G R M B) (hT : P.underlying T = some td) (hn : rowLike td = false) (hx : rd E x = some (slAddr v j)) (hj : xs[j]? = some u) (hd : Nat.blt d n = true)
    (h : OpsE P G R ops n K rest ((d, u) :: E) M) : OpsE P G R ops n K (⟨some d, .load T x, ty, pos, aft, none⟩ :: rest) E M := fun _ _ ha hM => st_loadV (hB.seen hM) hT hn (ha.rd hx) hv hj (h _ _ (ha.put hd _) hM)
theorem e_sliceV (i j : Nat) {e : TypeId} {v : Value} {B : Mem} {z l : Nat} {xs : List Value} {lo hi : Option Operand} {vl vh : Option Value} (hv : Shows B z v l xs) (hT : P.underlying T = some (.slice e)) (hs : (P.info? e).map (·.size) = some z) (hx : rd E x = some v) (hlo : rdo E lo = some vl) (hhi : rdo E hi = some vh) (hl : isB vl i 0) (hh : isB vh j l)
    (h1 : i ≤ j) (h2 : j ≤ l) (hd : Nat.blt d n = true) (hK : OpsE P G R ops n K rest ((d, slPart z v i j) :: E) M) : OpsE P G R ops n K (⟨some d, .slice T x lo hi none, ty, pos, aft, none⟩ :: rest) E M :=
  fun _ _ ha hM => st_sliceV hT hs (ha.rd hx) hv (by rw [ha.rdo hlo]; exact hl) (by rw [ha.rdo hhi]; exact hh) h1 h2 (hK _ _ (ha.put hd _) hM)
theorem e_conv_strV {e : TypeId} {v : Value} {B : Mem} {l : List Nat} (hv : Shows B 1 v l.length (l.map by8)) (hB : SeenE G R M B) (hs : P.underlying T = some (.slice e)) (he : P.underlying e = some (.int .u8)) (ht : P.underlying T' = some .string) (hx : rd E x = some v) (hd : Nat.blt d n = true) (hq : kconv R T T' = 1)
    (h : OpsE P G R ops n K rest ((d, sv l) :: E) M) : OpsE P G R ops n K (⟨some d, .convert T T' x, ty, pos, aft, none⟩ :: rest) E M := fun _ _ ha hM => st_conv_strV hq (hB.seen hM) hs he ht (ha.rd hx) hv (h _ _ (ha.put hd _) hM)
theorem e_make (i : Nat) {e : TypeId} {kl kc k : IntKind} {l b : Nat} {z : Value} (hT : P.underlying T = some (.slice e)) (hs : (P.info? e).map (·.size) = some 1) (hb : (P.info? e).map (·.bytes) = some b) (hz : (P.info? e).bind (·.zero) = some z) (hzc : z.cells = #[.int k 0])
    (hx : rd E x = some (.int kl (l : Int))) (hy : rd E y = some (.int kc (l : Int))) (hn : b * l ≤ 281474976710656) (h63 : l ≤ 9223372036854775807) (hd : Nat.blt d n = true)
    (h : ∀ r, OpsE P G R ops n K rest ((d, .slice (some ⟨r, 0, none⟩) l l) :: E) ((i, some ⟨r, arr k l (fun _ => 0), e⟩) :: M)) : OpsE P G R ops n K (⟨some d, .makeSlice T x y, ty, pos, aft, none⟩ :: rest) E M :=
  fun _ _ ha hM => st_make hT hs hb hz hzc (ha.rd hx) (ha.rd hy) hn h63 fun r hr => h r _ _ (ha.put hd _) (hM.alloc i ⟨r, _, e⟩ hr)
theorem FitsM.change {m m' : Mem} (hM : FitsM M m) (i : Nat) {oz : Option Blk} (h1 : ∀ j x, j ≠ i → lkM M j = some x → x ∈ m') (h2 : ∀ z, oz = some z → z ∈ m' ∧ ∀ j x, j ≠ i → lkM M j = some x → x.b ≠ z.b) : FitsM ((i, oz) :: M) m' := by
  refine ⟨fun j x hx => ?_, fun j k x z hx hz hne => ?_⟩
  · rw [lkM_cons] at hx
    split at hx
    · exact (h2 x hx).1
    · rename_i hne; exact h1 j x (fun e => hne e.symm) hx
  · rw [lkM_cons] at hx hz
    split at hx
    · split at hz
      · rename_i e1 e2; exact absurd (e1.symm.trans e2) hne
      · rename_i e2; exact fun e => (h2 x hx).2 k z (fun e' => e2 e'.symm) hz e.symm
    · split at hz
      · rename_i e1 _; exact (h2 z hz).2 j x (fun e' => e1 e'.symm) hx
      · exact hM.apart j k x z hx hz hne
theorem FitsM.others {m lr : Mem} (hM : FitsM M m) {i : Nat} {oz : Option Blk} (hi : lkM M i = oz) (hp : List.Perm m (oz.toList ++ lr)) : ∀ j x, j ≠ i → lkM M j = some x → x ∈ lr := fun j x hne hx => by
  have hm := hp.mem_iff.1 (hM.has j x hx)
  rcases List.mem_append.1 hm with h | h
  · have : oz = some x := by simpa using h
    exact absurd rfl (hM.apart j i x x hx (hi.trans this) hne)
  · exact h
theorem FitsM.perm1 {m : Mem} (hM : FitsM M m) {i : Nat} {oz : Option Blk} (hi : lkM M i = oz) : ∃ lr, List.Perm m (oz.toList ++ lr) := by
  cases oz with
  | none => exact ⟨m, by simp⟩
  | some z =>
    obtain ⟨l1, l2, h⟩ := List.append_of_mem (hM.has i z hi)
    exact ⟨l1 ++ l2, by rw [h]; simp⟩
theorem FitsM.same {m lr : Mem} (hM : FitsM M m) {i : Nat} {oz oz' : Option Blk} (hi : lkM M i = oz) (hp : List.Perm m (oz.toList ++ lr)) (hid : oz'.toList.map (·.b) = oz.toList.map (·.b)) : FitsM ((i, oz') :: M) (oz'.toList ++ lr) :=
  hM.change i (fun j x hne hx => List.mem_append_right _ (hM.others hi hp j x hne hx)) fun z hz => ⟨by subst hz; simp, fun j x hne hx => by
    subst hz
    cases oz with
    | none => simp at hid
    | some q =>
      simp at hid
      rw [hid]; exact hM.apart j i x q hx hi hne⟩
theorem FitsM.fresh {m lr : Mem} (hM : FitsM M m) (i : Nat) {oz : Option Blk} {l0 : Mem} (hp : List.Perm m (l0 ++ lr)) (hf : FreshM m oz.toList) : FitsM ((i, oz) :: M) (l0 ++ lr ++ oz.toList) :=
  hM.change i (fun j x _ hx => List.mem_append_left _ (hp.mem_iff.1 (hM.has j x hx))) fun z hz => ⟨by subst hz; simp, fun j x _ hx => hf.2 z (by subst hz; simp) x (hM.has j x hx)⟩
theorem e_copyStr {e : TypeId} {b o N dl cap i : Nat} {f : Nat → Nat} {t : TypeId} {l : List Nat} (hT : P.underlying T = some (.slice e)) (hs : (P.info? e).map (·.size) = some 1) (hx : rd E x = some (.slice (some ⟨b, o, none⟩) dl cap)) (hy : rd E y = some (sv l)) (hl : ∀ q ∈ l, q < 256)
    (hm : lkM M i = some ⟨b, arr .u8 N f, t⟩) (ho : o + dl ≤ N) (hd : Nat.blt d n = true)
    (h : OpsE P G R ops n K rest ((d, ii (min l.length dl)) :: E) ((i, some ⟨b, arr .u8 N (fun j => if o ≤ j ∧ j < o + min l.length dl then l.getD (j - o) 0 else f j), t⟩) :: M)) (hL : R.L = none := by rfl) : OpsE P G R ops n K (⟨some d, .call ⟨.builtin .copy, #[x, y], #[T, T']⟩, ty, pos, aft, none⟩ :: rest) E M :=
  fun _ _ ha hM => by
    obtain ⟨k, hk⟩ := hM.at hm
    exact st_copyStr (hL := hL) hT hs (ha.rd hx) (ha.rd hy) hl hk ho fun lr hp => h _ _ (ha.put hd _) (hM.same (oz' := some _) hm (by simpa using hp) rfl)
theorem own_opt {e : TypeId} {z k : Nat} {v : Value} {xs : List Value} {l : Mem} (h : OwnS e z v k xs l) : ∃ oz : Option Blk, l = oz.toList := by
  rcases h with ⟨_, _, _, rfl⟩ | ⟨r, cap, c, _, rfl, _⟩
  · exact ⟨none, rfl⟩
  · exact ⟨some _, rfl⟩
def OffL (M : Mm) (i : Nat) : Option (List Nat) → Prop
  | none => True
  | some l => ∃ js, okX M i js l
theorem OffL.off {M : Mm} {m : Mem} {i : Nat} {oz : Option Blk} {L : Option (List Nat)} (h : OffL M i L) (hM : FitsM M m) (hi : lkM M i = oz) : ∀ x ∈ oz.toList, offL L x.b := fun x hx => by
  have e : oz = some x := by simpa using hx
  cases L with
  | none => trivial
  | some l =>
    obtain ⟨js, hjs⟩ := h
    exact okX_not hM (hi.trans e) hjs
theorem e_appendL (i : Nat) {e : TypeId} {z l k bytes : Nat} {zv v vy : Value} {xs news : List Value} {oz : Option Blk} {B : Mem} (hown : OwnS e z v l xs oz.toList) (hsrc : Shows B z vy k news) (hi : lkM M i = oz) (hB : ∀ q ∈ B, q ∈ G ∨ ∃ j, lkM M j = some q) (hoff : OffL M i R.L)
    (hT : P.underlying T = some (.slice e)) (hs : (P.info? e).map (·.size) = some z) (hb : (P.info? e).map (·.bytes) = some bytes) (hz : (P.info? e).bind (·.zero) = some zv) (hzs : zv.cells.size = z)
    (hx : rd E x = some v) (hy : rd E y = some vy) (h1 : ∀ u ∈ news, u.oneCell' = true) (h63 : l + k ≤ maxLen) (hbytes : (l + k) * bytes ≤ 140737488355328) (hd : Nat.blt d n = true)
    (h : ∀ v' (oz' : Option Blk), OwnS e z v' (l + k) (xs ++ news) oz'.toList → OpsE P G R ops n K rest ((d, v') :: E) ((i, oz') :: M)) : OpsE P G R ops n K (⟨some d, .call ⟨.builtin .append, #[x, y], #[T, T]⟩, ty, pos, aft, none⟩ :: rest) E M :=
  fun _ m ha hM => by
    obtain ⟨lr, hp⟩ := hM.perm1 hi
    refine st_append hT hs hb hz hzs (ha.rd hx) (ha.rd hy) hown (hoff.off hM hi) hp hsrc (fun q hq => ?_) h1 h63 hbytes fun v' l' ho => ?_
    · rcases hB q hq with h2 | ⟨j, h2⟩
      · exact .inl h2
      · exact .inr (hM.has j q h2)
    · obtain ⟨oz', rfl⟩ := own_opt ho
      refine ⟨fun hid => ?_, fun hf => ?_⟩
      · simpa using h v' oz' ho _ _ (ha.put hd _) (hM.same hi hp hid)
      · exact h v' oz' ho _ _ (ha.put hd _) (hM.fresh i hp hf)
theorem e_append (i : Nat) {e : TypeId} {z l k bytes : Nat} {zv v vy : Value} {xs news : List Value} {oz : Option Blk} {B : Mem} (hown : OwnS e z v l xs oz.toList) (hsrc : Shows B z vy k news) (hi : lkM M i = oz) (hB : SeenE G R M B)
    (hT : P.underlying T = some (.slice e)) (hs : (P.info? e).map (·.size) = some z) (hb : (P.info? e).map (·.bytes) = some bytes) (hz : (P.info? e).bind (·.zero) = some zv) (hzs : zv.cells.size = z)
    (hx : rd E x = some v) (hy : rd E y = some vy) (h1 : ∀ u ∈ news, u.oneCell' = true) (h63 : l + k ≤ maxLen) (hbytes : (l + k) * bytes ≤ 140737488355328) (hd : Nat.blt d n = true)
    (h : ∀ v' (oz' : Option Blk), OwnS e z v' (l + k) (xs ++ news) oz'.toList → OpsE P G R ops n K rest ((d, v') :: E) ((i, oz') :: M)) (hL : R.L = none := by rfl) : OpsE P G R ops n K (⟨some d, .call ⟨.builtin .append, #[x, y], #[T, T]⟩, ty, pos, aft, none⟩ :: rest) E M :=
  e_appendL i hown hsrc hi (fun q hq => (hB q hq).imp id fun ⟨j, h2, _⟩ => ⟨j, h2⟩) (by rw [hL]; trivial) hT hs hb hz hzs hx hy h1 h63 hbytes hd h
theorem subM_opt {oz : Option Blk} {i : Nat} (hi : lkM M i = oz) : subM oz.toList M := by
  cases oz with
  | none => trivial
  | some z => exact ⟨⟨i, hi⟩, trivial⟩
theorem e_callN (i : Nat) (mk : Value → Value) {fo : Operand} {f : FuncId} {args : Array Operand} {tys : Array TypeId} {vs cap : List Value} {g' : Mem} {e : TypeId} {z k : Nat} {xs : List Value} (hf : rd E fo = some (.func (.func f) #[] cap.toArray)) (hargs : rdl E args.toList = some vs) (he : enters P f = true) (hg : SeenE G R M g')
    (hF : Fx P g' [] f (vs ++ cap).toArray (fun v l1 nw => l1 = [] ∧ ∃ v', v = mk v' ∧ OwnS e z v' k xs nw)) (hk : k ≤ maxLen) (hkx : xs.length = k * z) (hd : Nat.blt d n = true) (hR : callMk R = true)
    (h : ∀ v' (oz : Option Blk), OwnS e z v' k xs oz.toList → OpsE P G R ops n K rest ((d, mk v') :: E) ((i, oz) :: M)) : OpsE P G R ops n K (⟨some d, .call ⟨.value fo, args, tys⟩, ty, pos, aft, none⟩ :: rest) E M :=
  fun _ m ha hM => by
    refine st_callN hR (S := fun v nw => ∃ v', v = mk v' ∧ OwnS e z v' k xs nw) (ha.rd hf) (ha.args hargs) he (by simpa using hF) ?_ (fun w hG hv q hq => (hg.seen hM).rin hG hv hq) ?_
    · intro m'
      obtain ⟨r, hr⟩ := fresh_of m'
      exact ⟨_, [⟨r, xs.toArray, e⟩], ⟨.slice (some ⟨r, 0, none⟩) k k, rfl, .inr ⟨r, k, xs.toArray, rfl, rfl, Nat.le_refl _, hk, by simpa using hkx, hkx, by rw [← hkx]; exact List.take_length⟩⟩, by simp, by simpa using hr⟩
    · rintro v nw ⟨v', rfl, ho⟩ hfr
      obtain ⟨oz, rfl⟩ := own_opt ho
      have := hM.fresh i (l0 := []) (lr := m) (by simp) hfr
      exact h v' oz ho _ _ (ha.put hd _) (by simpa using this)
theorem e_callW (i : Nat) {fo : Operand} {f : FuncId} {args : Array Operand} {tys : Array TypeId} {vs cap : List Value} {g' : Mem} {b : Nat} {c c' : Array Value} {t : TypeId} {v : Value} (hf : rd E fo = some (.func (.func f) #[] cap.toArray)) (hargs : rdl E args.toList = some vs) (he : enters P f = true)
    (hm : lkM M i = some ⟨b, c, t⟩) (hg : ∀ z ∈ g', z ∈ G ∨ ∃ j, j ≠ i ∧ lkM M j = some z) (hF : Fx P g' [⟨b, c, t⟩] f (vs ++ cap).toArray (fun v' l1 nw => v' = v ∧ l1 = [⟨b, c', t⟩] ∧ nw = [])) (hd : Nat.blt d n = true) (hR : R.c = 5)
    (h : OpsE P G R ops n K rest ((d, v) :: E) ((i, some ⟨b, c', t⟩) :: M)) (hL : R.L = none := by rfl) : OpsE P G R ops n K (⟨some d, .call ⟨.value fo, args, tys⟩, ty, pos, aft, none⟩ :: rest) E M :=
  fun _ m ha hM => by
    obtain ⟨lr, hp⟩ := hM.perm1 hm
    refine st_callX hR (S := fun v' l1 nw => v' = v ∧ l1 = [⟨b, c', t⟩] ∧ nw = []) (ha.rd hf) (ha.args hargs) he (by simpa using hF) (lr := lr) (fun _ _ => off_none hL _) (by simpa using hp) ⟨v, _, [], ⟨rfl, rfl, rfl⟩, by simp, by simp⟩ ?_ (fun w hG hw z hz => ?_) (by simp) (fun hA z hz => ?_) ?_
    · rintro v' l1 nw ⟨_, rfl, _⟩; rfl
    · rcases hg z hz with h1 | ⟨j, _, h1⟩
      · exact hG z h1
      · exact (hw z (hM.has j z h1)).read
    · rcases hg z hz with h1 | ⟨j, hne, h1⟩
      · simpa using hA z h1 ⟨b, c, t⟩ (hM.has i _ hm)
      · simpa using hM.apart j i z _ h1 hm hne
    · rintro v' l1 nw ⟨rfl, rfl, rfl⟩ _
      have := hM.same (oz' := some ⟨b, c', t⟩) hm hp rfl
      exact h _ _ (ha.put hd _) (by simpa using this)
end
section
variable {P : Program} {G : Mem} {n : Nat}
theorem mapM0 (f : ResultVar → Sem Value) : Array.mapM f #[] = pure #[] := by
  rw [Array.mapM_eq_mapM_toList]; simp
def EndW (b : Nat) (c' : Array Value) (t : TypeId) (fn : Func) : Exit → Env → Mm → Prop
  | .normal, _, M | .ret, _, M => fn.results = #[] ∧ ∃ i, lkM M i = some ⟨b, c', t⟩
  | _, _, _ => False
theorem fxW {f : FuncId} {fn : Func} {c : Code} {args : Array Value} {b : Nat} {c0 c' : Array Value} {t : TypeId} (hf : P.funcs[f]? = some fn) (hb : fn.body = some c) (hn : fn.ntmps = n) (ha : args.size ≤ n) (E : Env) (hE : ∀ t v, lk E t = some v → args[t]? = some v)
    (h : SatE P G c n (EndW b c' t fn) E [(0, some ⟨b, c0, t⟩)]) : Fx P G [⟨b, c0, t⟩] f args (fun v' l1 nw => v' = .tuple #[] ∧ l1 = [⟨b, c', t⟩] ∧ nw = []) :=
  fx_of hf hb (sat_mono (h _ [⟨b, c0, t⟩] ⟨by simp [hn]; omega, rfl, fun t v ht => by
    have := hE t v ht
    have hlt := (Array.getElem?_eq_some_iff.1 this).1
    rw [Array.getElem?_append_left hlt]; exact this⟩ ⟨fun i x hx => by
      rw [lkM_cons] at hx
      split at hx
      · cases hx; simp
      · simp [lkM] at hx, fun i j x y hx hy hne => by
      rw [lkM_cons] at hx hy
      split at hx
      · split at hy
        · rename_i e1 e2; exact absurd (e1.symm.trans e2) hne
        · simp [lkM] at hy
      · simp [lkM] at hx⟩) fun e a m ⟨E', M', h1, h0, h2⟩ => by
      have key : (fn.results = #[] ∧ ∃ i, lkM M' i = some ⟨b, c', t⟩) → a.defers = [] ∧ ∃ v l1 nw, (v = Value.tuple #[] ∧ l1 = [(⟨b, c', t⟩ : Blk)] ∧ nw = ([] : Mem)) ∧ (nw.map (·.b)).Nodup ∧ (∀ x ∈ nw, x.b ∉ [(⟨b, c0, t⟩ : Blk)].map (·.b)) ∧ (∀ x ∈ l1 ++ nw, x ∈ m) ∧ ∀ w, MemIn m w → (results fn a.tmps).run P w = .ok v w := fun ⟨hr, i, hi⟩ =>
        ⟨h1.defers, _, _, _, ⟨rfl, rfl, rfl⟩, by simp, by simp, fun x hx => by
          simp at hx; subst hx; exact h0.has i _ hi, fun w _ => by
          rw [results_eq, hr, mapM0]
          simp⟩
      cases e <;> first | exact key h2 | exact h2.elim)
def EndN (P : Program) (e : TypeId) (z k : Nat) (xs : List Value) (fn : Func) : Exit → Env → Mm → Prop
  | .normal, E, M | .ret, E, M => ∃ r v oz i, fn.results = #[r] ∧ Res P E M r v ∧ OwnS e z v k xs (Option.toList oz) ∧ lkM M i = oz
  | _, _, _ => False
def EndN2 (P : Program) (e : TypeId) (z k : Nat) (xs : List Value) (u : Value) (fn : Func) : Exit → Env → Mm → Prop
  | .normal, E, M | .ret, E, M => ∃ r r' v oz i, fn.results = #[r, r'] ∧ Res P E M r v ∧ Res P E M r' u ∧ OwnS e z v k xs (Option.toList oz) ∧ lkM M i = oz
  | _, _, _ => False
theorem own_nd {e : TypeId} {z k : Nat} {v : Value} {xs : List Value} {l : Mem} (h : OwnS e z v k xs l) : (l.map (·.b)).Nodup := by
  rcases h with ⟨_, _, _, rfl⟩ | ⟨r, cap, c, _, rfl, _⟩ <;> simp
theorem fxN {f : FuncId} {fn : Func} {c : Code} {args : Array Value} {e : TypeId} {z k : Nat} {xs : List Value} (hf : P.funcs[f]? = some fn) (hb : fn.body = some c) (hn : fn.ntmps = n) (ha : args.size ≤ n) (E : Env) (hE : ∀ t v, lk E t = some v → args[t]? = some v)
    (h : SatE P G c n (EndN P e z k xs fn) E []) : Fx P G [] f args (fun v l1 nw => l1 = [] ∧ ∃ v', v = v' ∧ OwnS e z v' k xs nw) :=
  fx_of hf hb (sat_mono (h _ [] ⟨by simp [hn]; omega, rfl, fun t v ht => by
    have := hE t v ht
    have hlt := (Array.getElem?_eq_some_iff.1 this).1
    rw [Array.getElem?_append_left hlt]; exact this⟩ (FitsM.nil _)) fun e' a m ⟨E', M', h1, h0, h2⟩ => by
      have key : (∃ r v oz i, fn.results = #[r] ∧ Res P E' M' r v ∧ OwnS e z v k xs (Option.toList oz) ∧ lkM M' i = oz) → a.defers = [] ∧ ∃ v l1 nw, (l1 = [] ∧ ∃ v', v = v' ∧ OwnS e z v' k xs nw) ∧ (nw.map (·.b)).Nodup ∧ (∀ x ∈ nw, x.b ∉ ([] : Mem).map (·.b)) ∧ (∀ x ∈ l1 ++ nw, x ∈ m) ∧ ∀ w, MemIn m w → (results fn a.tmps).run P w = .ok v w := fun ⟨r, v, oz, i, hr, hR, ho, hi⟩ =>
        ⟨h1.defers, v, [], oz.toList, ⟨rfl, v, rfl, ho⟩, own_nd ho, by simp, fun x hx => by
          have : oz = some x := by simpa using hx
          exact h0.has i x (hi.trans this), fun w hw => by
          have := res_run h1 h0 hw hR
          rw [results_eq, hr, mapM1]
          simp [this]⟩
      cases e' <;> first | exact key h2 | exact h2.elim)
theorem fxN2 {f : FuncId} {fn : Func} {c : Code} {args : Array Value} {e : TypeId} {z k : Nat} {xs : List Value} {u : Value} (hf : P.funcs[f]? = some fn) (hb : fn.body = some c) (hn : fn.ntmps = n) (ha : args.size ≤ n) (E : Env) (hE : ∀ t v, lk E t = some v → args[t]? = some v)
    (h : SatE P G c n (EndN2 P e z k xs u fn) E []) : Fx P G [] f args (fun v l1 nw => l1 = [] ∧ ∃ v', v = .tuple #[v', u] ∧ OwnS e z v' k xs nw) :=
  fx_of hf hb (sat_mono (h _ [] ⟨by simp [hn]; omega, rfl, fun t v ht => by
    have := hE t v ht
    have hlt := (Array.getElem?_eq_some_iff.1 this).1
    rw [Array.getElem?_append_left hlt]; exact this⟩ (FitsM.nil _)) fun e' a m ⟨E', M', h1, h0, h2⟩ => by
      have key : (∃ r r' v oz i, fn.results = #[r, r'] ∧ Res P E' M' r v ∧ Res P E' M' r' u ∧ OwnS e z v k xs (Option.toList oz) ∧ lkM M' i = oz) → a.defers = [] ∧ ∃ v l1 nw, (l1 = [] ∧ ∃ v', v = Value.tuple #[v', u] ∧ OwnS e z v' k xs nw) ∧ (nw.map (·.b)).Nodup ∧ (∀ x ∈ nw, x.b ∉ ([] : Mem).map (·.b)) ∧ (∀ x ∈ l1 ++ nw, x ∈ m) ∧ ∀ w, MemIn m w → (results fn a.tmps).run P w = .ok v w := fun ⟨r, r', v, oz, i, hr, hR, hR', ho, hi⟩ =>
        ⟨h1.defers, .tuple #[v, u], [], oz.toList, ⟨rfl, v, rfl, ho⟩, own_nd ho, by simp, fun x hx => by
          have : oz = some x := by simpa using hx
          exact h0.has i x (hi.trans this), fun w hw => by
          have := res_run h1 h0 hw hR
          have t' := res_run h1 h0 hw hR'
          rw [results_eq, hr, mapM2]
          simp [this, t']⟩
      cases e' <;> first | exact key h2 | exact h2.elim)
end
end Go.Proofs.Ytmhpifphohcfmaa
namespace Go.Proofs.Ytmhpifphohcfmaa
open Go Go.RowKit
def rotl (n b : Nat) : Nat := (n * 2 ^ b % 4294967296 ||| n / 2 ^ (32 - b)) % 4294967296
def qrt (a b d e : Nat) : Nat × Nat × Nat × Nat :=
  let a1 := (a + b) % 4294967296
  let e1 := rotl ((e ^^^ a1) % 4294967296) 16
  let d1 := (d + e1) % 4294967296
  let b1 := rotl ((b ^^^ d1) % 4294967296) 12
  let a2 := (a1 + b1) % 4294967296
  let e2 := rotl ((e1 ^^^ a2) % 4294967296) 8
  let d2 := (d1 + e2) % 4294967296
  let b2 := rotl ((b1 ^^^ d2) % 4294967296) 7
  (a2, b2, d2, e2)
def rnd (f : Nat → Nat) (t : Nat) : Nat :=
  let q := qrt (f (t % 4)) (f (4 + t % 4)) (f (8 + t % 4)) (f (12 + t % 4))
  if t < 4 then q.1 else if t < 8 then q.2.1 else if t < 12 then q.2.2.1 else q.2.2.2
def sh1 (f : Nat → Nat) (t : Nat) : Nat := f (4 * (t / 4) + (t % 4 + 4 + 1 * (t / 4)) % 4)
def shm (f : Nat → Nat) (t : Nat) : Nat := f (4 * (t / 4) + (t % 4 + 4 - t / 4) % 4)
def dbl (f : Nat → Nat) : Nat → Nat := shm (rnd (sh1 (rnd f)))
def dbls (f : Nat → Nat) : Nat → Nat → Nat
  | 0 => f
  | k + 1 => dbl (dbls f k)
theorem rnd_step {f s : Nat → Nat} {k : Nat} (hk : k < 4) (hs : ∀ t, t < 16 → s t = if t % 4 < k then rnd f t else f t) (q : Nat × Nat × Nat × Nat) (hq : q = qrt (s k) (s (4 + k)) (s (8 + k)) (s (12 + k))) :
    ∀ t, t < 16 → upd (upd (upd (upd s k q.1) (4 + k) q.2.1) (8 + k) q.2.2.1) (12 + k) q.2.2.2 t = if t % 4 < k + 1 then rnd f t else f t := by
  have e0 : s k = f k := by rw [hs k (by omega), if_neg (by omega)]
  have e1 : s (4 + k) = f (4 + k) := by rw [hs _ (by omega), if_neg (by omega)]
  have e2 : s (8 + k) = f (8 + k) := by rw [hs _ (by omega), if_neg (by omega)]
  have e3 : s (12 + k) = f (12 + k) := by rw [hs _ (by omega), if_neg (by omega)]
  rw [e0, e1, e2, e3] at hq
  intro t ht
  by_cases hm : t % 4 = k
  · rw [if_pos (by omega)]
    unfold rnd
    rw [hm, ← hq]
    unfold upd
    have : t = k ∨ t = 4 + k ∨ t = 8 + k ∨ t = 12 + k := by omega
    rcases this with h | h | h | h
    · rw [if_neg (by omega), if_neg (by omega), if_neg (by omega), if_pos h, if_pos (by omega)]
    · rw [if_neg (by omega), if_neg (by omega), if_pos h, if_neg (by omega), if_pos (by omega)]
    · rw [if_neg (by omega), if_pos h, if_neg (by omega), if_neg (by omega), if_pos (by omega)]
    · rw [if_pos h, if_neg (by omega), if_neg (by omega), if_neg (by omega)]
  · unfold upd
    rw [if_neg (by omega), if_neg (by omega), if_neg (by omega), if_neg (by omega), hs t ht]
    by_cases hlt : t % 4 < k
    · rw [if_pos hlt, if_pos (by omega)]
    · rw [if_neg hlt, if_neg (by omega)]
theorem rnd_end {f s : Nat → Nat} (hs : ∀ t, t < 16 → s t = if t % 4 < 4 then rnd f t else f t) : arr .u32 16 s = arr .u32 16 (rnd f) := arr_congr fun t ht => by
  rw [hs t ht, if_pos (by omega)]
theorem sh_at (g : (Nat → Nat) → Nat → Nat) (f s : Nat → Nat) {k j v : Nat} (hv : v = g f (4 * k + j)) (hs : ∀ t, t < 4 * k + j → s t = g f t) : ∀ t, t < 4 * k + (j + 1) → upd s (4 * k + j) v t = g f t := fun t ht => by
  unfold upd; split
  · rename_i h; rw [hv, h]
  · exact hs t (by omega)
theorem sh1_v (f : Nat → Nat) {k j : Nat} (hj : j < 4) : f (4 * k + (j + 4 + 1 * k) % 4) = sh1 f (4 * k + j) := by
  unfold sh1
  rw [show (4 * k + j) / 4 = k by omega, show (4 * k + j) % 4 = j by omega]
theorem shm_v (f : Nat → Nat) {k j : Nat} (hj : j < 4) : f (4 * k + (j + 4 - k) % 4) = shm f (4 * k + j) := by
  unfold shm
  rw [show (4 * k + j) / 4 = k by omega, show (4 * k + j) % 4 = j by omega]
def lowl (n k : Nat) : List Nat := (List.range k).map fun i => n / 256 ^ i % 256
theorem lowl_len (n k : Nat) : (lowl n k).length = k := by simp [lowl]
theorem lowl_succ (n k : Nat) : lowl n k ++ [n / 256 ^ k % 256] = lowl n (k + 1) := by
  unfold lowl; rw [List.range_succ, List.map_append]; rfl
theorem lowl_lt (n k : Nat) : ∀ b ∈ lowl n k, b < 256 := fun b hb => by
  obtain ⟨i, _, rfl⟩ := List.mem_map.1 hb
  exact Nat.mod_lt _ (by decide)
def leN : List Nat → Nat
  | [] => 0
  | b :: l => b + 256 * leN l
theorem leN_lt : ∀ (l : List Nat), (∀ b ∈ l, b < 256) → leN l < 256 ^ l.length
  | [], _ => by simp [leN]
  | b :: l, h => by
    have h1 := leN_lt l (fun x hx => h x (by simp [hx]))
    have h2 := h b (by simp)
    rw [List.length_cons, Nat.pow_succ]
    unfold leN
    omega
theorem leN_drop {l : List Nat} {i : Nat} (hi : i < l.length) : leN (l.drop i) = leN (l.drop (i + 1)) * 256 + l[i] := by
  rw [List.drop_eq_getElem_cons hi]
  show l[i] + 256 * leN (l.drop (i + 1)) = _
  omega
theorem leN_small {l : List Nat} (hl : l.length ≤ 8) (hb : ∀ b ∈ l, b < 256) (i : Nat) : leN (l.drop (i + 1)) < 72057594037927936 := by
  have h1 := leN_lt (l.drop (i + 1)) (fun b h => hb b (List.mem_of_mem_drop h))
  have h2 : (l.drop (i + 1)).length ≤ 7 := by simp; omega
  have h3 : 256 ^ (l.drop (i + 1)).length ≤ 256 ^ 7 := Nat.pow_le_pow_right (by decide) h2
  have h4 : 256 ^ 7 = 72057594037927936 := by decide
  omega
end Go.Proofs.Ytmhpifphohcfmaa
namespace Go.Proofs.Ytmhpifphohcfmaa
open Go Go.RowKit
abbrev C16 : List Nat := [101, 120, 112, 97, 110, 100, 32, 51, 50, 45, 98, 121, 116, 101, 32, 107]
def allb (k : Nat → Nat) (c : Nat) (nn : Nat → Nat) : List Nat := C16 ++ (List.range 32).map k ++ lowl c 4 ++ (List.range 12).map nn
theorem allb_len (k : Nat → Nat) (c : Nat) (nn : Nat → Nat) : (allb k c nn).length = 64 := by simp [allb, lowl_len]
theorem range_lt {n : Nat} {f : Nat → Nat} (hf : ∀ j, j < n → f j < 256) : ∀ b ∈ (List.range n).map f, b < 256 := fun b hb => by
  obtain ⟨i, hi, rfl⟩ := List.mem_map.1 hb
  exact hf i (by simpa using hi)
theorem allb_lt {k : Nat → Nat} {c : Nat} {nn : Nat → Nat} (hk : ∀ j, j < 32 → k j < 256) (hn : ∀ j, j < 12 → nn j < 256) : ∀ b ∈ allb k c nn, b < 256 := fun b hb => by
  unfold allb at hb
  rcases List.mem_append.1 hb with hb | hb
  · rcases List.mem_append.1 hb with hb | hb
    · rcases List.mem_append.1 hb with hb | hb
      · simp at hb; omega
      · exact range_lt hk b hb
    · exact lowl_lt c 4 b hb
  · exact range_lt hn b hb
def wrd (l : List Nat) (t : Nat) : Nat := leN ((l.drop (4 * t)).take 4)
theorem wrd_lt {l : List Nat} (hb : ∀ b ∈ l, b < 256) (t : Nat) : wrd l t < 4294967296 := by
  have h1 := leN_lt ((l.drop (4 * t)).take 4) (fun b h => hb b (List.mem_of_mem_drop (List.mem_of_mem_take h)))
  have h2 : ((l.drop (4 * t)).take 4).length ≤ 4 := by simp; omega
  have h3 : 256 ^ ((l.drop (4 * t)).take 4).length ≤ 256 ^ 4 := Nat.pow_le_pow_right (by decide) h2
  have h4 : 256 ^ 4 = 4294967296 := by decide
  unfold wrd
  omega
theorem cut4_len (l : List Nat) (t : Nat) : ((l.drop (4 * t)).take 4).length ≤ 8 := by simp; omega
theorem cut4_lt {l : List Nat} (hb : ∀ b ∈ l, b < 256) (t : Nat) : ∀ b ∈ (l.drop (4 * t)).take 4, b < 256 := fun b h => hb b (List.mem_of_mem_drop (List.mem_of_mem_take h))
def outl (v w : Nat → Nat) : Nat → List Nat
  | 0 => []
  | i + 1 => outl v w i ++ lowl ((v i + w i) % 4294967296) 4
theorem outl_len (v w : Nat → Nat) : ∀ i, (outl v w i).length = 4 * i
  | 0 => rfl
  | i + 1 => by rw [outl, List.length_append, outl_len v w i, lowl_len]; omega
theorem outl_lt (v w : Nat → Nat) : ∀ i, ∀ b ∈ outl v w i, b < 256
  | 0, b, h => by simp [outl] at h
  | i + 1, b, h => by
    rcases List.mem_append.1 h with h | h
    · exact outl_lt v w i b h
    · exact lowl_lt _ _ b h
def blkl (k : Nat → Nat) (c : Nat) (nn : Nat → Nat) : List Nat := outl (dbls (wrd (allb k c nn)) 10) (wrd (allb k c nn)) 16
def blkf (k : Nat → Nat) (c : Nat) (nn : Nat → Nat) (j : Nat) : Nat := (blkl k c nn).getD j 0
theorem blkf_lt (k : Nat → Nat) (c : Nat) (nn : Nat → Nat) (j : Nat) : blkf k c nn j < 256 := by
  unfold blkf
  rw [List.getD_eq_getElem?_getD]
  cases h : (blkl k c nn)[j]? with
  | none => simp
  | some b => exact outl_lt _ _ 16 b (List.mem_of_getElem? h)
theorem copy_end (l : List Nat) (hl : l.length = 64) : arr .u8 64 (fun j => if 0 + 0 * 1 ≤ j ∧ j < 0 + 0 * 1 + min l.length (64 - 0) then l.getD (j - (0 + 0 * 1)) 0 else 0) = arr .u8 64 (fun j => l.getD j 0) := arr_congr fun j hj => by
  rw [if_pos (by omega)]; rfl
theorem conv_all (f : Nat → Nat) (n : Nat) : Value.string (strOfNums ((List.range n).map fun j => (f (0 + j) : Int))) = sv ((List.range n).map f) := by
  have e : ((List.range n).map fun j => (f (0 + j) : Int)) = ((List.range n).map f).map fun m : Nat => (m : Int) := by
    rw [List.map_map]
    exact List.map_congr_left fun j _ => by simp
  rw [e, str_nums]
def strv (k : Nat → Nat) (c : Nat) (nn : Nat → Nat) (l : List Nat) (t : Nat) : Nat := (l.getD t 0 ^^^ blkf k ((c + t / 64 % 4294967296) % 4294967296) nn (t % 64)) % 256
def strl (k : Nat → Nat) (c : Nat) (nn : Nat → Nat) (l : List Nat) (at_ : Nat) : List Nat := (List.range (l.length - at_)).map fun j => strv k c nn l (at_ + j)
def strp (k : Nat → Nat) (c : Nat) (nn : Nat → Nat) (l : List Nat) (at_ i : Nat) : List Nat := (List.range i).map fun j => strv k c nn l (at_ + j)
theorem strl_len (k : Nat → Nat) (c : Nat) (nn : Nat → Nat) (l : List Nat) (at_ : Nat) : (strl k c nn l at_).length = l.length - at_ := by simp [strl]
theorem strp_succ (k : Nat → Nat) (c : Nat) (nn : Nat → Nat) (l : List Nat) (at_ i : Nat) : strp k c nn l at_ i ++ [strv k c nn l (at_ + i)] = strp k c nn l at_ (i + 1) := by
  unfold strp; rw [List.range_succ, List.map_append]; rfl
theorem strp_all (k : Nat → Nat) (c : Nat) (nn : Nat → Nat) (l : List Nat) {at_ i : Nat} (h : (i = 64 ∧ at_ + 64 ≤ l.length) ∨ (at_ + i = l.length)) (hi : i ≤ 64) : strp k c nn l at_ i ++ strl k c nn l (at_ + 64) = strl k c nn l at_ := by
  apply List.ext_getElem
  · simp [strp, strl]; omega
  · intro j h1 h2
    have hj : j < l.length - at_ := by simpa [strl] using h2
    by_cases hji : j < i
    · rw [List.getElem_append_left (by simpa [strp] using hji)]
      simp [strp, strl]
    · rw [List.getElem_append_right (by simp [strp]; omega)]
      simp only [strp, strl, List.length_map, List.length_range, List.getElem_map, List.getElem_range]
      congr 1
      omega
theorem strl_lt (k : Nat → Nat) (c : Nat) (nn : Nat → Nat) (l : List Nat) (at_ : Nat) : ∀ b ∈ strl k c nn l at_, b < 256 := fun b hb => by
  obtain ⟨j, _, rfl⟩ := List.mem_map.1 hb
  exact Nat.mod_lt _ (by decide)
theorem strl_none (k : Nat → Nat) (c : Nat) (nn : Nat → Nat) (l : List Nat) {at_ : Nat} (h : l.length ≤ at_) : strl k c nn l at_ = [] := by
  unfold strl; rw [show l.length - at_ = 0 by omega]; rfl
theorem strv_at (k : Nat → Nat) (c : Nat) (nn : Nat → Nat) (l : List Nat) {at_ i : Nat} (h : at_ + i < l.length) (h64 : at_ % 64 = 0) (hi : i < 64) :
    (l[at_ + i] ^^^ blkf k ((c + at_ / 64 % 4294967296) % 4294967296) nn i) % 256 = strv k c nn l (at_ + i) := by
  unfold strv
  rw [List.getD_eq_getElem?_getD, List.getElem?_eq_getElem h, show (at_ + i) / 64 = at_ / 64 by omega, show (at_ + i) % 64 = i by omega]
  rfl
theorem own_fix {e : TypeId} {z n n' : Nat} {v : Value} {xs xs' : List Value} {l : Mem} (h : OwnS e z v n xs l) (hn : n = n') (hx : xs = xs') : OwnS e z v n' xs' l := hn ▸ hx ▸ h
theorem by8_one {l : List Nat} : ∀ u ∈ l.map by8, u.oneCell' = true := fun u hu => by
  obtain ⟨n, _, rfl⟩ := List.mem_map.1 hu; rfl
end Go.Proofs.Ytmhpifphohcfmaa
namespace Go.Proofs.Ytmhpifphohcfmaa
def d26 (x j : Nat) : Nat := x / 2 ^ (26 * j) % 67108864
abbrev p5 (x : Nat) : Value := .agg (arr .u64 5 (d26 x))
theorem d26_lt (x j : Nat) : d26 x j < 67108864 := Nat.mod_lt _ (by decide)
def v26 (f : Nat → Nat) : Nat → Nat
  | 0 => 0
  | k + 1 => v26 f k + f k * 2 ^ (26 * k)
theorem v26_succ (f : Nat → Nat) (k : Nat) : v26 f (k + 1) = v26 f k + f k * 2 ^ (26 * k) := rfl
theorem pow_pos26 (k : Nat) : 0 < 2 ^ (26 * k) := Nat.pow_pos (by decide)
theorem pow_succ26 (k : Nat) : 2 ^ (26 * (k + 1)) = 2 ^ (26 * k) * 67108864 := by rw [show 26 * (k + 1) = 26 * k + 26 by omega, Nat.pow_add]
theorem v26_congr {f g : Nat → Nat} : ∀ k, (∀ j, j < k → f j = g j) → v26 f k = v26 g k
  | 0, _ => rfl
  | k + 1, h => by unfold v26; rw [v26_congr k (fun j hj => h j (by omega)), h k (by omega)]
theorem v26_lt (f : Nat → Nat) : ∀ k, (∀ j, j < k → f j < 67108864) → v26 f k < 2 ^ (26 * k)
  | 0, _ => by simp [v26]
  | k + 1, h => by
    have h1 := v26_lt f k (fun j hj => h j (by omega))
    have h2 := h k (by omega)
    unfold v26
    have h3 : f k * 2 ^ (26 * k) ≤ 67108863 * 2 ^ (26 * k) := Nat.mul_le_mul_right _ (by omega)
    rw [pow_succ26]; omega
theorem v26_d26 (x : Nat) : ∀ k, v26 (d26 x) k = x % 2 ^ (26 * k)
  | 0 => by simp [v26, Nat.mod_one]
  | k + 1 => by
    unfold v26
    rw [v26_d26 x k, pow_succ26, Nat.mod_mul, Nat.mul_comm (2 ^ (26 * k))]
    rfl
theorem v26_upd (f : Nat → Nat) (k v : Nat) : ∀ n, k < n → v26 (upd f k v) n + f k * 2 ^ (26 * k) = v26 f n + v * 2 ^ (26 * k)
  | 0, h => by omega
  | n + 1, h => by
    unfold v26
    by_cases e : k = n
    · subst e
      have h1 : v26 (upd f k v) k = v26 f k := v26_congr k fun j hj => by unfold upd; rw [if_neg (by omega)]
      have h2 : upd f k v k = v := by unfold upd; rw [if_pos rfl]
      rw [h1, h2]; omega
    · have ih := v26_upd f k v n (by omega)
      have h2 : upd f k v n = f n := by unfold upd; rw [if_neg (fun h => e h.symm)]
      rw [h2]; omega
theorem d26_low (s t i k : Nat) (h : i < k) : d26 (s + t * 2 ^ (26 * k)) i = d26 s i := by
  unfold d26
  have e : (2 : Nat) ^ (26 * k) = 2 ^ (26 * i) * (67108864 * 2 ^ (26 * (k - i - 1))) := by
    rw [show (67108864 : Nat) = 2 ^ 26 by decide, ← Nat.pow_add, ← Nat.pow_add]; congr 1; omega
  rw [e, ← Nat.mul_assoc, Nat.mul_comm t, Nat.mul_assoc, Nat.add_mul_div_left _ _ (pow_pos26 i), ← Nat.mul_assoc, Nat.mul_comm t, Nat.mul_assoc, Nat.add_mul_mod_self_left]
theorem d26_v26 (f : Nat → Nat) : ∀ n, (∀ j, j < n → f j < 67108864) → ∀ j, j < n → d26 (v26 f n) j = f j
  | 0, _, j, h => by omega
  | n + 1, hf, j, h => by
    have h1 := v26_lt f n (fun j hj => hf j (by omega))
    unfold v26
    by_cases e : j = n
    · subst e
      unfold d26
      rw [Nat.mul_comm (f j), Nat.add_mul_div_left _ _ (pow_pos26 j), Nat.div_eq_of_lt h1, Nat.zero_add]
      exact Nat.mod_eq_of_lt (hf j (by omega))
    · rw [d26_low _ _ j n (by omega)]
      exact d26_v26 f n (fun j hj => hf j (by omega)) j (by omega)
theorem v26_step {s : Nat → Nat} {j v : Nat} : v26 (upd s j v) (j + 1) = v26 s j + v * 2 ^ (26 * j) := by
  have := v26_upd s j v (j + 1) (by omega)
  have h2 : v26 s (j + 1) = v26 s j + s j * 2 ^ (26 * j) := rfl
  omega
theorem carry26 {s s2 : Nat → Nat} {j c : Nat} (h : v26 s2 j + c * 2 ^ (26 * j) = v26 s j) (hs : s2 j = s j) :
    v26 (upd s2 j ((c + s2 j) % 67108864)) (j + 1) + (c + s2 j) / 67108864 * 2 ^ (26 * (j + 1)) = v26 s (j + 1) := by
  rw [v26_step, pow_succ26]
  have h2 : v26 s (j + 1) = v26 s j + s j * 2 ^ (26 * j) := rfl
  rw [h2, ← hs, ← h]
  have e := Nat.div_add_mod (c + s2 j) 67108864
  have e2 : (c + s2 j) % 67108864 * 2 ^ (26 * j) + (c + s2 j) / 67108864 * (2 ^ (26 * j) * 67108864) = (c + s2 j) * 2 ^ (26 * j) := by
    conv => rhs; rw [← e]
    rw [Nat.add_mul, Nat.mul_comm 67108864, Nat.mul_assoc, Nat.mul_comm 67108864]
    omega
  rw [Nat.add_mul] at e2
  omega
def QQ : Nat := 2 ^ 130 - 5
theorem QQ_eq : QQ = 1361129467683753853853498429727072845819 := by decide
theorem QQ_pos : 0 < QQ := by decide
theorem v26_five (f : Nat → Nat) : v26 f 5 = f 0 + f 1 * 67108864 + f 2 * 4503599627370496 + f 3 * 302231454903657293676544 + f 4 * 20282409603651670423947251286016 := by
  simp only [v26]
  omega
def bnd5 (k : Nat) : Nat := if k = 0 then 2 ^ 130 * 2 ^ 35 else if k = 1 then 2 ^ 130 + 2 ^ 38 else 2 ^ 130
theorem bnd5_next (T k : Nat) (h : T < bnd5 k) : T % 2 ^ 130 + 5 * (T / 2 ^ 130) < bnd5 (k + 1) := by
  unfold bnd5 at *
  by_cases h0 : k = 0
  · subst h0; simp at h ⊢; omega
  · by_cases h1 : k = 1
    · subst h1; simp at h ⊢; omega
    · rw [if_neg h0, if_neg h1] at h
      rw [if_neg (by omega), if_neg (by omega)]; omega
theorem round5 (T : Nat) : (T % 2 ^ 130 + 5 * (T / 2 ^ 130)) % QQ = T % QQ := by
  have e := Nat.div_add_mod T (2 ^ 130)
  generalize T / 2 ^ 130 = h at *
  generalize T % 2 ^ 130 = l at *
  have e3 : T = l + 5 * h + QQ * h := by rw [QQ_eq]; omega
  rw [e3, Nat.add_mul_mod_self_left]
theorem v26_bound (f : Nat → Nat) (hf : ∀ j, j < 5 → f j < 2 ^ 60) : v26 f 5 < bnd5 0 := by
  rw [v26_five]
  have h0 := hf 0 (by decide)
  have h1 := hf 1 (by decide)
  have h2 := hf 2 (by decide)
  have h3 := hf 3 (by decide)
  have h4 := hf 4 (by decide)
  unfold bnd5
  simp
  omega
theorem p5_of {f : Nat → Nat} {x : Nat} (hf : ∀ j, j < 5 → f j < 67108864) (h : v26 f 5 = x) : Value.agg (arr .u64 5 f) = p5 x := by
  rw [p5, ← h]
  congr 1
  exact arr_congr fun j hj => (d26_v26 f 5 hf j hj).symm
end Go.Proofs.Ytmhpifphohcfmaa
namespace Go.Proofs.Ytmhpifphohcfmaa
theorem m26 (x : Nat) : (x &&& 67108863) % 18446744073709551616 = x % 67108864 := by
  have h := Nat.and_two_pow_sub_one_eq_mod x 26
  rw [show (2 : Nat) ^ 26 - 1 = 67108863 by decide] at h
  rw [h]
  have : x % 2 ^ 26 < 2 ^ 26 := Nat.mod_lt _ (by decide)
  rw [Nat.mod_eq_of_lt (by omega)]
theorem orW (a b k : Nat) (hk : k ≤ 64) (ha : a < 2 ^ k) : (a ||| b * 2 ^ k % 18446744073709551616) % 18446744073709551616 = (a + b * 2 ^ k) % 18446744073709551616 := by
  have e64 : (18446744073709551616 : Nat) = 2 ^ (64 - k) * 2 ^ k := by rw [← Nat.pow_add, Nat.sub_add_cancel hk]
  have hb : b * 2 ^ k % 18446744073709551616 = b % 2 ^ (64 - k) * 2 ^ k := by rw [e64, Nat.mul_mod_mul_right]
  have ho : a ||| b % 2 ^ (64 - k) * 2 ^ k = a + b % 2 ^ (64 - k) * 2 ^ k := by
    rw [Nat.or_comm, Nat.mul_comm, ← Nat.two_pow_add_eq_or_of_lt ha, Nat.add_comm]
  rw [hb, ho, ← hb, Nat.add_mod_mod]
def w3 (f : Nat → Nat) : Nat := f 0 + f 1 * 2 ^ 64 + f 2 * 2 ^ 128
section
variable {f : Nat → Nat}
theorem w3_lt (h0 : f 0 < 18446744073709551616) (h1 : f 1 < 18446744073709551616) (h2 : f 2 < 4) : w3 f < 2 ^ 130 := by unfold w3; omega
theorem po0 : (f 0 &&& 67108863) % 18446744073709551616 = d26 (w3 f) 0 := by
  rw [m26]; unfold d26 w3; simp only [Nat.mul_zero, Nat.pow_zero, Nat.div_one]; omega
theorem po1 : (f 0 / 2 ^ 26 &&& 67108863) % 18446744073709551616 = d26 (w3 f) 1 := by
  rw [m26]; unfold d26 w3; simp only [Nat.reduceMul]; omega
theorem po2 (h0 : f 0 < 18446744073709551616) : ((f 0 / 2 ^ 52 ||| f 1 * 2 ^ 12 % 18446744073709551616) % 18446744073709551616 &&& 67108863) % 18446744073709551616 = d26 (w3 f) 2 := by
  rw [m26, orW _ _ 12 (by decide) (by omega)]; unfold d26 w3; simp only [Nat.reduceMul]; omega
theorem po3 (h0 : f 0 < 18446744073709551616) : (f 1 / 2 ^ 14 &&& 67108863) % 18446744073709551616 = d26 (w3 f) 3 := by
  rw [m26]; unfold d26 w3; simp only [Nat.reduceMul]; omega
theorem po4 (h0 : f 0 < 18446744073709551616) (h1 : f 1 < 18446744073709551616) (h2 : f 2 < 4) : (f 1 / 2 ^ 40 ||| f 2 * 2 ^ 24 % 18446744073709551616) % 18446744073709551616 = d26 (w3 f) 4 := by
  rw [orW _ _ 24 (by decide) (by omega)]; unfold d26 w3; simp only [Nat.reduceMul]; omega
end
section
variable {x : Nat}
theorem x_five (hx : x < 2 ^ 130) : x = d26 x 0 + d26 x 1 * 67108864 + d26 x 2 * 4503599627370496 + d26 x 3 * 302231454903657293676544 + d26 x 4 * 20282409603651670423947251286016 := by
  have h := v26_d26 x 5
  rw [v26_five] at h
  rw [h]
  exact (Nat.mod_eq_of_lt hx).symm
theorem wh0 (hx : x < 2 ^ 130) : ((d26 x 0 ||| d26 x 1 * 2 ^ 26 % 18446744073709551616) % 18446744073709551616 ||| d26 x 2 * 2 ^ 52 % 18446744073709551616) % 18446744073709551616 = wd x 0 := by
  have e := x_five hx
  have l0 := d26_lt x 0
  have l1 := d26_lt x 1
  have l2 := d26_lt x 2
  have l3 := d26_lt x 3
  rw [orW _ _ 26 (by decide) (by omega), orW _ _ 52 (by decide) (by omega)]
  unfold wd
  generalize d26 x 0 = a at *
  generalize d26 x 1 = b at *
  generalize d26 x 2 = c at *
  generalize d26 x 3 = d at *
  generalize d26 x 4 = g at *
  simp only [Nat.mul_zero, Nat.pow_zero, Nat.div_one]
  omega
theorem wh1 (hx : x < 2 ^ 130) : ((d26 x 2 / 2 ^ 12 ||| d26 x 3 * 2 ^ 14 % 18446744073709551616) % 18446744073709551616 ||| d26 x 4 * 2 ^ 40 % 18446744073709551616) % 18446744073709551616 = wd x 1 := by
  have e := x_five hx
  have l0 := d26_lt x 0
  have l1 := d26_lt x 1
  have l2 := d26_lt x 2
  have l3 := d26_lt x 3
  rw [orW _ _ 14 (by decide) (by omega), orW _ _ 40 (by decide) (by omega)]
  unfold wd
  generalize d26 x 0 = a at *
  generalize d26 x 1 = b at *
  generalize d26 x 2 = c at *
  generalize d26 x 3 = d at *
  generalize d26 x 4 = g at *
  simp only [Nat.reduceMul]
  omega
theorem wh2 (hx : x < 2 ^ 130) : d26 x 4 / 2 ^ 24 = wd x 2 := by
  have e := x_five hx
  have l0 := d26_lt x 0
  have l1 := d26_lt x 1
  have l2 := d26_lt x 2
  have l3 := d26_lt x 3
  have l4 := d26_lt x 4
  unfold wd
  generalize d26 x 0 = a at *
  generalize d26 x 1 = b at *
  generalize d26 x 2 = c at *
  generalize d26 x 3 = d at *
  generalize d26 x 4 = g at *
  simp only [Nat.reduceMul]
  omega
end
theorem rnd_end5 {s s2 : Nat → Nat} {c : Nat} (h : v26 s2 5 + c * 2 ^ (26 * 5) = v26 s 5) (hl : ∀ j, j < 5 → s2 j < 67108864) : v26 s2 5 = v26 s 5 % 2 ^ 130 ∧ c = v26 s 5 / 2 ^ 130 := by
  have h1 := v26_lt s2 5 hl
  simp only [Nat.reduceMul] at h h1
  generalize v26 s2 5 = A at *
  generalize v26 s 5 = B at *
  omega
theorem rnd_next5 {s s2 : Nat → Nat} {c : Nat} (h : v26 s2 5 + c * 2 ^ (26 * 5) = v26 s 5) (hl : ∀ j, j < 5 → s2 j < 67108864) : v26 (upd s2 0 (s2 0 + 5 * c)) 5 = v26 s 5 % 2 ^ 130 + 5 * (v26 s 5 / 2 ^ 130) := by
  obtain ⟨h1, h2⟩ := rnd_end5 h hl
  have h3 := v26_upd s2 0 (s2 0 + 5 * c) 5 (by decide)
  rw [Nat.mul_zero, Nat.pow_zero, Nat.mul_one, Nat.mul_one] at h3
  rw [← h1, ← h2]
  omega
theorem rnd_last {s s2 : Nat → Nat} {c k : Nat} (h : v26 s2 5 + c * 2 ^ (26 * 5) = v26 s 5) (hl : ∀ j, j < 5 → s2 j < 67108864) (hb : v26 s 5 < bnd5 k) : k + 1 = 3 → ∀ j, j < 5 → upd s2 0 (s2 0 + 5 * c) j < 67108864 := by
  intro hk j hj
  have hk2 : k = 2 := by omega
  subst hk2
  have h1 := (rnd_end5 h hl).2
  have h2 : c = 0 := by rw [h1]; exact Nat.div_eq_of_lt hb
  subst h2
  unfold upd
  split
  · exact hl 0 (by decide)
  · exact hl j hj
theorem rnd_small {s2 : Nat → Nat} {c : Nat} (hl : ∀ j, j < 5 → s2 j < 67108864) (hc : c < 34359738368) : ∀ j, j < 5 → upd s2 0 (s2 0 + 5 * c) j < 1152921504606846976 := by
  intro j hj
  have h1 := hl j hj
  have h2 := hl 0 (by decide)
  unfold upd
  split <;> omega
theorem upd_off {f : Nat → Nat} {j v t : Nat} (h : t ≠ j) : upd f j v t = f t := by unfold upd; rw [if_neg h]
theorem upd_on {f : Nat → Nat} {j v : Nat} : upd f j v j = v := by unfold upd; rw [if_pos rfl]
theorem mod_below {s : Nat → Nat} {k v : Nat} (h : ∀ j, j < k → s j < 67108864) : ∀ j, j < k + 1 → upd s k (v % 67108864) j < 67108864 := by
  intro j hj
  unfold upd
  split
  · exact Nat.mod_lt _ (by decide)
  · exact h j (by omega)
theorem q_start {s : Nat → Nat} : v26 (upd s 0 (s 0 + 5)) 5 = v26 s 5 + 5 := by
  have h := v26_upd s 0 (s 0 + 5) 5 (by decide)
  rw [Nat.mul_zero, Nat.pow_zero, Nat.mul_one, Nat.mul_one] at h
  omega
theorem q_low {q : Nat → Nat} {i v w : Nat} (h : ∀ j, j < i → q j < 67108864) : ∀ j, j < i + 1 → upd (upd q (i + 1) v) i (w % 67108864) j < 67108864 := by
  intro j hj
  unfold upd
  split
  · exact Nat.mod_lt _ (by decide)
  · rw [if_neg (by omega)]; exact h j (by omega)
theorem q_high {q : Nat → Nat} {i v w : Nat} (h : ∀ j, i < j → j < 5 → q j < 67108864) : ∀ j, i + 1 < j → j < 5 → upd (upd q (i + 1) v) i w j < 67108864 := by
  intro j hj h5
  unfold upd
  rw [if_neg (by omega), if_neg (by omega)]
  exact h j (by omega) h5
theorem q_here {q : Nat → Nat} {i w : Nat} (hi : i < 4) (h : ∀ j, i < j → j < 5 → q j < 67108864) (h2 : q i < 67108869) : upd (upd q (i + 1) (q (i + 1) + q i / 67108864)) i w (i + 1) < 67108869 := by
  unfold upd
  rw [if_neg (by omega), if_pos rfl]
  have := h (i + 1) (by omega) (by omega)
  omega
theorem q_step {q : Nat → Nat} {i : Nat} (hi : i < 4) : v26 (upd (upd q (i + 1) (q (i + 1) + q i / 67108864)) i (q i % 67108864)) 5 = v26 q 5 := by
  have h : i = 0 ∨ i = 1 ∨ i = 2 ∨ i = 3 := by omega
  rw [v26_five, v26_five]
  rcases h with rfl | rfl | rfl | rfl <;> simp [upd] <;> omega
theorem top5 {q : Nat → Nat} {T : Nat} (hq : v26 q 5 = T + 5) (hl : ∀ j, j < 4 → q j < 67108864) (hT : T < 2 ^ 130) : (0 < q 4 / 2 ^ 26 ↔ QQ ≤ T) ∧ (QQ ≤ T → v26 (upd q 4 (q 4 % 67108864)) 5 = T % QQ) := by
  have h4 := v26_lt q 4 (fun j hj => hl j hj)
  have e : v26 q 5 = v26 q 4 + q 4 * 2 ^ (26 * 4) := rfl
  have e2 := v26_upd q 4 (q 4 % 67108864) 5 (by decide)
  rw [QQ_eq]
  simp only [Nat.reduceMul] at *
  generalize v26 q 4 = A at *
  generalize v26 (upd q 4 (q 4 % 67108864)) 5 = B at *
  generalize q 4 = g at *
  omega
theorem pw5 (n t : Nat) (ht : 5 ≤ t) : n * 5 * 2 ^ (26 * (t - 5)) % QQ = n * 2 ^ (26 * t) % QQ := by
  have e : 2 ^ (26 * t) = 2 ^ 130 * 2 ^ (26 * (t - 5)) := by rw [← Nat.pow_add]; congr 1; omega
  have e2 : (2 : Nat) ^ 130 = 5 + QQ := by rw [QQ_eq]
  rw [e, e2, Nat.add_mul, Nat.mul_add, Nat.mul_assoc, show n * (QQ * 2 ^ (26 * (t - 5))) = QQ * (n * 2 ^ (26 * (t - 5))) by rw [Nat.mul_left_comm], Nat.add_mul_mod_self_left]
theorem tm_step {s d e : Nat → Nat} {i j y n : Nat} (hi : i < 5) (hj : j < 5) (h : v26 s 5 % QQ = (v26 d i * y + d i * v26 e j * 2 ^ (26 * i)) % QQ)
    (hn : n = if 5 ≤ i + j then d i * e j * 5 else d i * e j) :
    v26 (upd s ((i + j) % 5) (s ((i + j) % 5) + n)) 5 % QQ = (v26 d i * y + d i * v26 e (j + 1) * 2 ^ (26 * i)) % QQ := by
  have h1 := v26_upd s ((i + j) % 5) (s ((i + j) % 5) + n) 5 (Nat.mod_lt _ (by decide))
  rw [Nat.add_mul] at h1
  have h2 : v26 (upd s ((i + j) % 5) (s ((i + j) % 5) + n)) 5 = v26 s 5 + n * 2 ^ (26 * ((i + j) % 5)) := by omega
  have h3 : n * 2 ^ (26 * ((i + j) % 5)) % QQ = d i * e j * 2 ^ (26 * (i + j)) % QQ := by
    rw [hn]
    by_cases h5 : 5 ≤ i + j
    · rw [if_pos h5, show (i + j) % 5 = i + j - 5 by omega]
      exact pw5 _ _ h5
    · rw [if_neg h5, show (i + j) % 5 = i + j by omega]
  have h4 : d i * v26 e (j + 1) * 2 ^ (26 * i) = d i * v26 e j * 2 ^ (26 * i) + d i * e j * 2 ^ (26 * (i + j)) := by
    rw [v26_succ, Nat.mul_add, Nat.add_mul, Nat.mul_add 26 i j, Nat.pow_add, ← Nat.mul_assoc (d i) (e j), Nat.mul_assoc (d i * e j), Nat.mul_comm (2 ^ (26 * j))]
  rw [h2, h4, ← Nat.add_assoc, Nat.add_mod, h, h3, ← Nat.add_mod]
theorem tm_row {d e : Nat → Nat} {i y : Nat} (hy : v26 e 5 = y) : v26 d i * y + d i * v26 e 5 * 2 ^ (26 * i) = v26 d (i + 1) * y + d (i + 1) * v26 e 0 * 2 ^ (26 * (i + 1)) := by
  rw [hy, v26_succ, Nat.add_mul, show v26 e 0 = 0 from rfl, Nat.mul_zero, Nat.zero_mul, Nat.add_zero, Nat.mul_assoc, Nat.mul_comm y, ← Nat.mul_assoc]
theorem tm_end {x y : Nat} (hx : x < 2 ^ 130) : v26 (d26 x) 5 * y + d26 x 5 * v26 (d26 y) 0 * 2 ^ (26 * 5) = x * y := by
  rw [v26_d26 x 5, Nat.mod_eq_of_lt hx, show v26 (d26 y) 0 = 0 from rfl, Nat.mul_zero, Nat.zero_mul, Nat.add_zero]
theorem tm_le {x y i j : Nat} : d26 x i * d26 y j ≤ 4503599493152769 := Nat.mul_le_mul (show d26 x i ≤ 67108863 by have := d26_lt x i; omega) (show d26 y j ≤ 67108863 by have := d26_lt y j; omega)
theorem tm_bnd {s : Nat → Nat} {r m n B : Nat} (hr : r < 5) (h : ∀ t, t < 5 → s t ≤ m * B) (hn : n ≤ B) : ∀ t, t < 5 → upd s r (s r + n) t ≤ (m + 1) * B := by
  intro t ht
  have h1 := h t ht
  have h2 := h r hr
  rw [Nat.succ_mul]
  unfold upd
  split <;> omega
end Go.Proofs.Ytmhpifphohcfmaa
namespace Go.Proofs.Ytmhpifphohcfmaa
open Go Go.RowKit
def arrv (n : Nat) (F : Nat → Value) : Array Value := ((List.range n).map F).toArray
def updv (F : Nat → Value) (j : Nat) (v : Value) : Nat → Value := fun i => if i = j then v else F i
def putv (F : Nat → Value) (o l : Nat) (A : Nat → Value) : Nat → Value := fun i => if o ≤ i ∧ i < o + l then A (i - o) else F i
theorem arr_arrv (k : IntKind) (n : Nat) (f : Nat → Nat) : arr k n f = arrv n (fun i => .int k (f i : Int)) := rfl
theorem arrv_size (n : Nat) (F : Nat → Value) : (arrv n F).size = n := by simp [arrv]
theorem arrv_get {n j : Nat} {F : Nat → Value} (h : j < n) : (arrv n F)[j]? = some (F j) := by simp [arrv, h]
theorem arrv_congr {n : Nat} {F H : Nat → Value} (h : ∀ j, j < n → F j = H j) : arrv n F = arrv n H := by
  unfold arrv
  congr 1
  exact List.map_congr_left fun i hi => h i (by simpa using hi)
theorem arrv_set {n : Nat} {F : Nat → Value} (j : Nat) (v : Value) : (arrv n F).setIfInBounds j v = arrv n (updv F j v) := by
  apply Array.ext
  · simp [arrv_size]
  · intro i h1 h2
    have hi : i < n := by simpa [arrv_size] using h2
    by_cases e : j = i
    · subst e; simp [arrv, updv]
    · have e' : ¬ i = j := fun h => e h.symm
      simp [arrv, updv, e, e']
theorem arrv_part (N o l : Nat) (F : Nat → Value) (h : o + l ≤ N) : (arrv N F).extract o (o + l) = arrv l (fun t => F (o + t)) := by
  apply Array.ext
  · simp [arrv]; omega
  · intro i h1 h2
    simp [arrv]
theorem arrv_put (N o l : Nat) (F A : Nat → Value) (h : o + l ≤ N) : ((arrv N F).toList.take o ++ (arrv l A).toList ++ (arrv N F).toList.drop (o + l)).toArray = arrv N (putv F o l A) := by
  apply Array.ext
  · simp [arrv]; omega
  · intro j h1 h2
    have hj : j < N := by simpa [arrv] using h2
    simp only [List.getElem_toArray]
    by_cases ha : j < o
    · rw [List.getElem_append_left (by simp [arrv]; omega), List.getElem_append_left (by simp [arrv]; omega)]
      simp [arrv, putv, show ¬ (o ≤ j ∧ j < o + l) by omega]
    · by_cases hb : j < o + l
      · rw [List.getElem_append_left (by simp [arrv]; omega), List.getElem_append_right (by simp [arrv]; omega)]
        have h5 : min o N = o := by omega
        simp [arrv, putv, h5, show o ≤ j ∧ j < o + l by omega]
      · rw [List.getElem_append_right (by simp [arrv]; omega)]
        have h5 : min o N = o := by omega
        simp [arrv, putv, h5, show ¬ (o ≤ j ∧ j < o + l) by omega]
        congr 1
        omega
theorem setRow_blk {w : World} {b : Nat} {c' : Array Value} {t : TypeId} : w.setRow b c' = setBlk w ⟨b, c', t⟩ := rfl
section
variable {P : Program} {G : Mem} {R : Reg} {ops : Array Oper} {K : Act → Mem → Prop} {rest : List Oper} {a : Act} {m : Mem} {d : Option Tmp} {ty : TypeId} {pos : String} {aft : Array Edge}
variable {T T' : TypeId} {x y : Operand}
theorem st_storeP {b o i l N : Nat} {F A : Nat → Value} {t : TypeId} (hs : (P.info? T).map (·.size) = some l) (hx : a.eval x = .pointer (some ⟨b, o, none⟩)) (hy : a.eval y = .agg (arrv l A)) (hA : ∀ j, j < l → (A j).oneCell' = true)
    (hm : m[i]? = some ⟨b, arrv N F, t⟩) (hX : R.X = [] ∨ b ∈ R.X) (ho : o + l ≤ N) (h : opsM P G R ops K rest (a.put d undef) (m.set i ⟨b, arrv N (putv F o l A), t⟩)) : opsM P G R ops K (⟨d, .store T x y, ty, pos, aft, none⟩ :: rest) a m :=
  store_at hm hX (arrv N (putv F o l A)) (by simp [arrv_size]) (fun w hin => by
    have hst := run_storeCells_in (P := P) b o t (arrv l A).toList 0 (arrv N F) w hin (by simp [arrv_size]; omega) (fun v hv => by
      simp [arrv] at hv
      obtain ⟨j, hj, rfl⟩ := hv
      exact hA j hj)
    have hl : (arrv l A).toList.length = l := by simp [arrv]
    rw [hl, Nat.add_zero, arrv_put N o l F A ho, setRow_blk (t := t)] at hst
    cases hi : P.info? T with
    | none => simp [hi] at hs
    | some j =>
      have hsz : j.size = l := by simpa [hi] using hs
      simp only [execOp, Instr.storeAt, hx, hy, Instr.sureAddr, storeVar, sizeOf, typeInfo]
      simp [hi, hsz, Value.cells, arrv_size, hst]) h
end
section
variable {P : Program} {G : Mem} {R : Reg} {ops : Array Oper} {n : Nat} {K : Env → Mm → Prop} {rest : List Oper} {E : Env} {M : Mm} {d : Nat} {ty : TypeId} {pos : String} {aft : Array Edge}
variable {T T' : TypeId} {x y : Operand}
theorem e_ldP {b i o l N : Nat} {F : Nat → Value} {t : TypeId} {td : TypeDesc} (hT : P.underlying T = some td) (hn : rowLike td = true) (hs : (P.info? T).map (·.size) = some l)
    (hx : rd E x = some (.pointer (some ⟨b, o, none⟩))) (hm : lkM M i = some ⟨b, arrv N F, t⟩) (ho : o + l ≤ N) (hd : Nat.blt d n = true) (hX : ∃ js, okXL M i js R) (h : OpsE P G R ops n K rest ((d, .agg (arrv l (fun t => F (o + t)))) :: E) M) :
    OpsE P G R ops n K (⟨some d, .load T x, ty, pos, aft, none⟩ :: rest) E M :=
  fun _ _ ha hM => by
    obtain ⟨j, hj⟩ := hM.at hm
    obtain ⟨js, hjs⟩ := hX
    exact st_loadS hT hn hs (ha.rd hx) hj (okXL_not hM hm hjs) (by rw [arrv_size]; exact ho) (by rw [arrv_part N o l F ho]; exact h _ _ (ha.put hd _) hM)
theorem e_st1 {b o i N : Nat} {F : Nat → Value} {v : Value} {t : TypeId} (hs : (P.info? T).map (·.size) = some 1) (hx : rd E x = some (.pointer (some ⟨b, o, none⟩))) (hy : rd E y = some v) (hv : v.oneCell' = true)
    (hm : lkM M i = some ⟨b, arrv N F, t⟩) (ho : o < N) (hX : R.X = [] ∨ b ∈ R.X) (h : OpsE P G R ops n K rest E ((i, some ⟨b, arrv N (updv F o v), t⟩) :: M)) : OpsE P G R ops n K (⟨none, .store T x y, ty, pos, aft, none⟩ :: rest) E M :=
  fun _ _ ha hM => by
    obtain ⟨j, hj⟩ := hM.at hm
    exact st_store1 hs (ha.rd hx) (ha.rd hy) hv hj hX (by rw [arrv_size]; exact ho) (by rw [arrv_set]; exact h _ _ ha (hM.store hm hj _))
theorem e_stP {b o i l N : Nat} {F A : Nat → Value} {t : TypeId} (hs : (P.info? T).map (·.size) = some l) (hx : rd E x = some (.pointer (some ⟨b, o, none⟩))) (hy : rd E y = some (.agg (arrv l A))) (hA : ∀ j, j < l → (A j).oneCell' = true)
    (hm : lkM M i = some ⟨b, arrv N F, t⟩) (ho : o + l ≤ N) (hX : R.X = [] ∨ b ∈ R.X) (h : OpsE P G R ops n K rest E ((i, some ⟨b, arrv N (putv F o l A), t⟩) :: M)) : OpsE P G R ops n K (⟨none, .store T x y, ty, pos, aft, none⟩ :: rest) E M :=
  fun _ _ ha hM => by
    obtain ⟨j, hj⟩ := hM.at hm
    exact st_storeP hs (ha.rd hx) (ha.rd hy) hA hj hX ho (h _ _ ha (hM.store hm hj _))
end
end Go.Proofs.Ytmhpifphohcfmaa
namespace Go.Proofs.Ytmhpifphohcfmaa
open Go Go.RowKit
abbrev Part := Nat × (Nat → Value)
def catF : List Part → Nat → Value
  | [], _ => .bool false
  | p :: ps, i => if i < p.1 then p.2 i else catF ps (i - p.1)
def catAt : List Part → Nat → Option (Nat × Part)
  | [], _ => none
  | p :: _, 0 => some (0, p)
  | p :: ps, k + 1 => match catAt ps k with
    | none => none
    | some q => some (p.1 + q.1, q.2)
def catSet : List Part → Nat → (Nat → Value) → List Part
  | [], _, _ => []
  | p :: ps, 0, F => (p.1, F) :: ps
  | p :: ps, k + 1, F => p :: catSet ps k F
def catOk : List Part → Prop
  | [] => True
  | p :: ps => (∀ i, (p.2 i).oneCell' = true) ∧ catOk ps
abbrev pI (k : IntKind) (l : Nat) (f : Nat → Nat) : Part := (l, fun i => .int k (f i : Int))
abbrev pV (v : Value) : Part := (1, fun _ => v)
abbrev cells (N : Nat) (ps : List Part) : Array Value := arrv N (catF ps)
theorem cat_part : ∀ {ps : List Part} {k o l : Nat} {F : Nat → Value}, catAt ps k = some (o, l, F) → ∀ t, t < l → catF ps (o + t) = F t
  | [], _, _, _, _, h, _, _ => by simp [catAt] at h
  | p :: ps, 0, o, l, F, h, t, ht => by
    simp only [catAt, Option.some.injEq, Prod.mk.injEq] at h
    obtain ⟨rfl, rfl⟩ := h
    simp [catF, ht]
  | p :: ps, k + 1, o, l, F, h, t, ht => by
    simp only [catAt] at h
    cases hq : catAt ps k with
    | none => simp [hq] at h
    | some q =>
      obtain ⟨o', l', F'⟩ := q
      simp only [hq, Option.some.injEq, Prod.mk.injEq] at h
      obtain ⟨rfl, rfl, rfl⟩ := h
      have := cat_part hq t ht
      simp only [catF]
      rw [if_neg (by omega), show p.1 + o' + t - p.1 = o' + t by omega, this]
theorem cat_put : ∀ {ps : List Part} {k o l : Nat} {F : Nat → Value} (A : Nat → Value), catAt ps k = some (o, l, F) → ∀ i, putv (catF ps) o l A i = catF (catSet ps k A) i
  | [], _, _, _, _, _, h, _ => by simp [catAt] at h
  | p :: ps, 0, o, l, F, A, h, i => by
    simp only [catAt, Option.some.injEq, Prod.mk.injEq] at h
    obtain ⟨rfl, rfl⟩ := h
    simp only [putv, catF, catSet]
    by_cases hi : i < l
    · rw [if_pos (by omega), if_pos hi, Nat.sub_zero]
    · rw [if_neg (by omega), if_neg hi, if_neg hi]
  | p :: ps, k + 1, o, l, F, A, h, i => by
    simp only [catAt] at h
    cases hq : catAt ps k with
    | none => simp [hq] at h
    | some q =>
      obtain ⟨o', l', F'⟩ := q
      simp only [hq, Option.some.injEq, Prod.mk.injEq] at h
      obtain ⟨rfl, rfl, rfl⟩ := h
      have := cat_put A hq (i - p.1)
      simp only [catF, catSet]
      rw [← this]
      simp only [putv]
      by_cases hi : i < p.1
      · rw [if_neg (by omega), if_pos hi, if_pos hi]
      · rw [if_neg hi, if_neg hi]
        by_cases h2 : o' ≤ i - p.1 ∧ i - p.1 < o' + l'
        · rw [if_pos (by omega), if_pos h2]; congr 1; omega
        · rw [if_neg (by omega), if_neg h2]
theorem putv_one (F : Nat → Value) (o : Nat) (v : Value) : putv F o 1 (fun _ => v) = updv F o v := by
  funext i
  unfold putv updv
  by_cases h : i = o
  · subst h; rw [if_pos (by omega), if_pos rfl]
  · rw [if_neg (by omega), if_neg h]
theorem cat_upd {ps : List Part} {k o l : Nat} {F : Nat → Value} {j : Nat} (v : Value) (h : catAt ps k = some (o, l, F)) (hj : j < l) (i : Nat) : updv (catF ps) (o + j) v i = catF (catSet ps k (updv F j v)) i := by
  rw [← cat_put _ h i]
  unfold updv putv
  by_cases h1 : i = o + j
  · subst h1
    rw [if_pos rfl, if_pos (by omega)]
    show v = if o + j - o = j then v else F (o + j - o)
    rw [if_pos (by omega)]
  · rw [if_neg h1]
    by_cases h2 : o ≤ i ∧ i < o + l
    · rw [if_pos h2]
      show catF ps i = if i - o = j then v else F (i - o)
      rw [if_neg (by omega)]
      have := cat_part h (i - o) (by omega)
      rw [← this]; congr 1; omega
    · rw [if_neg h2]
theorem upd_int (k : IntKind) (f : Nat → Nat) (j v : Nat) : updv (fun i => .int k (f i : Int)) j (.int k (v : Int)) = fun i => .int k (upd f j v i : Int) := by
  funext i
  unfold updv upd
  split <;> rfl
theorem cat_one : ∀ {ps : List Part}, catOk ps → ∀ i, (catF ps i).oneCell' = true
  | [], _, _ => rfl
  | p :: ps, h, i => by
    simp only [catF]
    split
    · exact h.1 _
    · exact cat_one h.2 _
theorem cells_one {N : Nat} {ps : List Part} (h : catOk ps) : ∀ v ∈ cells N ps, v.oneCell' = true := fun v hv => by
  simp [cells, arrv] at hv
  obtain ⟨i, _, rfl⟩ := hv
  exact cat_one h i
theorem cells_sz {N : Nat} {ps qs : List Part} : (cells N ps).size = (cells N qs).size := by rw [arrv_size, arrv_size]
section
variable {P : Program} {G : Mem} {R : Reg} {ops : Array Oper} {n : Nat} {K : Env → Mm → Prop} {rest : List Oper} {E : Env} {M : Mm} {d : Nat} {ty : TypeId} {pos : String} {aft : Array Edge}
variable {T T' : TypeId} {x y : Operand}
theorem e_ldC (k : Nat) {b i o l N : Nat} {kd : IntKind} {f : Nat → Nat} {ps : List Part} {t : TypeId} {td : TypeDesc} (hT : P.underlying T = some td) (hn : rowLike td = true) (hs : (P.info? T).map (·.size) = some l)
    (hx : rd E x = some (.pointer (some ⟨b, o, none⟩))) (hm : lkM M i = some ⟨b, cells N ps, t⟩) (hk : catAt ps k = some (o, pI kd l f)) (ho : o + l ≤ N) (hd : Nat.blt d n = true) (hX : ∃ js, okXL M i js R) (h : OpsE P G R ops n K rest ((d, .agg (arr kd l f)) :: E) M) :
    OpsE P G R ops n K (⟨some d, .load T x, ty, pos, aft, none⟩ :: rest) E M :=
  e_ldP hT hn hs hx hm ho hd hX (by rw [arrv_congr (fun t ht => cat_part hk t ht), ← arr_arrv]; exact h)
theorem e_ldI (k j : Nat) {b i o o' l N : Nat} {kd : IntKind} {f : Nat → Nat} {ps : List Part} {t : TypeId} {td : TypeDesc} (hT : P.underlying T = some td) (hn : rowLike td = false)
    (hx : rd E x = some (.pointer (some ⟨b, o', none⟩))) (hm : lkM M i = some ⟨b, cells N ps, t⟩) (hk : catAt ps k = some (o, pI kd l f)) (ho : o' = o + j) (hj : j < l) (hN : o' < N) (hd : Nat.blt d n = true) (hX : ∃ js, okXL M i js R) (h : OpsE P G R ops n K rest ((d, .int kd (f j : Int)) :: E) M) :
    OpsE P G R ops n K (⟨some d, .load T x, ty, pos, aft, none⟩ :: rest) E M :=
  e_load1 (v := .int kd (f j : Int)) hT hn hx hm (by rw [cells, arrv_get hN, ho, cat_part hk j hj]) hd hX h
theorem e_ldV1 (k : Nat) {b i o N : Nat} {v : Value} {ps : List Part} {t : TypeId} {td : TypeDesc} (hT : P.underlying T = some td) (hn : rowLike td = false)
    (hx : rd E x = some (.pointer (some ⟨b, o, none⟩))) (hm : lkM M i = some ⟨b, cells N ps, t⟩) (hk : catAt ps k = some (o, pV v)) (hN : o < N) (hd : Nat.blt d n = true) (hX : ∃ js, okXL M i js R) (h : OpsE P G R ops n K rest ((d, v) :: E) M) :
    OpsE P G R ops n K (⟨some d, .load T x, ty, pos, aft, none⟩ :: rest) E M :=
  e_load1 (v := v) hT hn hx hm (by have := cat_part hk 0 (by decide); rw [Nat.add_zero] at this; rw [cells, arrv_get hN, this]) hd hX h
theorem e_stC (k : Nat) {b o i l N : Nat} {kd : IntKind} {f : Nat → Nat} {F : Nat → Value} {ps : List Part} {t : TypeId} (hs : (P.info? T).map (·.size) = some l) (hx : rd E x = some (.pointer (some ⟨b, o, none⟩))) (hy : rd E y = some (.agg (arr kd l f)))
    (hm : lkM M i = some ⟨b, cells N ps, t⟩) (hk : catAt ps k = some (o, l, F)) (ho : o + l ≤ N) (hX : R.X = [] ∨ b ∈ R.X) (h : OpsE P G R ops n K rest E ((i, some ⟨b, cells N (catSet ps k (fun i => .int kd (f i : Int))), t⟩) :: M)) : OpsE P G R ops n K (⟨none, .store T x y, ty, pos, aft, none⟩ :: rest) E M :=
  e_stP (A := fun i => .int kd (f i : Int)) hs hx hy (fun _ _ => rfl) hm ho hX (by rw [funext (cat_put _ hk)]; exact h)
theorem e_stI (k j : Nat) {b o o' i l v N : Nat} {kd : IntKind} {f : Nat → Nat} {ps : List Part} {t : TypeId} (hs : (P.info? T).map (·.size) = some 1) (hx : rd E x = some (.pointer (some ⟨b, o', none⟩))) (hy : rd E y = some (.int kd (v : Int)))
    (hm : lkM M i = some ⟨b, cells N ps, t⟩) (hk : catAt ps k = some (o, pI kd l f)) (ho : o' = o + j) (hj : j < l) (hN : o' < N) (hX : R.X = [] ∨ b ∈ R.X) (h : OpsE P G R ops n K rest E ((i, some ⟨b, cells N (catSet ps k (fun i => .int kd (upd f j v i : Int))), t⟩) :: M)) : OpsE P G R ops n K (⟨none, .store T x y, ty, pos, aft, none⟩ :: rest) E M :=
  e_st1 hs hx hy rfl hm hN hX (by rw [ho, funext (cat_upd _ hk hj), upd_int]; exact h)
theorem e_stV (k : Nat) {b o i N : Nat} {v : Value} {F : Nat → Value} {ps : List Part} {t : TypeId} (hs : (P.info? T).map (·.size) = some 1) (hx : rd E x = some (.pointer (some ⟨b, o, none⟩))) (hy : rd E y = some v) (hv : v.oneCell' = true)
    (hm : lkM M i = some ⟨b, cells N ps, t⟩) (hk : catAt ps k = some (o, 1, F)) (hN : o < N) (hX : R.X = [] ∨ b ∈ R.X) (h : OpsE P G R ops n K rest E ((i, some ⟨b, cells N (catSet ps k (fun _ => v)), t⟩) :: M)) : OpsE P G R ops n K (⟨none, .store T x y, ty, pos, aft, none⟩ :: rest) E M :=
  e_st1 hs hx hy hv hm hN hX (by rw [← putv_one, funext (cat_put _ hk)]; exact h)
theorem st_fieldC {d : Option Tmp} {a : Act} {m : Mem} {K : Act → Mem → Prop} {f k o l N : Nat} {kd : IntKind} {g : Nat → Nat} {ps : List Part} {fs : Array Field} {fd : Field} {td : TypeDesc} (hT : P.underlying T = some (.struct fs)) (hf : fs[f]? = some fd) (he : P.underlying fd.type = some td) (hn : rowLike td = true) (hs : (P.info? fd.type).map (·.size) = some l)
    (hx : a.eval x = .agg (cells N ps)) (hk : catAt ps k = some (o, pI kd l g)) (ho : fd.offset = o) (hN : o + l ≤ N) (h : opsM P G R ops K rest (a.put d (.agg (arr kd l g))) m) : opsM P G R ops K (⟨d, .field T x f, ty, pos, aft, none⟩ :: rest) a m :=
  st_quiet (v := .agg (arr kd l g)) rfl rfl (fun w => by
    cases hi : P.info? fd.type with
    | none => simp [hi] at hs
    | some i =>
      have hsz : i.size = l := by simpa [hi] using hs
      have he2 : (cells N ps).extract o (o + l) = arr kd l g := by rw [cells, arrv_part N o l _ hN, arrv_congr (fun t ht => cat_part hk t ht), ← arr_arrv]
      have hp : (part fd.type (cells N ps) o).run P w = .ok (.agg (arr kd l g)) w := by
        unfold part
        simp only [Sem.run_bind, run_isAgg he, Result.andThen_ok, hn, if_true, sizeOf, typeInfo]
        simp [hi, hsz, he2]
      simp only [execOp, Instr.field, hx, underlying, program]
      simp [Sem.run, hT, hf, ho, asAgg]
      simp [hp]) h
theorem e_fieldC (k : Nat) {f o l N : Nat} {kd : IntKind} {g : Nat → Nat} {ps : List Part} {fs : Array Field} {fd : Field} {td : TypeDesc} (hT : P.underlying T = some (.struct fs)) (hf : fs[f]? = some fd) (he : P.underlying fd.type = some td) (hn : rowLike td = true) (hs : (P.info? fd.type).map (·.size) = some l)
    (hx : rd E x = some (.agg (cells N ps))) (hk : catAt ps k = some (o, pI kd l g)) (ho : fd.offset = o) (hN : o + l ≤ N) (hd : Nat.blt d n = true) (h : OpsE P G R ops n K rest ((d, .agg (arr kd l g)) :: E) M) : OpsE P G R ops n K (⟨some d, .field T x f, ty, pos, aft, none⟩ :: rest) E M :=
  fun _ _ ha hM => st_fieldC hT hf he hn hs (ha.rd hx) hk ho hN (h _ _ (ha.put hd _) hM)
end
section
variable {P : Program} {G : Mem} {R : Reg} {ops : Array Oper} {n : Nat} {K : Env → Mm → Prop} {rest : List Oper} {E : Env} {M : Mm} {d : Nat} {ty : TypeId} {pos : String} {aft : Array Edge}
theorem e_no2 {op : Op} {g s : Nat} {want : Bool} (hg : (ops[g]?).bind (·.dst) = some s) (hb : lk E s = some undef) (hd : Nat.blt d n = true) (h : OpsE P G R ops n K rest ((d, undef) :: E) M) :
    OpsE P G R ops n K (⟨some d, op, ty, pos, aft, some (g, want)⟩ :: rest) E M := fun a m ha hM => .inl ⟨by
      have hy : Go.yielded ops a.tmps g = none := by
        unfold Go.yielded
        rw [hg]
        simp [ha.slots _ _ hb, undef]
      simp [Region.wanted, hy], h _ _ (ha.put hd _) hM⟩
end
end Go.Proofs.Ytmhpifphohcfmaa
namespace Go.Proofs.Ytmhpifphohcfmaa
open Go Go.RowKit
abbrev PV (r p a h : Nat → Nat) (n : Int) : Value := .agg (cells 24 [pI .u64 2 r, pI .u64 2 p, pI .u64 3 a, pI .u8 16 h, pV (.int .i64 n)])
theorem leN_app : ∀ (a b : List Nat), leN (a ++ b) = leN a + 256 ^ a.length * leN b
  | [], b => by simp [leN]
  | x :: a, b => by
    have := leN_app a b
    simp only [List.cons_append, leN, List.length_cons]
    rw [this, Nat.pow_succ, Nat.mul_add, ← Nat.mul_assoc, Nat.mul_comm 256 (256 ^ a.length), Nat.add_assoc]
theorem leN_zeros : ∀ k, leN (List.replicate k 0) = 0
  | 0 => rfl
  | k + 1 => by rw [List.replicate_succ]; simp only [leN]; rw [leN_zeros k]
def bl (l : List Nat) (m : Nat) : List Nat := l ++ [1] ++ List.replicate m 0
theorem bl_len (l : List Nat) (m : Nat) : (bl l m).length = l.length + 1 + m := by simp [bl]; omega
theorem bl_succ (l : List Nat) (m : Nat) : bl l m ++ [0] = bl l (m + 1) := by
  unfold bl
  rw [List.append_assoc, List.replicate_succ', List.append_assoc]
theorem bl_leN (l : List Nat) (m : Nat) : leN (bl l m) = leN (l ++ [1]) := by
  unfold bl
  rw [leN_app, leN_zeros, Nat.mul_zero, Nat.add_zero]
theorem bl_lt {l : List Nat} (hb : ∀ b ∈ l, b < 256) (m : Nat) : ∀ b ∈ bl l m, b < 256 := by
  intro b h
  unfold bl at h
  rw [List.mem_append, List.mem_append] at h
  rcases h with (h | h) | h
  · exact hb b h
  · have : b = 1 := by simpa using h
    omega
  · have := List.eq_of_mem_replicate h
    omega
def w8 (l : List Nat) (j : Nat) : Nat := leN ((l.drop (8 * j)).take 8)
theorem take_lt {l : List Nat} (hb : ∀ b ∈ l, b < 256) (i k : Nat) : ∀ b ∈ (l.drop i).take k, b < 256 := fun b h => hb b (List.mem_of_mem_drop (List.mem_of_mem_take h))
theorem w8_lt {l : List Nat} (hb : ∀ b ∈ l, b < 256) (j : Nat) : w8 l j < 18446744073709551616 := by
  unfold w8
  have h1 := leN_lt _ (take_lt hb (8 * j) 8)
  have h2 : ((l.drop (8 * j)).take 8).length ≤ 8 := by rw [List.length_take]; omega
  have h3 : 256 ^ ((l.drop (8 * j)).take 8).length ≤ 256 ^ 8 := Nat.pow_le_pow_right (by decide) h2
  omega
theorem w8_all {l : List Nat} (h : l.length = 24) : w3 (w8 l) = leN l := by
  have e1 : l = (l.drop 0).take 8 ++ ((l.drop 8).take 8 ++ (l.drop 16).take 8) := by
    rw [List.drop_zero]
    conv => lhs; rw [← List.take_append_drop 8 l, ← List.take_append_drop 8 (l.drop 8)]
    rw [List.drop_drop, List.take_of_length_le (l := l.drop (8 + 8)) (by simp; omega)]
  have l0 : ((l.drop 0).take 8).length = 8 := by simp; omega
  have l1 : ((l.drop 8).take 8).length = 8 := by simp; omega
  conv => rhs; rw [e1, leN_app, leN_app, l0, l1]
  unfold w3 w8
  simp only [Nat.mul_zero, Nat.mul_one, Nat.reduceMul, Nat.reducePow]
  omega
theorem bl_small {l : List Nat} (hb : ∀ b ∈ l, b < 256) (hl : l.length ≤ 16) : leN (l ++ [1]) < 2 * 2 ^ 128 := by
  have h1 := leN_lt l hb
  have h2 : 256 ^ l.length ≤ 256 ^ 16 := Nat.pow_le_pow_right (by decide) hl
  rw [leN_app]
  simp only [leN]
  omega
theorem w8_top {l : List Nat} (hb : ∀ b ∈ l, b < 256) (hl : l.length ≤ 16) {m : Nat} (hm : (bl l m).length = 24) : w8 (bl l m) 2 < 4 := by
  have h1 := w8_all hm
  have h2 := bl_small hb hl
  rw [bl_leN] at h1
  unfold w3 at h1
  generalize leN (l ++ [1]) = B at *
  omega
theorem add_five (x y : Nat) (hx : x < 2 ^ 130) (hy : y < 2 ^ 130) : v26 (fun j => d26 x j + d26 y j) 5 = x + y := by
  have h1 := x_five hx
  have h2 := x_five hy
  rw [v26_five]
  omega
def pst (R A : Nat) (l : List Nat) : Nat := (A + leN (l ++ [1])) % QQ * R % QQ
theorem QQ_lt : QQ < 2 ^ 130 := by decide
theorem mod_lt30 (x : Nat) : x % QQ < 2 ^ 130 := Nat.lt_trans (Nat.mod_lt _ QQ_pos) QQ_lt
def k3 (r : Nat → Nat) : Nat := r 0 + r 1 * 2 ^ 64
theorem w3_k3 (r : Nat → Nat) : w3 (upd r 2 0) = k3 r := by
  have h0 : upd r 2 0 0 = r 0 := upd_off (by decide)
  have h1 : upd r 2 0 1 = r 1 := upd_off (by decide)
  have h2 : upd r 2 0 2 = 0 := upd_on
  unfold w3 k3
  rw [h0, h1, h2, Nat.zero_mul, Nat.add_zero]
theorem k3_lt {r : Nat → Nat} (h0 : r 0 < 18446744073709551616) (h1 : r 1 < 18446744073709551616) : k3 r < 2 ^ 130 := by unfold k3; omega
def msk (f : Nat → Nat) (j : Nat) : Nat := if j < 16 ∧ j % 4 = 3 then (f j &&& 15) % 256 else if 4 ≤ j ∧ j < 16 ∧ j % 4 = 0 then (f j &&& 252) % 256 else f j
def mk1 (f : Nat → Nat) (i j : Nat) : Nat := if j < 4 * i ∧ j % 4 = 3 then (f j &&& 15) % 256 else f j
def mk2 (f : Nat → Nat) (e j : Nat) : Nat := if j < 16 ∧ j % 4 = 3 then (f j &&& 15) % 256 else if 4 ≤ j ∧ j < 4 * (e + 1) ∧ j % 4 = 0 then (f j &&& 252) % 256 else f j
theorem mk1_next {f s : Nat → Nat} {i : Nat} (h : ∀ j, s j = mk1 f i j) : ∀ j, upd s (4 * i + 3) ((s (4 * i + 3) &&& 15) % 256) j = mk1 f (i + 1) j := by
  intro j
  unfold upd
  split
  · rename_i e
    subst e
    rw [h]
    unfold mk1
    rw [if_neg (by omega), if_pos (by omega)]
  · rename_i e
    rw [h]
    unfold mk1
    by_cases h1 : j < 4 * i ∧ j % 4 = 3
    · rw [if_pos h1, if_pos (by omega)]
    · rw [if_neg h1, if_neg (by omega)]
theorem mk1_mk2 {f : Nat → Nat} (j : Nat) : mk1 f 4 j = mk2 f 0 j := by
  unfold mk1 mk2
  by_cases h1 : j < 16 ∧ j % 4 = 3
  · rw [if_pos (by omega), if_pos h1]
  · rw [if_neg (by omega), if_neg h1, if_neg (by omega)]
theorem mk2_next {f s : Nat → Nat} {e : Nat} (he : e < 3) (h : ∀ j, s j = mk2 f e j) : ∀ j, upd s (4 * (e + 1)) ((s (4 * (e + 1)) &&& 252) % 256) j = mk2 f (e + 1) j := by
  intro j
  unfold upd
  split
  · rename_i e1
    subst e1
    rw [h]
    unfold mk2
    rw [if_neg (by omega), if_neg (by omega), if_neg (by omega), if_pos (by omega)]
  · rename_i e1
    rw [h]
    unfold mk2
    by_cases h1 : j < 16 ∧ j % 4 = 3
    · rw [if_pos h1, if_pos h1]
    · rw [if_neg h1, if_neg h1]
      by_cases h2 : 4 ≤ j ∧ j < 4 * (e + 1) ∧ j % 4 = 0
      · rw [if_pos h2, if_pos (by omega)]
      · rw [if_neg h2, if_neg (by omega)]
theorem msk_lt {f : Nat → Nat} (hf : ∀ j, j < 32 → f j < 256) {j : Nat} (hj : j < 32) : msk f j < 256 := by
  unfold msk
  split
  · exact Nat.mod_lt _ (by decide)
  · split
    · exact Nat.mod_lt _ (by decide)
    · exact hf j hj
def bL (f : Nat → Nat) : List Nat := (List.range 32).map (msk f)
theorem bL_len (f : Nat → Nat) : (bL f).length = 32 := by simp [bL]
theorem bL_lt {f : Nat → Nat} (hf : ∀ j, j < 32 → f j < 256) : ∀ b ∈ bL f, b < 256 := by
  intro b hb
  simp only [bL, List.mem_map, List.mem_range] at hb
  obtain ⟨j, hj, rfl⟩ := hb
  exact msk_lt hf hj
theorem bL_of {f s : Nat → Nat} (h : ∀ j, s j = mk2 f 3 j) : (List.range 32).map s = bL f := List.map_congr_left fun j _ => h j
end Go.Proofs.Ytmhpifphohcfmaa
namespace Go.Proofs.Ytmhpifphohcfmaa
open Go Go.RowKit
def lw (r : Nat → Nat) : List Nat := lowl (r 0) 8 ++ lowl (r 1) 8
theorem lw_len (r : Nat → Nat) : (lw r).length = 16 := by simp [lw, lowl_len]
theorem lw_lt (r : Nat → Nat) : ∀ b ∈ lw r, b < 256 := by
  intro b h
  unfold lw at h
  rw [List.mem_append] at h
  rcases h with h | h
  · exact lowl_lt _ _ b h
  · exact lowl_lt _ _ b h
def kq (r : Nat → Nat) (j : Nat) : Nat := (lw r).getD j 0
theorem getD_lt {l : List Nat} (hl : ∀ b ∈ l, b < 256) (j : Nat) : l.getD j 0 < 256 := by
  rw [List.getD_eq_getElem?_getD]
  cases h : l[j]? with
  | none => simp
  | some v => exact hl v (List.mem_of_getElem? h)
theorem kq_lt (r : Nat → Nat) : ∀ j, j < 32 → kq r j < 256 := fun j _ => getD_lt (lw_lt r) j
theorem kq_copy (r : Nat → Nat) : ∀ j, j < 32 → (if 0 ≤ j ∧ j < 0 + min (lw r).length 32 then (lw r).getD (j - 0) 0 else 0) = kq r j := by
  intro j _
  have h := lw_len r
  unfold kq
  split
  · rfl
  · rw [List.getD_eq_getElem?_getD, List.getElem?_eq_none (by omega)]; rfl
def okcd (r a : Nat → Nat) (n : Int) : Bool := allEq 2 (w8 (bL (kq r))) r && (decide (0 ≤ n) && (decide (n < 16) && (decide (a 2 < 4) && allEq 3 (wd (w3 a % QQ)) a)))
def okh (n : Int) (h : Nat → Nat) (i : Nat) : Bool := (List.range i).all fun j => decide ((j : Int) < n) || decide (h j = 0)
theorem okh_next (n : Int) (h : Nat → Nat) (i : Nat) : okh n h (i + 1) = (okh n h i && (decide ((i : Int) < n) || decide (h i = 0))) := by
  unfold okh
  rw [List.range_succ, List.all_append]
  simp
theorem okcases (r a : Nat → Nat) (n : Int) : (allEq 2 (w8 (bL (kq r))) r = false) ∨ (allEq 2 (w8 (bL (kq r))) r = true ∧ ¬ 0 ≤ n) ∨ (allEq 2 (w8 (bL (kq r))) r = true ∧ 0 ≤ n ∧ ¬ n < 16) ∨ (allEq 2 (w8 (bL (kq r))) r = true ∧ 0 ≤ n ∧ n < 16 ∧ ¬ a 2 < 4)
    ∨ (allEq 2 (w8 (bL (kq r))) r = true ∧ 0 ≤ n ∧ n < 16 ∧ a 2 < 4 ∧ allEq 3 (wd (w3 a % QQ)) a = false) ∨ (allEq 2 (w8 (bL (kq r))) r = true ∧ 0 ≤ n ∧ n < 16 ∧ a 2 < 4 ∧ allEq 3 (wd (w3 a % QQ)) a = true) := by
  cases allEq 2 (w8 (bL (kq r))) r
  · exact .inl rfl
  · by_cases h1 : 0 ≤ n
    · by_cases h2 : n < 16
      · by_cases h3 : a 2 < 4
        · cases allEq 3 (wd (w3 a % QQ)) a
          · exact .inr (.inr (.inr (.inr (.inl ⟨rfl, h1, h2, h3, rfl⟩))))
          · exact .inr (.inr (.inr (.inr (.inr ⟨rfl, h1, h2, h3, rfl⟩))))
        · exact .inr (.inr (.inr (.inl ⟨rfl, h1, h2, h3⟩)))
      · exact .inr (.inr (.inl ⟨rfl, h1, h2⟩))
    · exact .inr (.inl ⟨rfl, h1⟩)
theorem okbase {b c e g f : Bool} (h : b = false ∨ c = false ∨ e = false ∨ g = false ∨ f = false) : false = (b && (c && (e && (g && f)))) := by
  cases b <;> cases c <;> cases e <;> cases g <;> cases f <;> simp at h ⊢
theorem ok_all {r a : Nat → Nat} {n : Int} (h0 : allEq 2 (w8 (bL (kq r))) r = true) (h1 : 0 ≤ n) (h2 : n < 16) (h3 : a 2 < 4) (h4 : allEq 3 (wd (w3 a % QQ)) a = true) : true = okcd r a n := by
  unfold okcd
  rw [h0, h4, decide_eq_true h1, decide_eq_true h2, decide_eq_true h3]
  rfl
theorem self26 {x : Nat} (hx : x < 2 ^ 130) : v26 (d26 x) 5 = x := (v26_d26 x 5).trans (Nat.mod_eq_of_lt hx)
theorem okn_a {c : Bool} {n : Int} {h : Nat → Nat} {i : Nat} (hok : (c && okh n h i) = false) : false = (c && okh n h (i + 1)) := by
  rw [okh_next, ← Bool.and_assoc, hok]; rfl
theorem okn_b {c : Bool} {n : Int} {h : Nat → Nat} {i : Nat} (hok : (c && okh n h i) = true) (hl : (i : Int) < n) : true = (c && okh n h (i + 1)) := by
  rw [okh_next, ← Bool.and_assoc, hok, decide_eq_true hl]; rfl
theorem okn_c {c : Bool} {n : Int} {h : Nat → Nat} {i : Nat} (hok : (c && okh n h i) = true) (hl : ¬ (i : Int) < n) : decide ((h i : Int) = 0) = (c && okh n h (i + 1)) := by
  rw [okh_next, ← Bool.and_assoc, hok, decide_eq_false hl, Bool.true_and, Bool.false_or]
  by_cases e : h i = 0
  · rw [e]; rfl
  · rw [decide_eq_false e, decide_eq_false (by omega)]
theorem okcase2 (c : Bool) (n : Int) (h : Nat → Nat) (i : Nat) : (c && okh n h i) = false ∨ ((c && okh n h i) = true ∧ (i : Int) < n) ∨ ((c && okh n h i) = true ∧ ¬ (i : Int) < n) := by
  cases (c && okh n h i)
  · exact .inl rfl
  · by_cases hl : (i : Int) < n
    · exact .inr (.inl ⟨rfl, hl⟩)
    · exact .inr (.inr ⟨rfl, hl⟩)
end Go.Proofs.Ytmhpifphohcfmaa
