/-
  append to a slice of one's own.
-/
import Derived.Test.YtmnmhmpklknleaaOps6
namespace Go.Proofs.Ytmnmhmpklknleaa
open Go Go.RowKit
variable {P : Program} {G : Mem} {R : Reg} {ops : Array Oper} {K : Act → Mem → Prop} {rest : List Oper} {a : Act} {m : Mem} {d : Option Tmp} {ty : TypeId} {pos : String} {aft : Array Edge}
variable {T T' : TypeId} {x y : Operand}

/-- A slice of one's own: nil, or a whole block l of its own; its n elements' cells are xs. -/
def OwnS (e : TypeId) (z : Nat) (v : Value) (n : Nat) (xs : List Value) (l : Mem) : Prop :=
  (v = nilS ∧ n = 0 ∧ xs = [] ∧ l = []) ∨ ∃ r cap c, v = .slice (some ⟨r, 0, none⟩) n cap ∧ l = [⟨r, c, e⟩] ∧ n ≤ cap ∧ cap ≤ maxLen ∧ c.size = cap * z ∧ xs.length = n * z ∧ c.toList.take (n * z) = xs
theorem OwnS.shows {e : TypeId} {z n : Nat} {v : Value} {xs : List Value} {l : Mem} (h : OwnS e z v n xs l) : Shows l z v n xs := by
  rcases h with ⟨h1, h2, h3, _⟩ | ⟨r, cap, c, h1, rfl, h3, _, h4, h5, h6⟩
  · exact .inl ⟨h2, h3, none, 0, h1, fun _ => rfl⟩
  · refine .inr ⟨r, 0, cap, c, e, h1, h3, by simp, h5, ?_, fun j u hj => ?_⟩
    · rw [h4, Nat.zero_add]; exact Nat.mul_le_mul_right _ h3
    · rw [← h6, List.getElem?_take] at hj
      split at hj
      · rw [Nat.zero_add]; simpa using hj
      · cases hj
theorem OwnS.len {e : TypeId} {z n : Nat} {v : Value} {xs : List Value} {l : Mem} (h : OwnS e z v n xs l) : xs.length = n * z := h.shows.len
theorem shows_new {z len r : Nat} (c : Array Value) (e : TypeId) (h : c.size = len * z) : Shows [⟨r, c, e⟩] z (.slice (some ⟨r, 0, none⟩) len len) len c.toList :=
  .inr ⟨r, 0, len, c, e, rfl, Nat.le_refl _, by simp, by simpa using h, by omega, fun j u hj => by rw [Nat.zero_add]; simpa using hj⟩
theorem own_nil (e : TypeId) (z : Nat) : OwnS e z nilS 0 [] [] := .inl ⟨rfl, rfl, rfl, rfl⟩

theorem run_append_in (w : World) (t ty e : TypeId) (i : TypeInfo) (ht : P.underlying t = some (.slice e)) (hi : P.info? e = some i)
    (g sLen sCap : Nat) (cur : Array Value) (hg : In w ⟨g, cur, e⟩)
    (a : Addr) (m c : Nat) (news : List Value) (hl : news.length = m * i.size) (hnews : ∀ j u, news[j]? = some u → w.cell? (a.add j) = some u) (h1 : ∀ u ∈ news, u.oneCell' = true)
    (hroom : sLen + m ≤ sCap) (hfit : sLen * i.size + news.length ≤ cur.size) :
    (Builtin.append_ #[t, t] ty #[.slice (some ⟨g, 0, none⟩) sLen sCap, .slice (some a) m c]).run P w =
      .ok (.slice (some ⟨g, 0, none⟩) (sLen + m) sCap) (w.setRow g (cur.toList.take (sLen * i.size) ++ news ++ cur.toList.drop (sLen * i.size + news.length)).toArray) := by
  have hf := run_firstCells_some (P := P) w i.size m a m c news hl hnews
  have hst := run_storeCells_in (P := P) g (sLen * i.size) e news 0 cur w hg (by simpa using hfit) h1
  simp only [Nat.add_zero] at hst
  simp [Builtin.append_, run_underlying ht, sizeOf, typeInfo, hi, Builtin.lenOf, hroom, hf, Addr.add_lit, hst]
theorem st_append {e : TypeId} {z n k bytes : Nat} {zv v vy : Value} {xs news : List Value} {l0 lr B : Mem} (hT : P.underlying T = some (.slice e)) (hs : (P.info? e).map (·.size) = some z) (hb : (P.info? e).map (·.bytes) = some bytes) (hz : (P.info? e).bind (·.zero) = some zv) (hzs : zv.cells.size = z)
    (hx : a.eval x = v) (hy : a.eval y = vy) (hown : OwnS e z v n xs l0) (hp : List.Perm m (l0 ++ lr)) (hsrc : Shows B z vy k news) (hB : ∀ q ∈ B, q ∈ G ∨ q ∈ m) (h1 : ∀ u ∈ news, u.oneCell' = true) (h63 : n + k ≤ maxLen) (hbytes : (n + k) * bytes ≤ 140737488355328)
    (h : ∀ v' l', OwnS e z v' (n + k) (xs ++ news) l' → (l'.map (·.b) = l0.map (·.b) → opsM P G R ops K rest (a.put d v') (l' ++ lr ++ [])) ∧ (FreshM m l' → opsM P G R ops K rest (a.put d v') (l0 ++ lr ++ l'))) :
    opsM P G R ops K (⟨d, .call ⟨.builtin .append, #[x, y], #[T, T]⟩, ty, pos, aft, none⟩ :: rest) a m := by
  have hlen : (xs ++ news).length = (n + k) * z := by rw [List.length_append, hown.len, hsrc.len, Nat.add_mul]
  refine .inr ⟨rfl, ?_⟩
  show coreM _ _ _ _ _ _ _ 5
  refine ⟨l0, lr, fun v' r1 nw => ∃ l', OwnS e z v' (n + k) (xs ++ news) l' ∧ ((r1 = l' ∧ nw = [] ∧ l'.map (·.b) = l0.map (·.b)) ∨ (r1 = l0 ∧ nw = l')), hp, ?_, ?_, ?_, ?_⟩
  · obtain ⟨r, hr⟩ := fresh_of m
    exact ⟨.slice (some ⟨r, 0, none⟩) (n + k) (n + k), l0, [⟨r, (xs ++ news).toArray, e⟩], ⟨_, .inr ⟨r, n + k, (xs ++ news).toArray, rfl, rfl, Nat.le_refl _, h63, by simp only [List.size_toArray]; exact hlen, hlen, by rw [← hlen]; exact List.take_length⟩, .inr ⟨rfl, rfl⟩⟩, by simp, by simpa using hr⟩
  · rintro v' r1 nw ⟨l', _, ⟨rfl, _, h3⟩ | ⟨rfl, _⟩⟩
    · exact h3
    · rfl
  · intro w hG hm _
    have hrun : ∀ v' w', (Builtin.append_ #[T, T] ty #[v, vy]).run P w = .ok v' w' → (execOp a.eval ⟨d, .call ⟨.builtin .append, #[x, y], #[T, T]⟩, ty, pos, aft, none⟩).run P w = .ok (.value v') w' := fun v' w' hr => by
      simp only [execOp, resolve, invoke, builtin, Sem.run_bind, Sem.run_pure, Result.andThen_ok, List.map_toArray, List.map_cons, List.map_nil, hx, hy, hr]
    have hl0 : MemIn l0 w := fun q hq => hm q (hp.mem_iff.2 (by simp [hq]))
    left
    cases hi : P.info? e with
    | none => simp [hi] at hs
    | some i =>
      have hsz : i.size = z := by simpa [hi] using hs
      have hby : i.bytes = bytes := by simpa [hi] using hb
      have hz' : i.zero = some zv := by simpa [hi] using hz
      have hsmall : n + k ≤ 9223372036854775807 := by simp only [maxLen] at h63; omega
      have grown : ∀ old (w0 : World), w0 = w → (∃ c', c' = xs.toArray ++ news.toArray ++ Builtin.zeroCells zv.cells (grownCap w (n + k) old e - (n + k)) ∧
          OwnS e z (.slice (some ⟨w.heap.size, 0, none⟩) (n + k) (grownCap w (n + k) old e)) (n + k) (xs ++ news) [⟨w.heap.size, c', e⟩]) := fun old _ _ => by
        have hge := grownCap_ge w (n + k) old e
        refine ⟨_, rfl, .inr ⟨_, _, _, rfl, rfl, hge, grownCap_le_maxLen w (n + k) old e h63, ?_, hlen, ?_⟩⟩
        · simp only [Array.size_append, List.size_toArray, size_zeroCells, hzs, hown.len, hsrc.len, ← Nat.add_mul]
          congr 1
          omega
        · simp only [Array.toList_append, List.append_assoc]
          rw [← List.append_assoc, ← hlen]
          exact List.take_left
      rcases hsrc with ⟨rfl, rfl, oa, cp, rfl, hoa⟩ | ⟨b, o, cp, c, t, rfl, hkc, hbB, hnl, ho, hnc⟩
      · -- nothing is appended
        refine ⟨v, l0, [], w, hrun _ _ ?_, ⟨l0, by simpa using hown, .inl ⟨rfl, rfl, rfl⟩⟩, Keep.refl _ _ _, hl0, by simp [MemIn], by simp, by simp⟩
        have hf : ∀ q, (Builtin.firstCells q 0 (.slice oa 0 cp)).run P w = .ok #[] w := fun q => by
          cases oa with
          | none => simp [Builtin.firstCells]
          | some a => simp [Builtin.firstCells, loadCells, loadCellsFrom]
        rcases hown with ⟨rfl, rfl, _⟩ | ⟨r, cap, c, rfl, rfl, hnc, _⟩
        · simp [Builtin.append_, run_underlying hT, sizeOf, typeInfo, hi, Builtin.lenOf, hf]
        · simp [Builtin.append_, run_underlying hT, sizeOf, typeInfo, hi, Builtin.lenOf, hf, hnc, storeCells]
      · have hrin : RIn w ⟨b, c, t⟩ := by
          rcases hB _ hbB with h2 | h2
          · exact hG _ h2
          · exact (hm _ h2).read
        have hnews : ∀ j u, news[j]? = some u → w.cell? ((⟨b, o, none⟩ : Addr).add j) = some u := fun j u hj => by
          have hlt : o + j < c.size := (Array.getElem?_eq_some_iff.1 (hnc j u hj)).1
          rw [add_off, hrin.2 (o + j) hlt]
          exact hnc j u hj
        rcases hown with ⟨rfl, rfl, rfl, rfl⟩ | ⟨r, cap, cur, rfl, rfl, hncap, hcm, hcs, hxl, htake⟩
        · by_cases hk : k = 0
          · subst hk
            have hn0 : news = [] := List.eq_nil_of_length_eq_zero (by simpa using hnl)
            subst hn0
            refine ⟨nilS, [], [], w, hrun _ _ ?_, ⟨[], .inl ⟨rfl, rfl, rfl, rfl⟩, .inl ⟨rfl, rfl, rfl⟩⟩, Keep.refl _ _ _, by simp [MemIn], by simp [MemIn], by simp, by simp⟩
            simp [Builtin.append_, run_underlying hT, sizeOf, typeInfo, hi, Builtin.lenOf, Builtin.firstCells, loadCells, loadCellsFrom]
          · have hr := run_append_nil (P := P) w T ty e i zv hT hi hz' ⟨b, o, none⟩ k cp news (by rw [hsz]; exact hnl) hnews (by omega) (by omega) (by rw [hby]; have := hbytes; simp only [Nat.zero_add] at this; omega)
            obtain ⟨c', hc', ho'⟩ := grown 0 w rfl
            simp only [Nat.zero_add, List.nil_append, Array.empty_append] at hc' ho' hr ⊢
            rw [← hc'] at hr
            exact ⟨_, [], _, _, hrun _ _ hr, ⟨_, ho', .inr ⟨rfl, rfl⟩⟩, post_drew w c' e [] (by simp [MemIn])⟩
        · have hg : In w ⟨r, cur, e⟩ := hl0 ⟨r, cur, e⟩ (by simp)
          by_cases hroom : n + k ≤ cap
          · have hfit : n * i.size + news.length ≤ cur.size := by rw [hsz, hnl, hcs, ← Nat.add_mul]; exact Nat.mul_le_mul_right _ hroom
            have hr := run_append_in (P := P) w T ty e i hT hi r n cap cur hg ⟨b, o, none⟩ k cp news (by rw [hsz]; exact hnl) hnews h1 hroom hfit
            obtain ⟨cw, hcw⟩ : ∃ cw, cw = (cur.toList.take (n * i.size) ++ news ++ cur.toList.drop (n * i.size + news.length)).toArray := ⟨_, rfl⟩
            rw [← hcw] at hr
            have hcz : cw.size = cur.size := by
              rw [hcw]
              simp only [List.size_toArray, List.length_append, List.length_take, List.length_drop, Array.length_toList]
              rw [hsz] at hfit ⊢
              omega
            refine ⟨_, [⟨r, cw, e⟩], [], _, hrun _ _ hr, ⟨[⟨r, cw, e⟩], .inr ⟨r, cap, cw, rfl, rfl, hroom, hcm, ?_, hlen, ?_⟩, .inl ⟨rfl, rfl, rfl⟩⟩, post_row (hl0 ⟨r, cur, e⟩ (by simp)) hcz⟩
            · exact hcz.trans hcs
            · rw [hcw, hsz, htake, ← hlen]
              exact List.take_left
          · have holds : ∀ j u, xs[j]? = some u → w.cell? ((⟨r, 0, none⟩ : Addr).add j) = some u := fun j u hj => by
              rw [← htake, List.getElem?_take] at hj
              split at hj
              · have hin : In w ⟨r, cur, e⟩ := hl0 ⟨r, cur, e⟩ (by simp)
                rw [add_off, Nat.zero_add]
                have := In.cell hin j
                simp only at this
                rw [this]; simpa using hj
              · cases hj
            have hr := run_append_grow (P := P) w T ty e i zv hT hi hz' ⟨r, 0, none⟩ n cap xs (by rw [hsz]; exact hxl) holds ⟨b, o, none⟩ k cp news (by rw [hsz]; exact hnl) hnews (by omega) (by omega) (by rw [hby]; exact growslice_fits (by omega) hbytes)
            obtain ⟨c', hc', ho'⟩ := grown cap w rfl
            rw [← hc'] at hr
            exact ⟨_, [⟨r, cur, e⟩], _, _, hrun _ _ hr, ⟨_, ho', .inr ⟨rfl, rfl⟩⟩, post_drew w c' e [⟨r, cur, e⟩] hl0⟩
  · rintro v' r1 nw ⟨l', ho', ⟨rfl, rfl, h3⟩ | ⟨rfl, rfl⟩⟩ hfr
    · exact (h v' r1 ho').1 h3
    · exact (h v' nw ho').2 hfr

/-- A call that makes a slice. -/
def callMk (R : Reg) : Bool := R.c == 4 || R.c == 5
theorem st_callN (hR : callMk R = true) {fo : Operand} {f : FuncId} {args : Array Operand} {tys : Array TypeId} {vs cap : Array Value} {g' : Mem} {S : Value → Mem → Prop} (hf : a.eval fo = .func (.func f) #[] cap) (hargs : args.map a.eval = vs) (he : enters P f = true)
    (hF : Fx P g' [] f (vs ++ cap) (fun v l1 nw => l1 = [] ∧ S v nw)) (hS : ∃ v nw, S v nw ∧ FreshM m nw) (hg : ∀ w, MemR G w → vis R m w → MemR g' w)
    (h : ∀ v nw, S v nw → FreshM m nw → opsM P G R ops K rest (a.put d v) (m ++ nw)) : opsM P G R ops K (⟨d, .call ⟨.value fo, args, tys⟩, ty, pos, aft, none⟩ :: rest) a m := by
  by_cases h4 : R.c = 4
  · exact st_callM h4 hf hargs he hF hS hg h
  · have h5 : R.c = 5 := by
      unfold callMk at hR
      simp only [Bool.or_eq_true, beq_iff_eq] at hR
      exact hR.resolve_left h4
    obtain ⟨v0, n0, h0, h1⟩ := hS
    refine st_callX h5 hf hargs he hF (l0 := []) (lr := m) (by simp) ⟨v0, [], n0, ⟨rfl, h0⟩, h1⟩ ?_ (fun w hG hm => hg w hG (fun z hz _ => hm z hz)) (by simp) (by simp) ?_
    · rintro v l1 nw ⟨rfl, _⟩; rfl
    · rintro v l1 nw ⟨rfl, hs⟩ hr
      simpa using h v nw hs hr

end Go.Proofs.Ytmnmhmpklknleaa
