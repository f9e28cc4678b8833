import Derived.Test.YtfldnikepdbgkaaDoorKx3
namespace Go.Proofs.YtfldnikepdbgkaaDoor
open Go Go.RowKit
theorem take_ids {A : Mem} : ∀ {l : List Nat}, (A.map (·.b)).Nodup → l.Nodup → (∀ x ∈ l, x ∈ A.map (·.b)) → ∃ l1 nw, List.Perm A (l1 ++ nw) ∧ l1.map (·.b) = l := by
  intro l
  induction l generalizing A with
  | nil => exact fun _ _ _ => ⟨[], A, by simp, rfl⟩
  | cons i l ih =>
    intro hA hl hin
    obtain ⟨x, hx, rfl⟩ := List.mem_map.1 (hin i (by simp))
    obtain ⟨s, t, rfl⟩ := List.append_of_mem hx
    have hp : List.Perm (s ++ x :: t) (x :: (s ++ t)) := List.perm_middle
    have hA2 : ((x :: (s ++ t)).map (·.b)).Nodup := (hp.map _).nodup_iff.1 hA
    rw [List.map_cons, List.nodup_cons] at hA2
    have hl2 := List.nodup_cons.1 hl
    obtain ⟨l1, nw, h1, h2⟩ := ih (A := s ++ t) hA2.2 hl2.2 fun y hy => by
      have h3 := (hp.map (·.b)).mem_iff.1 (hin y (List.mem_cons_of_mem _ hy))
      rw [List.map_cons] at h3
      rcases List.mem_cons.1 h3 with h3 | h3
      · exact absurd (h3 ▸ hy) hl2.1
      · exact h3
    exact ⟨x :: l1, nw, hp.trans (h1.cons x), by rw [List.map_cons, h2]⟩
def Three (b : Nat) (t : TypeId) (oa ob : Option Blk) (S : Array Value → Option Blk → Option Blk → Mem → Prop) : Value → Mem → Mem → Prop := fun v l1 nw =>
  v = .tuple #[] ∧ l1.map (·.b) = b :: (oa.toList ++ ob.toList).map (·.b) ∧ ∃ c' o1 o2 fz, List.Perm (l1 ++ nw) (⟨b, c', t⟩ :: (o1.toList ++ (o2.toList ++ fz))) ∧ S c' o1 o2 fz
section
variable {P : Program} {G : Mem} {R : Reg} {ops : Array Oper} {n : Nat} {K : Env → Mm → Prop} {rest : List Oper} {E : Env} {M : Mm} {d : Nat} {ty T T' : TypeId} {pos : String} {aft : Array Edge} {x y : Operand}
theorem nodup3 {m : Mem} (hM : FitsM M m) {i j k : Nat} {b : Nat} {c : Array Value} {t : TypeId} {oa ob : Option Blk} (hi : lkM M i = some ⟨b, c, t⟩) (hj : lkM M j = oa) (hk : lkM M k = ob) (hij : i ≠ j) (hik : i ≠ k) (hjk : j ≠ k) : ((⟨b, c, t⟩ :: (oa.toList ++ ob.toList) : Mem).map (·.b)).Nodup := by
  cases oa with
  | none =>
    cases ob with
    | none => simp
    | some z => have := hM.apart i k _ z hi hk hik; simpa using this
  | some y =>
    have h1 := hM.apart i j _ y hi hj hij
    cases ob with
    | none => simpa using h1
    | some z =>
      have h2 := hM.apart i k _ z hi hk hik
      have h3 := hM.apart j k y z hj hk hjk
      have h1 : b ≠ y.b := h1
      have h2 : b ≠ z.b := h2
      simp [h1, h2, h3]
theorem perm3 {m : Mem} (hM : FitsM M m) {i j k : Nat} {x : Blk} {oa ob : Option Blk} (hi : lkM M i = some x) (hj : lkM M j = oa) (hk : lkM M k = ob) (hij : i ≠ j) (hik : i ≠ k) (hjk : j ≠ k) : ∃ lr, List.Perm m ((x :: (oa.toList ++ ob.toList)) ++ lr) ∧ ∀ q y, q ≠ i → q ≠ j → q ≠ k → lkM M q = some y → y ∈ lr := by
  obtain ⟨l1, h1⟩ := hM.perm1 hi
  have h1 : List.Perm m (x :: l1) := by simpa using h1
  have o1 : ∀ q y, q ≠ i → lkM M q = some y → y ∈ l1 := hM.others hi (by simpa using h1)
  have step : ∀ (l : Mem) (o : Option Blk), (∀ z, o = some z → z ∈ l) → ∃ lr, List.Perm l (o.toList ++ lr) := fun l o h => by
    cases o with
    | none => exact ⟨l, by simp⟩
    | some z =>
      obtain ⟨s, t, e⟩ := List.append_of_mem (h z rfl)
      exact ⟨s ++ t, by rw [e]; simp⟩
  obtain ⟨l2, h2⟩ := step l1 oa fun z hz => o1 j z (fun e => hij e.symm) (hj.trans hz)
  have o2 : ∀ q y, q ≠ i → q ≠ j → lkM M q = some y → y ∈ l2 := fun q y h3 h4 hy => by
    rcases List.mem_append.1 (h2.mem_iff.1 (o1 q y h3 hy)) with h | h
    · have e : oa = some y := by simpa using h
      exact absurd rfl (hM.apart q j y y hy (hj.trans e) h4)
    · exact h
  obtain ⟨l3, h3⟩ := step l2 ob fun z hz => o2 k z (fun e => hik e.symm) (fun e => hjk e.symm) (hk.trans hz)
  refine ⟨l3, h1.trans (by simpa using (h2.trans (h3.append_left _)).cons x), fun q y h4 h5 h6 hy => ?_⟩
  rcases List.mem_append.1 (h3.mem_iff.1 (o2 q y h4 h5 hy)) with h | h
  · have e : ob = some y := by simpa using h
    exact absurd rfl (hM.apart q k y y hy (hk.trans e) h6)
  · exact h
theorem e_call3 (i j k : Nat) (L : Mm) {fz : Mem} {fo : Operand} {f : FuncId} {args : Array Operand} {tys : Array TypeId} {vs cap : List Value} {g' : Mem} {b : Nat} {c : Array Value} {t : TypeId} {oa ob : Option Blk} {S : Array Value → Option Blk → Option Blk → Mem → Prop} (hb : Bag fz M) (hL : subL L ((i, none) :: (j, none) :: (k, none) :: M)) (hs : small L = true)
    (hi1 : (Nat.blt i 1000 = true ∧ Nat.blt j 1000 = true) ∧ Nat.blt k 1000 = true) (hd3 : (i ≠ j ∧ i ≠ k) ∧ j ≠ k) (hf : rd E fo = some (.func (.func f) #[] cap.toArray)) (hargs : rdl E args.toList = some vs) (he : enters P f = true)
    (hi : lkM M i = some ⟨b, c, t⟩) (hj : lkM M j = oa) (hk : lkM M k = ob) (hg : ∀ z ∈ g', z ∈ G ∨ ∃ q, (q ≠ i ∧ q ≠ j ∧ q ≠ k) ∧ lkM M q = some z)
    (hF : ((⟨b, c, t⟩ :: (oa.toList ++ ob.toList) : Mem).map (·.b)).Nodup → Fx P g' (⟨b, c, t⟩ :: (oa.toList ++ ob.toList)) f (vs ++ cap).toArray (Three b t oa ob S))
    (hS : ∀ m' : Mem, ∃ c' o1 o2 nf, S c' o1 o2 ((oa.toList ++ ob.toList) ++ nf) ∧ FreshM m' (o1.toList ++ (o2.toList ++ nf))) (hd : Nat.blt d n = true) (hR : R.c = 5)
    (h : ∀ c' o1 o2 nf, S c' o1 o2 nf → (∀ z ∈ oa.toList ++ ob.toList, z.b ∈ (o1.toList ++ (o2.toList ++ nf)).map (·.b)) → OpsE P G R ops n K rest ((d, .tuple #[]) :: E) ((k, o2) :: (j, o1) :: (i, some ⟨b, c', t⟩) :: catL L (lab 1000 (fz ++ nf)))) (hLn : R.L = none := by rfl) (hpu : pureD R (some d) = false := by first | rfl | assumption) : OpsE P G R ops n K (⟨some d, .call ⟨.value fo, args, tys⟩, ty, pos, aft, none⟩ :: rest) E M :=
  fun _ m ha hM => by
    obtain ⟨⟨hij, hik⟩, hjk⟩ := hd3
    obtain ⟨lr, hp, hoth⟩ := perm3 hM hi hj hk hij hik hjk
    have hnd := nodup3 hM hi hj hk hij hik hjk
    have hl0 : ∀ z ∈ (⟨b, c, t⟩ :: (oa.toList ++ ob.toList) : Mem), ∃ q, (q = i ∨ q = j ∨ q = k) ∧ lkM M q = some z := fun z hz => by
      rcases List.mem_cons.1 hz with rfl | hz
      · exact ⟨i, .inl rfl, hi⟩
      · rcases List.mem_append.1 hz with hz | hz
        · exact ⟨j, .inr (.inl rfl), hj.trans (by simpa using hz)⟩
        · exact ⟨k, .inr (.inr rfl), hk.trans (by simpa using hz)⟩
    refine st_callX hR hpu (S := Three b t oa ob S) (ha.rd hf) (ha.args hargs) he (by simpa using hF hnd) (l0 := ⟨b, c, t⟩ :: (oa.toList ++ ob.toList)) (lr := lr) (fun _ _ => off_none hLn _) hp (fun m' => ?_) ?_ (fun w hG hw z hz => ?_) hnd (fun hA z hz => ?_) ?_
    · obtain ⟨c0, p1, p2, nf, h0, h1⟩ := hS m'
      refine ⟨.tuple #[], ⟨b, c0, t⟩ :: (oa.toList ++ ob.toList), p1.toList ++ (p2.toList ++ nf), ⟨rfl, by simp, c0, p1, p2, _, ?_, h0⟩, h1⟩
      refine List.Perm.cons _ ?_
      have a1 : List.Perm ((oa.toList ++ ob.toList) ++ (p1.toList ++ (p2.toList ++ nf))) ((p1.toList ++ (p2.toList ++ nf)) ++ (oa.toList ++ ob.toList)) := List.perm_append_comm
      refine a1.trans ?_
      rw [List.append_assoc, List.append_assoc]
      exact ((List.perm_append_comm (l₁ := nf)).append_left _).append_left _
    · rintro v' l1 nw ⟨_, h1, _⟩; simpa using h1
    · rcases hg z hz with h1 | ⟨q, _, h1⟩
      · exact hG z h1
      · exact (hw z (hM.has q z h1)).read
    · intro hin
      obtain ⟨y, hy, e⟩ := List.mem_map.1 hin
      obtain ⟨q, hq, hlq⟩ := hl0 y hy
      rcases hg z hz with h1 | ⟨q2, ⟨g1, g2, g3⟩, h1⟩
      · exact hA z h1 y (hM.has q y hlq) e.symm
      · exact hM.apart q2 q z y h1 hlq (by rcases hq with rfl | rfl | rfl <;> assumption) e.symm
    · rintro v' l1 nw ⟨rfl, hid, c', o1, o2, nf, hpm, hSx⟩ hfr
      obtain ⟨A, hA⟩ : ∃ A, A = (⟨b, c', t⟩ :: (o1.toList ++ (o2.toList ++ nf)) : Mem) := ⟨_, rfl⟩
      rw [← hA] at hpm
      have hid : l1.map (·.b) = (⟨b, c, t⟩ :: (oa.toList ++ ob.toList) : Mem).map (·.b) := by simpa using hid
      have hnA : (A.map (·.b)).Nodup := (hpm.map _).nodup_iff.1 (by
        rw [List.map_append, List.nodup_append]
        refine ⟨hid ▸ hnd, hfr.1, fun p hp1 q hq e => ?_⟩
        rw [hid] at hp1
        obtain ⟨y, hy, rfl⟩ := List.mem_map.1 hp1
        obtain ⟨z, hz, rfl⟩ := List.mem_map.1 hq
        obtain ⟨q2, _, h2⟩ := hl0 y hy
        exact hfr.2 z hz y (hM.has q2 y h2) e)
      have hids : ∀ z ∈ oa.toList ++ ob.toList, z.b ∈ (o1.toList ++ (o2.toList ++ nf)).map (·.b) := fun z hz => by
        have h1 : z.b ∈ A.map (·.b) := (hpm.map _).mem_iff.1 (by
          rw [List.map_append, hid]
          exact List.mem_append_left _ (List.mem_map.2 ⟨z, List.mem_cons_of_mem _ hz, rfl⟩))
        rw [hA, List.map_cons] at h1
        rcases List.mem_cons.1 h1 with h1 | h1
        · rw [List.map_cons, List.nodup_cons] at hnd
          exact absurd (List.mem_map.2 ⟨z, hz, h1⟩) hnd.1
        · exact h1
      refine h c' o1 o2 nf hSx hids _ _ (ha.put hd _) ?_
      have hoff : ∀ q y, q ≠ i → q ≠ j → q ≠ k → lkM M q = some y → ∀ x ∈ A, y.b ≠ x.b := fun q y h1 h2 h3 hy x hx => by
        rcases List.mem_append.1 (hpm.mem_iff.2 hx) with hx | hx
        · have : x.b ∈ l1.map (·.b) := List.mem_map.2 ⟨x, hx, rfl⟩
          rw [hid] at this
          obtain ⟨z, hz, e⟩ := List.mem_map.1 this
          obtain ⟨q2, hq2, h4⟩ := hl0 z hz
          rw [← e]
          exact hM.apart q q2 y z hy h4 (by rcases hq2 with rfl | rfl | rfl <;> assumption)
        · exact hfr.2 x hx y (hM.has q y hy)
      have hlab : ∀ q y, lkM ((i, none) :: (j, none) :: (k, none) :: M) q = some y → (q ≠ i ∧ q ≠ j ∧ q ≠ k) ∧ lkM M q = some y := fun q y hq => by
        rw [lkM_cons] at hq
        split at hq
        · cases hq
        rename_i n1
        rw [lkM_cons] at hq
        split at hq
        · cases hq
        rename_i n2
        rw [lkM_cons] at hq
        split at hq
        · cases hq
        rename_i n3
        exact ⟨⟨fun e => n1 e.symm, fun e => n2 e.symm, fun e => n3 e.symm⟩, hq⟩
      have h0 : FitsM ((i, none) :: (j, none) :: (k, none) :: M) (lr.filter fun y => decide (∀ x ∈ A, y.b ≠ x.b)) :=
        ⟨fun q y hq => by
          obtain ⟨⟨g1, g2, g3⟩, g4⟩ := hlab q y hq
          exact List.mem_filter.2 ⟨hoth q y g1 g2 g3 g4, decide_eq_true (hoff q y g1 g2 g3 g4)⟩,
         fun p q y z hy hz hne => hM.apart p q y z (hlab p y hy).2 (hlab q z hz).2 hne⟩
      obtain ⟨m0, hm0⟩ : ∃ m0, m0 = lr.filter fun y => decide (∀ x ∈ A, y.b ≠ x.b) := ⟨_, rfl⟩
      rw [← hm0] at h0
      have hm1 : ∀ y ∈ m0, y ∈ lr ∧ ∀ x ∈ A, y.b ≠ x.b := fun y hy => by
        rw [hm0] at hy
        have := List.mem_filter.1 hy
        exact ⟨this.1, of_decide_eq_true this.2⟩
      have hAn : ∀ x ∈ nf, x ∈ A := fun x hx => by rw [hA]; simp [hx]
      have hA1 : ∀ x ∈ o1.toList, x ∈ A := fun x hx => by rw [hA]; exact List.mem_cons_of_mem _ (List.mem_append_left _ hx)
      have hA2 : ∀ x ∈ o2.toList, x ∈ A := fun x hx => by rw [hA]; exact List.mem_cons_of_mem _ (List.mem_append_right _ (List.mem_append_left _ hx))
      have hnA' := hnA
      rw [hA, List.map_cons, List.nodup_cons, List.map_append, List.nodup_append, List.map_append, List.nodup_append] at hnA'
      obtain ⟨hbA, hn1, ⟨hn2, hn3, hn23⟩, hn123⟩ := hnA'
      have c0 : FitsM (catL L (lab 1000 (fz ++ nf))) (m0 ++ nf) := h0.bag (L := L) (bag_skip hi1.1.1 (bag_skip hi1.1.2 (bag_skip hi1.2 hb))) hL hs (fun x hx => List.mem_append_left _ hx) (fun x hx => List.mem_append_right _ hx) hn3 fun x hx q y _ hy => (hm1 y (h0.has q y hy)).2 x (hAn x hx)
      have c1 := c0.fresh i (oz := some ⟨b, c', t⟩) (l0 := []) (lr := m0 ++ nf) (by simp) ⟨by simp, fun x hx y hy => by
        have hx : x = ⟨b, c', t⟩ := by simpa using hx
        subst hx
        rcases List.mem_append.1 hy with hy | hy
        · exact (hm1 y hy).2 _ (by rw [hA]; simp)
        · intro e
          exact hbA (by
            have : y.b ∈ (nf.map (·.b)) := List.mem_map.2 ⟨y, hy, rfl⟩
            rw [← e]; simp only [List.mem_append]; exact .inr (.inr this))⟩
      have c2 := c1.fresh j (oz := o1) (l0 := []) (lr := [] ++ (m0 ++ nf) ++ (some (⟨b, c', t⟩ : Blk)).toList) (by simp) ⟨hn1, fun x hx y hy => by
        have hxb : x.b ∈ o1.toList.map (·.b) := List.mem_map.2 ⟨x, hx, rfl⟩
        simp only [List.nil_append, List.mem_append] at hy
        rcases hy with (hy | hy) | hy
        · exact (hm1 y hy).2 x (hA1 x hx)
        · exact fun e => hn123 _ hxb _ (List.mem_append_right _ (List.mem_map.2 ⟨y, hy, rfl⟩)) e.symm
        · have hy : y = ⟨b, c', t⟩ := by simpa using hy
          subst hy
          exact fun e => hbA (List.mem_append_left _ (e ▸ hxb))⟩
      have c3 := c2.fresh k (oz := o2) (l0 := []) (lr := [] ++ ([] ++ (m0 ++ nf) ++ (some (⟨b, c', t⟩ : Blk)).toList) ++ o1.toList) (by simp) ⟨hn2, fun x hx y hy => by
        have hxb : x.b ∈ o2.toList.map (·.b) := List.mem_map.2 ⟨x, hx, rfl⟩
        simp only [List.nil_append, List.mem_append] at hy
        rcases hy with ((hy | hy) | hy) | hy
        · exact (hm1 y hy).2 x (hA2 x hx)
        · exact fun e => hn23 _ hxb _ (List.mem_map.2 ⟨y, hy, rfl⟩) e.symm
        · have hy : y = ⟨b, c', t⟩ := by simpa using hy
          subst hy
          exact fun e => hbA (List.mem_append_right _ (List.mem_append_left _ (e ▸ hxb)))
        · exact fun e => hn123 _ (List.mem_map.2 ⟨y, hy, rfl⟩) _ (List.mem_append_left _ hxb) e⟩
      refine c3.more fun y hy => ?_
      have inA : ∀ y ∈ A, y ∈ l1 ++ lr ++ nw := fun y hy => by
        rcases List.mem_append.1 (hpm.mem_iff.2 hy) with hy | hy
        · simp [hy]
        · simp [hy]
      simp only [List.nil_append, List.mem_append] at hy
      rcases hy with (((hy | hy) | hy) | hy) | hy
      · have := (hm1 y hy).1; simp [this]
      · exact inA y (hAn y hy)
      · exact inA y (by rw [hA]; have hy : y = ⟨b, c', t⟩ := by simpa using hy
                        rw [hy]; simp)
      · exact inA y (hA1 y hy)
      · exact inA y (hA2 y hy)
theorem bag_off3 {i j k : Nat} {fz : Mem} (hb : Bag fz M) (hi : i < 1000 := by decide) (hj : j < 1000 := by decide) (hk : k < 1000 := by decide) : ∀ z ∈ fz ++ G, z ∈ G ∨ ∃ q, (q ≠ i ∧ q ≠ j ∧ q ≠ k) ∧ lkM M q = some z := fun z hz => by
  rcases List.mem_append.1 hz with hz | hz
  · obtain ⟨p, hp⟩ := List.getElem?_of_mem hz
    exact .inr ⟨1000 + p, ⟨by omega, by omega, by omega⟩, by rw [hb _ (by omega), show 1000 + p - 1000 = p by omega]; exact hp⟩
  · exact .inl hz
theorem e_appendJ (i : Nat) (L : Mm) {fz : Mem} {e : TypeId} {z l k bytes : Nat} {zv v vy : Value} {xs news : List Value} {oz : Option Blk} {B : Mem} (hown : OwnS e z v l xs oz.toList) (hsrc : Shows B z vy k news) (hi : lkM M i = oz) (hB : SeenE G R M B) (hb : Bag fz M) (hL : ∀ x, subL L ((i, x) :: M)) (hs0 : small L = true) (h1i : Nat.blt i 1000 = true)
    (hT : P.underlying T = some (.slice e)) (hs : (P.info? e).map (·.size) = some z) (hby : (P.info? e).map (·.bytes) = some bytes) (hz : (P.info? e).bind (·.zero) = some zv) (hzs : zv.cells.size = z)
    (hx : rd E x = some v) (hy : rd E y = some vy) (h1 : ∀ u ∈ news, u.oneCell' = true) (h63 : l + k ≤ maxLen) (hbytes : (l + k) * bytes ≤ 140737488355328) (hd : Nat.blt d n = true)
    (h : ∀ v' (oz' : Option Blk) (jk : Mem), OwnS e z v' (l + k) (xs ++ news) oz'.toList → (∀ q ∈ oz.toList, q.b ∈ (oz'.toList ++ jk).map (·.b)) → OpsE P G R ops n K rest ((d, v') :: E) ((i, oz') :: catL L (lab 1000 (fz ++ jk)))) (hLn : R.L = none := by rfl) : OpsE P G R ops n K (⟨some d, .call ⟨.builtin .append, #[x, y], #[T, T]⟩, ty, pos, aft, none⟩ :: rest) E M :=
  fun _ m ha hM => by
    obtain ⟨lr, hp⟩ := hM.perm1 hi
    refine st_append hT hs hby hz hzs (ha.rd hx) (ha.rd hy) hown (fun _ _ => off_none hLn _) hp hsrc (fun q hq => ?_) h1 h63 hbytes fun v' l' ho => ?_
    · rcases hB q hq with h2 | ⟨j, h2, _⟩
      · exact .inl h2
      · exact .inr (hM.has j q h2)
    · obtain ⟨oz', rfl⟩ := own_opt ho
      refine ⟨fun hid => ?_, fun hf => ?_⟩
      · have hM2 := hM.same hi hp hid
        refine h v' oz' [] ho (fun q hq => ?_) _ _ (ha.put hd _) ((?_ : FitsM ((i, oz') :: M) _).sub ?_)
        · rw [List.append_nil, hid]; exact List.mem_map.2 ⟨q, hq, rfl⟩
        · simpa using hM2
        · refine ⟨by simp [lkM_cons], ?_⟩
          rw [List.append_nil]
          exact subL_cat (hL oz') (bag_sub (bag_skip h1i hb))
      · have c0 : FitsM (catL L (lab 1000 (fz ++ oz.toList))) m := by
          have hb2 : Bag fz ((i, none) :: M) := bag_skip h1i hb
          have hM0 : FitsM ((i, none) :: M) m := hM.change i (fun j x _ hx => hM.has j x hx) fun z hz => by cases hz
          refine hM0.bag hb2 (hL none) hs0 (fun _ h => h) (fun x hx => hM.has i x (hi.trans (by simpa using hx))) (by cases oz <;> simp) fun x hx q y _ hy => ?_
          rw [lkM_cons] at hy
          split at hy
          · cases hy
          · rename_i n1
            exact hM.apart q i y x hy (hi.trans (by simpa using hx)) fun e => n1 e.symm
        exact h v' oz' oz.toList ho (fun q hq => List.mem_map.2 ⟨q, List.mem_append_right _ hq, rfl⟩) _ _ (ha.put hd _) (c0.fresh i hp hf)
end
section
variable {P : Program} {G : Mem} {R : Reg} {ops : Array Oper} {n : Nat} {K : Env → Mm → Prop} {rest : List Oper} {E : Env} {M : Mm} {d : Nat} {ty T T' : TypeId} {pos : String} {aft : Array Edge} {x y : Operand}
theorem e_st1Y {b o i N : Nat} {F : Nat → Value} {v : Value} {t : TypeId} (hs : (P.info? T).map (·.size) = some 1) (hx : rd E x = some (.pointer (some ⟨b, o, none⟩))) (hy : rd E y = some v) (hv : v.oneCell' = true)
    (hm : lkM M i = some ⟨b, arrv N F, t⟩) (ho : o < N) (hX : hid R ⟨none, .store T x y, ty, pos, aft, none⟩ b) (h : OpsE P G R ops n K rest E ((i, some ⟨b, arrv N (updv F o v), t⟩) :: M)) (hY : yOk R ⟨none, .store T x y, ty, pos, aft, none⟩ b) : OpsE P G R ops n K (⟨none, .store T x y, ty, pos, aft, none⟩ :: rest) E M :=
  fun _ _ ha hM => by
    obtain ⟨j, hj⟩ := hM.at hm
    exact st_store1Y hs (ha.rd hx) (ha.rd hy) hv hj hX (by rw [arrv_size]; exact ho) (by rw [arrv_set]; exact h _ _ ha (hM.store hm hj _)) hY
theorem e_stVY (k : Nat) {b o i N : Nat} {v : Value} {F : Nat → Value} {ps : List Part} {t : TypeId} (hs : (P.info? T).map (·.size) = some 1) (hx : rd E x = some (.pointer (some ⟨b, o, none⟩))) (hy : rd E y = some v) (hv : v.oneCell' = true)
    (hm : lkM M i = some ⟨b, cells N ps, t⟩) (hk : catAt ps k = some (o, 1, F)) (hN : o < N) (hX : hid R ⟨none, .store T x y, ty, pos, aft, none⟩ b) (h : OpsE P G R ops n K rest E ((i, some ⟨b, cells N (catSet ps k (fun _ => v)), t⟩) :: M)) (hY : yOk R ⟨none, .store T x y, ty, pos, aft, none⟩ b) : OpsE P G R ops n K (⟨none, .store T x y, ty, pos, aft, none⟩ :: rest) E M :=
  e_st1Y hs hx hy hv hm hN hX (by rw [← putv_one, funext (cat_put _ hk)]; exact h) hY
end
section
variable {P : Program} {G : Mem} {n : Nat}
def EndW3 (b : Nat) (t : TypeId) (oa ob : Option Blk) (S : Array Value → Option Blk → Option Blk → Mem → Prop) (fn : Func) : Exit → Env → Mm → Prop
  | .normal, _, M | .ret, _, M => fn.results = #[] ∧ ∃ c' o1 o2 fz, S c' o1 o2 fz ∧ lkM M 0 = some ⟨b, c', t⟩ ∧ lkM M 1 = o1 ∧ lkM M 2 = o2 ∧ Bag fz M ∧ ∀ z ∈ oa.toList ++ ob.toList, z.b ∈ (o1.toList ++ (o2.toList ++ fz)).map (·.b)
  | _, _, _ => False
theorem fxW3 {f : FuncId} {fn : Func} {c : Code} {args : Array Value} {b : Nat} {c0 : Array Value} {t : TypeId} {oa ob : Option Blk} {S : Array Value → Option Blk → Option Blk → Mem → Prop} (hf : P.funcs[f]? = some fn) (hb : fn.body = some c) (hn : fn.ntmps = n) (ha : args.size ≤ n) (E : Env) (hE : ∀ t v, lk E t = some v → args[t]? = some v) (hne : ((⟨b, c0, t⟩ :: (oa.toList ++ ob.toList) : Mem).map (·.b)).Nodup)
    (h : SatE P G c n (EndW3 b t oa ob S fn) E [(2, ob), (1, oa), (0, some ⟨b, c0, t⟩)]) : Fx P G (⟨b, c0, t⟩ :: (oa.toList ++ ob.toList)) f args (Three b t oa ob S) :=
  fx_of hf hb (sat_mono (h _ _ ⟨by simp [hn]; omega, rfl, fun t v ht => by
    have := hE t v ht
    have hlt := (Array.getElem?_eq_some_iff.1 this).1
    rw [Array.getElem?_append_left hlt]; exact this⟩ (by
      rw [List.map_cons, List.nodup_cons, List.map_append, List.nodup_append] at hne
      obtain ⟨h1, _, _, h2⟩ := hne
      have c1 : FitsM [(1, oa), (0, some ⟨b, c0, t⟩)] (⟨b, c0, t⟩ :: oa.toList) := FitsM.two fun z hz => by
        subst hz
        exact fun e => h1 (by rw [show (⟨b, c0, t⟩ : Blk).b = z.b from e.symm]; simp)
      refine (c1.change 2 (m' := ⟨b, c0, t⟩ :: (oa.toList ++ ob.toList)) (fun j x _ hx => ?_) fun z hz => ⟨by subst hz; simp, fun j x _ hx => ?_⟩)
      · rcases List.mem_cons.1 (c1.has j x hx) with h | h
        · exact h ▸ List.mem_cons_self ..
        · exact List.mem_cons_of_mem _ (List.mem_append_left _ h)
      · subst hz
        rcases List.mem_cons.1 (c1.has j x hx) with h | h
        · rw [h]; exact fun e => h1 (by rw [show b = z.b from e]; simp)
        · exact h2 _ (List.mem_map.2 ⟨x, h, rfl⟩) _ (by simp))) fun e' a m ⟨E', M', h1, h0, h2⟩ => by
      have key : (fn.results = #[] ∧ ∃ c' o1 o2 fz, S c' o1 o2 fz ∧ lkM M' 0 = some ⟨b, c', t⟩ ∧ lkM M' 1 = o1 ∧ lkM M' 2 = o2 ∧ Bag fz M' ∧ ∀ z ∈ oa.toList ++ ob.toList, z.b ∈ (o1.toList ++ (o2.toList ++ fz)).map (·.b)) → a.defers = [] ∧ ∃ v l1 nw, Three b t oa ob S v l1 nw ∧ (nw.map (·.b)).Nodup ∧ (∀ x ∈ nw, x.b ∉ (⟨b, c0, t⟩ :: (oa.toList ++ ob.toList) : Mem).map (·.b)) ∧ (∀ x ∈ l1 ++ nw, x ∈ m) ∧ ∀ w, MemIn m w → (results fn a.tmps).run P w = .ok v w := fun ⟨hr, c', o1, o2, fz, hS, k0, k1, k2, hbg, g1⟩ => by
        obtain ⟨A, hA⟩ : ∃ A, A = (⟨b, c', t⟩ :: (o1.toList ++ (o2.toList ++ fz)) : Mem) := ⟨_, rfl⟩
        have hbi := h0.bag_in hbg
        have n3 := nodup3 h0 k0 k1 k2 (by decide) (by decide) (by decide)
        have hin : ∀ x ∈ A, x ∈ m := fun x hx => by
          rw [hA] at hx
          rcases List.mem_cons.1 hx with rfl | hx
          · exact h0.has 0 _ k0
          · rcases List.mem_append.1 hx with hx | hx
            · exact h0.has 1 x (k1.trans (by simpa using hx))
            · rcases List.mem_append.1 hx with hx | hx
              · exact h0.has 2 x (k2.trans (by simpa using hx))
              · exact hbi.2 x hx
        have off : ∀ x ∈ fz, ∀ q y, q < 1000 → lkM M' q = some y → y.b ≠ x.b := fun x hx q y hq hy => by
          obtain ⟨j, hj⟩ := List.getElem?_of_mem hx
          have hj2 : lkM M' (1000 + j) = some x := by rw [hbg _ (by omega), show 1000 + j - 1000 = j by omega]; exact hj
          exact h0.apart q (1000 + j) y x hy hj2 (by omega)
        have hnA : (A.map (·.b)).Nodup := by
          rw [hA, ← List.append_assoc, ← List.cons_append, List.map_append, List.nodup_append]
          refine ⟨n3, hbi.1, fun p hp q hq e => ?_⟩
          obtain ⟨y, hy, rfl⟩ := List.mem_map.1 hp
          obtain ⟨x, hx, rfl⟩ := List.mem_map.1 hq
          rcases List.mem_cons.1 hy with rfl | hy
          · exact off x hx 0 _ (by decide) k0 e
          · rcases List.mem_append.1 hy with hy | hy
            · exact off x hx 1 y (by decide) (k1.trans (by simpa using hy)) e
            · exact off x hx 2 y (by decide) (k2.trans (by simpa using hy)) e
        obtain ⟨l1, nw, hpm, hid⟩ := take_ids (l := (⟨b, c0, t⟩ :: (oa.toList ++ ob.toList) : Mem).map (·.b)) hnA hne fun i hi => by
          rw [hA, List.map_cons]
          rw [List.map_cons] at hi
          rcases List.mem_cons.1 hi with hi | hi
          · exact hi ▸ List.mem_cons_self ..
          · obtain ⟨z, hz, rfl⟩ := List.mem_map.1 hi
            exact List.mem_cons_of_mem _ (g1 z hz)
        have hn2 := (hpm.map (·.b)).nodup_iff.1 hnA
        rw [List.map_append, List.nodup_append] at hn2
        refine ⟨h1.defers, .tuple #[], l1, nw, ⟨rfl, by simpa using hid, c', o1, o2, fz, hA ▸ hpm.symm, hS⟩, hn2.2.1, fun x hx hxl => ?_, fun x hx => hin x (hpm.mem_iff.2 hx), fun w hw => by
          rw [results_eq, hr, mapM0]; rfl⟩
        rw [← hid] at hxl
        exact hn2.2.2 _ hxl _ (List.mem_map.2 ⟨x, hx, rfl⟩) rfl
      cases e' <;> first | exact key h2 | exact h2.elim)
end
end Go.Proofs.YtfldnikepdbgkaaDoor
namespace Go.Proofs.YtfldnikepdbgkaaDoor
open Go Go.RowKit
abbrev atomT (i : Int) : TT := ⟨1, i, 0, []⟩
abbrev pubT (i : Int) : TT := ⟨2, i, 0, []⟩
def agB (hs : TT → Bool) (a b : Int) : Bool := hs (atomT a) && (hs (pubT b) || hs (atomT b))
def TT.canB (hs : TT → Bool) : TT → Bool
  | ⟨k, i, o, l⟩ => hs ⟨k, i, o, l⟩ || (if k = 1 then false else if k = 2 then hs (atomT i) else if k = 3 then agB hs i o || agB hs o i else (l.map fun a => a.canB hs).all fun b => b)
theorem canB_eq (hs : TT → Bool) (t : TT) : t.canB hs = (hs t || (if t.kind = 1 then false else if t.kind = 2 then hs (atomT t.id) else if t.kind = 3 then agB hs t.id t.other || agB hs t.other t.id else (t.args.map fun a => a.canB hs).all fun b => b)) := by cases t; rw [TT.canB]
def agP (S : TT → Prop) (a b : Int) : Prop := S (atomT a) ∧ (S (pubT b) ∨ S (atomT b))
def TT.canP (S : TT → Prop) : TT → Prop
  | ⟨k, i, o, l⟩ => S ⟨k, i, o, l⟩ ∨ (if k = 1 then False else if k = 2 then S (atomT i) else if k = 3 then agP S i o ∨ agP S o i else ∀ a, a ∈ l → a.canP S)
theorem canP_eq {S : TT → Prop} {t : TT} : t.canP S ↔ (S t ∨ (if t.kind = 1 then False else if t.kind = 2 then S (atomT t.id) else if t.kind = 3 then agP S t.id t.other ∨ agP S t.other t.id else ∀ a, a ∈ t.args → a.canP S)) := by cases t; rw [TT.canP]
theorem canP_ways {S : TT → Prop} {t : TT} : t.canP S ↔ (S t ∨ (t.kind = 2 ∧ S (atomT t.id)) ∨ (t.kind = 3 ∧ (agP S t.id t.other ∨ agP S t.other t.id)) ∨ ((t.kind ≠ 1 ∧ t.kind ≠ 2 ∧ t.kind ≠ 3) ∧ ∀ a, a ∈ t.args → a.canP S)) := by
  rw [canP_eq]
  refine or_congr Iff.rfl ?_
  by_cases h1 : t.kind = 1
  · rw [if_pos h1]; simp [h1]
  rw [if_neg h1]
  by_cases h2 : t.kind = 2
  · rw [if_pos h2]; simp [h2]
  rw [if_neg h2]
  by_cases h3 : t.kind = 3
  · rw [if_pos h3]; simp [h3]
  rw [if_neg h3]; simp [h1, h2, h3]
theorem agB_iff {hs : TT → Bool} {S : TT → Prop} (h : ∀ x, hs x = true ↔ S x) (a b : Int) : agB hs a b = true ↔ agP S a b := by
  unfold agB agP; rw [Bool.and_eq_true, Bool.or_eq_true, h, h, h]
theorem canB_iff {hs : TT → Bool} {S : TT → Prop} (h : ∀ x, hs x = true ↔ S x) (t : TT) : t.canB hs = true ↔ t.canP S := by
  refine TT.ind (p := fun t => t.canB hs = true ↔ t.canP S) (fun t ih => ?_) t
  rw [canB_eq, canP_eq, Bool.or_eq_true, h]
  refine or_congr Iff.rfl ?_
  by_cases h1 : t.kind = 1
  · rw [if_pos h1, if_pos h1]; simp
  rw [if_neg h1, if_neg h1]
  by_cases h2 : t.kind = 2
  · rw [if_pos h2, if_pos h2, h]
  rw [if_neg h2, if_neg h2]
  by_cases h3 : t.kind = 3
  · rw [if_pos h3, if_pos h3, Bool.or_eq_true, agB_iff h, agB_iff h]
  rw [if_neg h3, if_neg h3, List.all_eq_true]
  constructor
  · intro g a ha
    exact (ih a ha).1 (g _ (List.mem_map_of_mem ha))
  · intro g b hb
    obtain ⟨a, ha, rfl⟩ := List.mem_map.1 hb
    exact (ih a ha).2 (g a ha)
theorem agP_mono {S S' : TT → Prop} (h : ∀ x, S x → S' x) {a b : Int} (g : agP S a b) : agP S' a b := ⟨h _ g.1, g.2.imp (h _) (h _)⟩
theorem canP_mono {S S' : TT → Prop} (h : ∀ x, S x → S' x) {t : TT} : t.canP S → t.canP S' := by
  refine TT.ind (p := fun t => t.canP S → t.canP S') (fun t ih g => ?_) t
  rw [canP_ways] at g ⊢
  rcases g with g | ⟨e, g⟩ | ⟨e, g⟩ | ⟨e, g⟩
  · exact .inl (h _ g)
  · exact .inr (.inl ⟨e, h _ g⟩)
  · exact .inr (.inr (.inl ⟨e, g.imp (agP_mono h) (agP_mono h)⟩))
  · exact .inr (.inr (.inr ⟨e, fun a ha => ih a ha (g a ha)⟩))
theorem canP_atom {S : TT → Prop} {i : Int} : (atomT i).canP S ↔ S (atomT i) := by
  rw [canP_eq, if_pos rfl]; simp
theorem canP_pub {S : TT → Prop} {i : Int} : (pubT i).canP S ↔ S (pubT i) ∨ S (atomT i) := by
  rw [canP_eq, if_neg (show ¬ (2 : Int) = 1 by decide), if_pos rfl]
def prT (t : TT) : List TT := if t.kind = 4 then t.args else if t.kind = 7 then t.args.drop 2 else []
def keyT (t : TT) : TT := t.args.getD 0 (atomT 0)
theorem prT_in {t x : TT} (h : x ∈ prT t) : x ∈ t.args := by
  unfold prT at h
  split at h
  · exact h
  split at h
  · exact List.mem_of_mem_drop h
  · cases h
def opP (S : TT → Prop) (t : TT) : Prop := t.kind = 7 → (keyT t).canP S
def opB (hs : TT → Bool) (t : TT) : Bool := decide (t.kind ≠ 7) || (keyT t).canB hs
theorem opB_iff {hs : TT → Bool} {S : TT → Prop} (h : ∀ x, hs x = true ↔ S x) (t : TT) : opB hs t = true ↔ opP S t := by
  unfold opB opP
  rw [Bool.or_eq_true, decide_eq_true_eq, canB_iff h]
  by_cases g : t.kind = 7
  · simp [g]
  · simp [g]
theorem opP_mono {S S' : TT → Prop} (h : ∀ x, S x → S' x) {t : TT} (g : opP S t) : opP S' t := fun e => canP_mono h (g e)
def ClosedP (S : TT → Prop) : Prop := ∀ y, S y → opP S y → ∀ x ∈ prT y, S x
def HasP (l : List TT) (x : TT) : Prop := ∀ S : TT → Prop, (∀ y ∈ l, S y) → ClosedP S → S x
theorem has_in {l : List TT} {x : TT} (h : x ∈ l) : HasP l x := fun _ h1 _ => h1 x h
theorem has_closed (l : List TT) : ClosedP (HasP l) := fun y hy ho x hx S h1 h2 => h2 y (hy S h1 h2) (opP_mono (fun _ hz => hz S h1 h2) ho) x hx
def KN (l : List TT) (t : TT) : Prop := t.canP (HasP l)
def cleanT (s : TT) : TT → Prop
  | ⟨k, i, o, l⟩ => (⟨k, i, o, l⟩ : TT) ≠ s ∧ ∀ a, a ∈ l → cleanT s a
def TT.subs : TT → List TT
  | ⟨k, i, o, l⟩ => ⟨k, i, o, l⟩ :: (l.map fun a => a.subs).flatten
theorem subs_eq (t : TT) : t.subs = t :: (t.args.map fun a => a.subs).flatten := by cases t; rw [TT.subs]
def subsL (l : List TT) : List TT := (l.map fun a => a.subs).flatten
theorem subs_len (t : TT) : t.subs.length = t.nodes := by
  refine TT.ind (p := fun t => t.subs.length = t.nodes) (fun t ih => ?_) t
  rw [subs_eq, TT.nodes_eq, List.length_cons, List.length_flatten, List.map_map, Nat.add_comm]
  congr 1
  exact congrArg List.sum (List.map_congr_left fun a ha => ih a ha)
theorem subsL_len (l : List TT) : (subsL l).length = nodesL l := by
  unfold subsL nodesL
  rw [List.length_flatten, List.map_map]
  exact congrArg List.sum (List.map_congr_left fun a _ => subs_len a)
theorem subs_arg {t : TT} : ∀ {y x : TT}, y ∈ t.subs → x ∈ y.args → x ∈ t.subs := by
  refine TT.ind (p := fun t => ∀ {y x : TT}, y ∈ t.subs → x ∈ y.args → x ∈ t.subs) (fun t ih y x hy hx => ?_) t
  rw [subs_eq] at hy ⊢
  rcases List.mem_cons.1 hy with rfl | hy
  · refine List.mem_cons_of_mem _ (List.mem_flatten.2 ⟨x.subs, List.mem_map_of_mem hx, ?_⟩)
    rw [subs_eq]; simp
  · obtain ⟨s, hs, hy⟩ := List.mem_flatten.1 hy
    obtain ⟨a, ha, rfl⟩ := List.mem_map.1 hs
    exact List.mem_cons_of_mem _ (List.mem_flatten.2 ⟨a.subs, List.mem_map_of_mem ha, ih a ha hy hx⟩)
theorem subsL_in {l : List TT} {x : TT} (h : x ∈ l) : x ∈ subsL l := List.mem_flatten.2 ⟨x.subs, List.mem_map_of_mem h, by rw [subs_eq]; simp⟩
theorem subsL_arg {l : List TT} {y x : TT} (hy : y ∈ subsL l) (hx : x ∈ y.args) : x ∈ subsL l := by
  obtain ⟨s, hs, hy⟩ := List.mem_flatten.1 hy
  obtain ⟨a, ha, rfl⟩ := List.mem_map.1 hs
  exact List.mem_flatten.2 ⟨a.subs, List.mem_map_of_mem ha, subs_arg hy hx⟩
theorem nodup_len {l : List TT} : ∀ {m : List TT}, l.Nodup → (∀ x ∈ l, x ∈ m) → l.length ≤ m.length := by
  induction l with
  | nil => intro m _ _; simp
  | cons x l ih =>
    intro m hn hs
    obtain ⟨s, t, rfl⟩ := List.append_of_mem (hs x (by simp))
    have hn2 := List.nodup_cons.1 hn
    have := ih (m := s ++ t) hn2.2 fun y hy => by
      have hy2 := hs y (by simp [hy])
      have hne : y ≠ x := fun e => hn2.1 (e ▸ hy)
      simp only [List.mem_append, List.mem_cons] at hy2 ⊢
      rcases hy2 with h | h | h
      · exact .inl h
      · exact absurd h hne
      · exact .inr h
    simp only [List.length_append, List.length_cons] at this ⊢
    omega
theorem nodes_one (t : TT) : 1 ≤ t.nodes := by rw [TT.nodes_eq]; omega
theorem len_nodes (l : List TT) : l.length ≤ nodesL l := by
  induction l with
  | nil => simp
  | cons x l ih =>
    have := nodes_one x
    simp only [nodesL, List.map_cons, List.sum_cons, List.length_cons] at *
    omega
structure GrowT (l L : List TT) : Prop where
  sound : ∀ x ∈ L, HasP l x
  good : ∀ x ∈ L, x.form = 0
  news : ∃ N, L = l ++ N ∧ N.Nodup ∧ ∀ x ∈ N, x ∈ subsL l
theorem GrowT.base {l L : List TT} (h : GrowT l L) {x : TT} (hx : x ∈ l) : x ∈ L := by
  obtain ⟨N, rfl, _⟩ := h.news; exact List.mem_append_left _ hx
theorem GrowT.subs {l L : List TT} (h : GrowT l L) {x : TT} (hx : x ∈ L) : x ∈ subsL l := by
  obtain ⟨N, rfl, _, hN⟩ := h.news
  rcases List.mem_append.1 hx with hx | hx
  · exact subsL_in hx
  · exact hN x hx
theorem GrowT.len {l L : List TT} (h : GrowT l L) (hl : nodesL l ≤ 300) : L.length ≤ 600 := by
  obtain ⟨N, rfl, hn, hN⟩ := h.news
  have h1 := nodup_len hn hN
  rw [subsL_len] at h1
  have := len_nodes l
  rw [List.length_append]; omega
theorem grow_zero {l : List TT} (h : ∀ x ∈ l, x.form = 0) : GrowT l l := ⟨fun _ hx => has_in hx, h, [], by simp, List.nodup_nil, fun _ hx => by cases hx⟩
theorem form_kind {t : TT} (h : t.form = 0) : t.args.length = wdt t.kind ∧ ∀ a ∈ t.args, a.form = 0 := by
  rw [form_eq] at h
  split at h
  · cases h
  split at h
  · cases h
  · rename_i h1 h2
    refine ⟨Classical.byContradiction fun g => h2 (.inl g), fun a ha => ?_⟩
    refine Classical.byContradiction fun g => ?_
    have key : ∀ l : List Nat, fst1 l = 0 → ∀ x ∈ l, x = 0 := by
      intro l
      induction l with
      | nil => intro _ x hx; cases hx
      | cons y l ih =>
        intro h x hx
        rw [fst1] at h
        split at h
        · rcases List.mem_cons.1 hx with rfl | hx
          · assumption
          · exact ih h x hx
        · rename_i hy; exact absurd h hy
    exact g (key _ h _ (List.mem_map_of_mem ha))
abbrev hsL (L : List TT) (x : TT) : Bool := L.any fun y => x.eqb y
theorem hsL_iff (L : List TT) (x : TT) : hsL L x = true ↔ x ∈ L := by
  rw [List.any_eq_true]
  exact ⟨fun ⟨y, hy, e⟩ => by rw [(eqb_iff _ _).1 e]; exact hy, fun h => ⟨x, h, eqb_self x⟩⟩
theorem GrowT.next {l L : List TT} (h : GrowT l L) {y x : TT} (hy : y ∈ L) (hx : x ∈ prT y) (hn : hsL L x = false) (ho : opB (hsL L) y = true) : GrowT l (L ++ [x]) := by
  have hnx : x ∉ L := fun g => by rw [(hsL_iff L x).2 g] at hn; cases hn
  have ho2 : opP (HasP l) y := opP_mono (fun z hz => h.sound z hz) ((opB_iff (S := fun x => x ∈ L) (hsL_iff L) y).1 ho)
  refine ⟨fun z hz => ?_, fun z hz => ?_, ?_⟩
  · rcases List.mem_append.1 hz with hz | hz
    · exact h.sound z hz
    · rw [List.mem_singleton.1 hz]; exact has_closed l y (h.sound y hy) ho2 x hx
  · rcases List.mem_append.1 hz with hz | hz
    · exact h.good z hz
    · rw [List.mem_singleton.1 hz]; exact (form_kind (h.good y hy)).2 x (prT_in hx)
  · have hxs := subsL_arg (h.subs hy) (prT_in hx)
    obtain ⟨N, rfl, h1, h2⟩ := h.news
    refine ⟨N ++ [x], by simp, ?_, fun z hz => ?_⟩
    · rw [List.nodup_append]
      refine ⟨h1, by simp, fun a ha b hb e => ?_⟩
      rw [List.mem_singleton.1 hb] at e
      exact hnx (List.mem_append_right _ (e ▸ ha))
    · rcases List.mem_append.1 hz with hz | hz
      · exact h2 z hz
      · rw [List.mem_singleton.1 hz]; exact hxs
theorem GrowT.done {l L : List TT} (h : GrowT l L) (hc : ∀ i (hi : i < L.length), ∀ x ∈ prT L[i], opB (hsL L) L[i] = true → x ∈ L) (t : TT) : t.canB (hsL L) = true ↔ KN l t := by
  have hcl : ClosedP (fun x => x ∈ L) := fun y hy ho x hx => by
    obtain ⟨i, hi, rfl⟩ := List.mem_iff_getElem.1 hy
    exact hc i hi x hx ((opB_iff (S := fun x => x ∈ L) (hsL_iff L) _).2 ho)
  have e : ∀ x, hsL L x = true ↔ HasP l x := fun x => (hsL_iff L x).trans ⟨h.sound x, fun g => g (fun x => x ∈ L) (fun y hy => h.base hy) hcl⟩
  exact canB_iff e t
def idxT (x : TT) : List TT → Int
  | [] => -1
  | y :: l => if x.eqb y = true then 0 else if idxT x l < 0 then -1 else idxT x l + 1
theorem idxT_at {x : TT} : ∀ {L : List TT} {i : Nat} (hi : i < L.length), (∀ j (h : j < L.length), j < i → x.eqb L[j] = false) → x.eqb L[i] = true → idxT x L = i
  | y :: l, 0, _, _, h => by rw [idxT, if_pos (show x.eqb y = true from h)]; rfl
  | y :: l, i + 1, hi, h0, h => by
    have e0 : x.eqb y = false := h0 0 (by simp) (by omega)
    have e := idxT_at (x := x) (L := l) (i := i) (by simpa using hi) (fun j hj hji => h0 (j + 1) (by simpa using hj) (by omega)) h
    rw [idxT, e0, e, if_neg (by decide), if_neg (by omega)]; omega
theorem idxT_none {x : TT} : ∀ {L : List TT}, (∀ j (h : j < L.length), x.eqb L[j] = false) → idxT x L = -1
  | [], _ => rfl
  | y :: l, h => by
    have e0 : x.eqb y = false := h 0 (by simp)
    rw [idxT, e0, if_neg (by decide), idxT_none fun j hj => h (j + 1) (by simpa using hj), if_pos (by decide)]
theorem idxT_has (x : TT) : ∀ L : List TT, decide ((0 : Int) ≤ idxT x L) = hsL L x
  | [] => rfl
  | y :: l => by
    have ih := idxT_has x l
    show _ = (x.eqb y || hsL l x)
    rw [idxT]
    cases e : x.eqb y with
    | true => simp
    | false =>
      rw [Bool.false_or, ← ih, if_neg (by decide)]
      by_cases h : idxT x l < 0
      · rw [if_pos h, decide_eq_false (by omega), decide_eq_false (by omega)]
      · rw [if_neg h, decide_eq_true (by omega), decide_eq_true (by omega)]
theorem all_yes {hs : TT → Bool} {l : List TT} (h : ∀ j (h : j < l.length), (l[j]).canB hs = true) : ((l.map fun a => a.canB hs).all fun b => b) = true := by
  rw [List.all_eq_true]
  intro b hb
  obtain ⟨a, ha, rfl⟩ := List.mem_map.1 hb
  obtain ⟨j, hj, rfl⟩ := List.mem_iff_getElem.1 ha
  exact h j hj
theorem all_no {hs : TT → Bool} {l : List TT} {i : Nat} (hi : i < l.length) (h : (l[i]).canB hs = false) : ((l.map fun a => a.canB hs).all fun b => b) = false := by
  cases e : ((l.map fun a => a.canB hs).all fun b => b) with
  | false => rfl
  | true =>
    rw [List.all_eq_true] at e
    have := e _ (List.mem_map_of_mem (List.getElem_mem hi))
    rw [h] at this; cases this
theorem canB_pub (hs : TT → Bool) (b : Int) : (pubT b).canB hs = (hs (pubT b) || hs (atomT b)) := by
  rw [canB_eq, if_neg (show ¬ (2 : Int) = 1 by decide), if_pos rfl]
def prV (t : TT) (c : Value) : Value := if t.kind = 4 then c else if t.kind = 7 then slPart 4 c 2 t.args.length else nilS
def prX (t : TT) (xs : List Value) : List Value := if t.kind = 4 then xs else if t.kind = 7 then xs.drop 8 else []
theorem prT_tl {G : Mem} {t : TT} {c : Value} {xs : List Value} (h : TL G t.args c xs) (h7 : t.kind = 7 → 2 ≤ t.args.length) : TL G (prT t) (prV t c) (prX t xs) := by
  unfold prT prV prX
  by_cases h4 : t.kind = 4
  · rw [if_pos h4, if_pos h4, if_pos h4]; exact h
  · rw [if_neg h4, if_neg h4, if_neg h4]
    by_cases g7 : t.kind = 7
    · rw [if_pos g7, if_pos g7, if_pos g7]; exact h.drop2 (h7 g7)
    · rw [if_neg g7, if_neg g7, if_neg g7]; exact tl_nil
theorem first_ways {G : Mem} {t : TT} {c : Value} {xs : List Value} (h : TL G t.args c xs) (h7 : t.kind = 7 → t.args.length = 3) : (t.kind = 7 ∧ t.args.length = 3 ∧ ∃ c1 ys1, (xs.drop (0 * 4)).take 4 = [iv (keyT t).kind, iv (keyT t).id, iv (keyT t).other, c1] ∧ TL G (keyT t).args c1 ys1) ∨ t.kind ≠ 7 := by
  by_cases k7 : t.kind = 7
  · left
    have h3 := h7 k7
    obtain ⟨c1, ys1, h1, h2⟩ := h.at (show 0 < t.args.length by omega)
    have e : t.args[0]'(by omega) = keyT t := by
      unfold keyT
      rw [List.getD_eq_getElem?_getD, List.getElem?_eq_getElem (show 0 < t.args.length by omega), Option.getD_some]
    rw [e] at h1 h2
    exact ⟨k7, h3, c1, ys1, h1, h2⟩
  · exact .inr k7
theorem wdt_seven {t : TT} (h : t.form = 0) : t.kind = 7 → t.args.length = 3 := fun e => by
  rw [(form_kind h).1, e]; rfl
theorem TO.at {G : Mem} {L : List TT} {xs : List Value} (h : TO G L xs) {j : Nat} (hj : j < L.length) : ∃ c' ys, (xs.drop (j * 4)).take 4 = [iv L[j].kind, iv L[j].id, iv L[j].other, c'] ∧ TL G L[j].args c' ys := by
  obtain ⟨c', ys, e, hl⟩ := TV_iff.1 (h.2 j hj)
  refine ⟨c', ys, ?_, hl⟩
  have := congrArg (fun v => match v with | .agg a => a.toList | _ => []) e
  simpa using this
def Shut (L0 L : List TT) (i : Nat) : Prop := L = L0 → ∀ p (hp : p < L.length), p < i → ∀ x ∈ prT L[p], opB (hsL L) L[p] = true → x ∈ L
def ShutP (L0 L : List TT) (y : TT) (j : Nat) : Prop := L = L0 → ∀ p (hp : p < (prT y).length), p < j → opB (hsL L) y = true → (prT y)[p] ∈ L
def Pre (L0 L : List TT) : Prop := ∃ s, L = L0 ++ s
theorem Pre.refl (L : List TT) : Pre L L := ⟨[], by simp⟩
theorem Pre.app {L0 L : List TT} (h : Pre L0 L) (x : TT) : Pre L0 (L ++ [x]) := by
  obtain ⟨s, rfl⟩ := h; exact ⟨s ++ [x], by simp⟩
theorem Pre.trans {L0 L1 L2 : List TT} (h : Pre L0 L1) (g : Pre L1 L2) : Pre L0 L2 := by
  obtain ⟨s, rfl⟩ := h; obtain ⟨s', rfl⟩ := g; exact ⟨s ++ s', by simp⟩
theorem Pre.len {L0 L : List TT} (h : Pre L0 L) : L0.length ≤ L.length := by obtain ⟨s, rfl⟩ := h; simp
theorem Pre.eq {L0 L : List TT} (h : Pre L0 L) (hl : L.length ≤ L0.length) : L = L0 := by
  obtain ⟨s, rfl⟩ := h
  have : s = [] := List.length_eq_zero_iff.1 (by rw [List.length_append] at hl; omega)
  subst this; simp
theorem Pre.at {L0 L : List TT} (h : Pre L0 L) {i : Nat} (hi : i < L0.length) : ∃ hj : i < L.length, L[i] = L0[i] := by
  obtain ⟨s, rfl⟩ := h
  exact ⟨by rw [List.length_append]; omega, List.getElem_append_left hi⟩
theorem shut_zero {L0 L : List TT} : Shut L0 L 0 := fun _ _ _ h => absurd h (Nat.not_lt_zero _)
theorem shutP_zero {L0 L : List TT} {y : TT} : ShutP L0 L y 0 := fun _ _ _ h => absurd h (Nat.not_lt_zero _)
theorem shut_next {L0 L1 L2 : List TT} {i n : Nat} {y : TT} (hi : i < L1.length) (hy : y = L1[i]) (h1 : Pre L0 L1) (h2 : Pre L1 L2) (h5 : Shut L0 L1 i) (he : ShutP L0 L2 y n) (hn : n = (prT y).length) : Shut L0 L2 (i + 1) := by
  intro e p hp hpi x hx ho
  have e1 : L1 = L0 := h1.eq (by have := h2.len; rw [e] at this; exact this)
  have e2 : L2 = L1 := e.trans e1.symm
  subst e2
  by_cases hpi2 : p < i
  · exact h5 e1 p hp hpi2 x hx ho
  · have : p = i := by omega
    subst this
    rw [← hy] at hx ho
    obtain ⟨q, hq, rfl⟩ := List.mem_iff_getElem.1 hx
    exact he e q hq (by omega) ho
theorem shutP_next {L0 L : List TT} {j : Nat} {y x : TT} (hj : j < (prT y).length) (hx : x = (prT y)[j]) (h : (!(hsL L x) && opB (hsL L) y) = false) (he : ShutP L0 L y j) : ShutP L0 L y (j + 1) := by
  intro e p hp hpj ho
  by_cases hpj2 : p < j
  · exact he e p hp hpj2 ho
  · have : p = j := by omega
    subst this
    rw [ho, Bool.and_true] at h
    rw [← hx]
    exact (hsL_iff L x).1 (by simpa using h)
theorem shutP_more {L0 L : List TT} {j : Nat} {y x : TT} (h : Pre L0 L) : ShutP L0 (L ++ [x]) y j := fun e => by
  have := h.len
  have h2 := congrArg List.length e
  rw [List.length_append, List.length_singleton] at h2
  omega
theorem GrowT.fin {l L0 L : List TT} (h : GrowT l L) (h1 : Pre L0 L) (hl : L.length ≤ L0.length) (hs : Shut L0 L L.length) {t : TT} {b : Bool} (hb : b = true ↔ KN l t) : t.canB (hsL L) = b := by
  have e := h1.eq hl
  exact Bool.eq_iff_iff.2 ((h.done (fun i hi x hx ho => hs e i hi hi x hx ho) t).trans hb.symm)
end Go.Proofs.YtfldnikepdbgkaaDoor
namespace Go.Proofs.YtfldnikepdbgkaaDoor
open Go Go.RowKit
structure GoodT (t : TT) (used n : Nat) : Prop where
  form : t.form = 0
  nodes : t.nodes ≤ 3 * used + 1
  deep : t.deep ≤ n + 1
  clean : cleanT (atomT 99) t
structure GoodL (l : List TT) (used n : Nat) : Prop where
  form : ∀ t ∈ l, t.form = 0
  nodes : nodesL l ≤ 3 * used + l.length
  deep : ∀ t ∈ l, t.deep ≤ n + 1
  clean : ∀ t ∈ l, cleanT (atomT 99) t
theorem fst1_all {l : List TT} (h : ∀ t ∈ l, t.form = 0) : formL l = 0 := formL_none fun _ hj => h _ (List.getElem_mem hj)
theorem fits_of {l : List TT} (h1 : nodesL l ≤ 300) (h2 : ∀ t ∈ l, t.deep ≤ 40) : fitsL l = true := by
  unfold fitsL
  rw [decide_eq_true h1, decide_eq_true (deepL_le.2 h2)]; rfl
theorem chk_of {t : TT} (h0 : t.form = 0) (h1 : t.nodes ≤ 300) (h2 : t.deep ≤ 40) : chkT t = 0 := by
  unfold chkT
  rw [if_pos (fits_of (by simpa [nodesL] using h1) (by simpa using h2)), h0]
theorem fits_nodes {l : List TT} (h : fitsL l = true) : nodesL l ≤ 300 := by
  unfold fitsL at h
  simp only [Bool.and_eq_true, decide_eq_true_eq] at h
  exact h.1
theorem freshM_app {m n1 n2 : Mem} (h1 : FreshM m n1) (h2 : FreshM (m ++ n1) n2) : FreshM m (n1 ++ n2) := by
  refine ⟨?_, fun x hx y hy => ?_⟩
  · rw [List.map_append, List.nodup_append]
    refine ⟨h1.1, h2.1, fun a ha b hb e => ?_⟩
    obtain ⟨x, hx, rfl⟩ := List.mem_map.1 ha
    obtain ⟨y, hy, rfl⟩ := List.mem_map.1 hb
    exact h2.2 y hy x (List.mem_append_right _ hx) e
  · rcases List.mem_append.1 hx with hx | hx
    · exact h1.2 x hx y hy
    · exact h2.2 x hx y (List.mem_append_left _ hy)
theorem to_room {l : List TT} : (∀ t ∈ l, ∀ m : Mem, ∃ c ys nw, TL nw t.args c ys ∧ FreshM m nw) → ∀ m : Mem, ∃ xs nw, TO nw l xs ∧ FreshM m nw := by
  induction l with
  | nil => exact fun _ m => ⟨[], [], TO.nil, by simp [FreshM]⟩
  | cons t l ih =>
    intro h m
    obtain ⟨c, ys, n1, h1, f1⟩ := h t (by simp) m
    obtain ⟨xs, n2, h2, f2⟩ := ih (fun x hx => h x (by simp [hx])) (m ++ n1)
    exact ⟨(tC t c).toList ++ xs, n1 ++ n2, TO.app (L := [t]) ((to_one h1).mono fun _ hx => List.mem_append_left _ hx) (h2.mono fun _ hx => List.mem_append_right _ hx), freshM_app f1 f2⟩
theorem tl_room {l : List TT} (e : TypeId) (hl : l.length ≤ maxLen) (h : ∀ t ∈ l, ∀ m : Mem, ∃ c ys nw, TL nw t.args c ys ∧ FreshM m nw) (m : Mem) : ∃ c ys nw, TL nw l c ys ∧ FreshM m nw := by
  cases l with
  | nil => exact ⟨nilS, [], [], tl_nil, by simp [FreshM]⟩
  | cons t l =>
    obtain ⟨xs, nw, h1, f1⟩ := to_room h m
    obtain ⟨r, hr⟩ := fresh_of (m ++ nw)
    refine ⟨.slice (some ⟨r, 0, none⟩) (t :: l).length (t :: l).length, xs, [⟨r, xs.toArray, e⟩] ++ nw, ?_, ?_⟩
    · refine TO.tl (e := e) (l := [⟨r, xs.toArray, e⟩]) h1 (.inr ⟨r, _, xs.toArray, rfl, rfl, Nat.le_refl _, hl, by simpa using h1.1, h1.1, ?_⟩) hl
      have := h1.1
      rw [← this]; simp
    · refine ⟨?_, fun x hx y hy => ?_⟩
      · rw [List.map_append, List.nodup_append]
        refine ⟨by simp, f1.1, fun a ha b hb e => ?_⟩
        obtain ⟨y, hy, rfl⟩ := List.mem_map.1 hb
        have ha : a = r := by simpa using ha
        exact hr y (List.mem_append_right _ hy) (e.symm.trans ha)
      · rcases List.mem_append.1 hx with hx | hx
        · simp at hx; subst hx; exact hr y (List.mem_append_left _ hy)
        · exact f1.2 x hx y hy
theorem form_room (e : TypeId) (t : TT) : t.form = 0 → ∀ m : Mem, ∃ c ys nw, TL nw t.args c ys ∧ FreshM m nw := by
  refine TT.ind (p := fun t => t.form = 0 → ∀ m : Mem, ∃ c ys nw, TL nw t.args c ys ∧ FreshM m nw) (fun t ih h m => ?_) t
  have hk := form_kind h
  exact tl_room e (by rw [hk.1]; unfold wdt maxLen; repeat' split
                      all_goals omega) (fun a ha => ih a ha (hk.2 a ha)) m
section
variable {G nw : Mem} {f kk : Nat} {rs : List RawT} {v : Value}
end
theorem nodesL_app (l m : List TT) : nodesL (l ++ m) = nodesL l + nodesL m := by
  unfold nodesL; rw [List.map_append, List.sum_append]
theorem atom_form {i : Int} (h : 0 ≤ i) : (atomT i).form = 0 := by
  rw [form_eq, if_neg (show ¬ ((1 : Int) < 1 ∨ (7 : Int) < 1) by decide), if_neg (by simp [wdt, numB]; omega)]; rfl
theorem atom_chk {i : Int} (h : 0 ≤ i) : chkT (atomT i) = 0 := chk_of (atom_form h) (by rw [TT.nodes_eq]; simp [nodesL]) (by rw [TT.deep_eq]; simp [deepL, mx])
theorem cons_of {α : Type} {l : List α} {n : Nat} (h : l.length = n + 1) : ∃ a t, l = a :: t ∧ t.length = n := by
  cases l with
  | nil => simp at h
  | cons a t => exact ⟨a, t, rfl, by simpa using h⟩
theorem eight {Z : Array Value} (hZ : Z.size = 8) : ∃ a b c d e f g h, Z = #[a, b, c, d, e, f, g, h] := by
  obtain ⟨l0⟩ := Z
  have h0 : l0.length = 8 := hZ
  obtain ⟨a, l1, rfl, h1⟩ := cons_of h0
  obtain ⟨b, l2, rfl, h2⟩ := cons_of h1
  obtain ⟨c, l3, rfl, h3⟩ := cons_of h2
  obtain ⟨d, l4, rfl, h4⟩ := cons_of h3
  obtain ⟨e, l5, rfl, h5⟩ := cons_of h4
  obtain ⟨f, l6, rfl, h6⟩ := cons_of h5
  obtain ⟨g, l7, rfl, h7⟩ := cons_of h6
  obtain ⟨h, l8, rfl, h8⟩ := cons_of h7
  obtain rfl : l8 = [] := List.length_eq_zero_iff.1 h8
  exact ⟨a, b, c, d, e, f, g, h, rfl⟩
theorem twelve {Z : Array Value} (hZ : Z.size = 12) : ∃ a b c d e f g h i1 j1 k1 m1, Z = #[a, b, c, d, e, f, g, h, i1, j1, k1, m1] := by
  obtain ⟨l0⟩ := Z
  have h0 : l0.length = 12 := hZ
  obtain ⟨a, l1, rfl, h1⟩ := cons_of h0
  obtain ⟨b, l2, rfl, h2⟩ := cons_of h1
  obtain ⟨c, l3, rfl, h3⟩ := cons_of h2
  obtain ⟨d, l4, rfl, h4⟩ := cons_of h3
  obtain ⟨e, l5, rfl, h5⟩ := cons_of h4
  obtain ⟨f, l6, rfl, h6⟩ := cons_of h5
  obtain ⟨g, l7, rfl, h7⟩ := cons_of h6
  obtain ⟨h, l8, rfl, h8⟩ := cons_of h7
  obtain ⟨i1, l9, rfl, h9⟩ := cons_of h8
  obtain ⟨j1, l10, rfl, h10⟩ := cons_of h9
  obtain ⟨k1, l11, rfl, h11⟩ := cons_of h10
  obtain ⟨m1, l12, rfl, h12⟩ := cons_of h11
  obtain rfl : l12 = [] := List.length_eq_zero_iff.1 h12
  exact ⟨a, b, c, d, e, f, g, h, i1, j1, k1, m1, rfl⟩
theorem fill_tC2 {Z : Array Value} (hZ : Z.size = 8) {t u : TT} {c c2 : Value} : Instr.fill (fun i => some (i * 4, 4)) Z [(0, .agg (tC t c)), (1, .agg (tC u c2))] = some ((tC t c).toList ++ (tC u c2).toList).toArray := by
  obtain ⟨a, b, c, d, e, f, g, h, rfl⟩ := eight hZ
  kernel_rfl
theorem fill_tC3 {Z : Array Value} (hZ : Z.size = 12) {t u s : TT} {c c2 c3 : Value} : Instr.fill (fun i => some (i * 4, 4)) Z [(0, .agg (tC t c)), (1, .agg (tC u c2)), (2, .agg (tC s c3))] = some ((tC t c).toList ++ (tC u c2).toList ++ (tC s c3).toList).toArray := by
  obtain ⟨a, b, c, d, e, f, g, h, i, j, k, l, rfl⟩ := twelve hZ
  kernel_rfl
theorem tl_blk {G : Mem} {l : List TT} {xs : List Value} {r : Nat} {ty : TypeId} {n : Nat} (h : TO G l xs) (hn : l.length = n) (hm : (⟨r, xs.toArray, ty⟩ : Blk) ∈ G) (hl : n ≤ 1000) : TL G l (.slice (some ⟨r, 0, none⟩) n n) xs := by
  subst hn
  refine ⟨by simp only [maxLen]; omega, .inr ⟨r, 0, l.length, _, ty, rfl, Nat.le_refl _, hm, h.1, by have := h.1; simp; omega, fun j u hu => by rw [Nat.zero_add]; simpa using hu⟩, h.2⟩
end Go.Proofs.YtfldnikepdbgkaaDoor
namespace Go.Proofs.YtfldnikepdbgkaaDoor
open Go Go.RowKit
abbrev kdfT (w : Int) (a b : TT) : TT := ⟨6, w, 0, [a, b]⟩
abbrev lockT (k b t : TT) : TT := ⟨7, 0, 0, [k, b, t]⟩
def chainM (l : List TT) : TT := l.foldl (fun c t => kdfT 1 c t) (atomT 0)
def keyM (l : List TT) : TT := kdfT 2 (chainM l.dropLast) (l.getLastD (atomT 0))
def agF (k : Int) : Nat := if k = 3 ∨ k = 4 then 3 else 1
def agO (k : Int) : Nat := if k = 3 ∨ k = 5 then 4 else 2
def agT (k : Int) : TT := ⟨3, ((min (agF k) (agO k) : Nat) : Int), ((max (agF k) (agO k) : Nat) : Int), []⟩
structure WS where
  told : List TT
  mixed : List TT
  used : Nat
def WS.mix (s : WS) (t : TT) : WS := ⟨s.told, s.mixed ++ [t], s.used⟩
def WS.show (sec : Bool) (s : WS) (t : TT) : WS := ⟨s.told ++ [t], if sec then s.mixed ++ [t] else s.mixed, s.used⟩
def lockedT (s : WS) (t : TT) : TT := if 0 < s.mixed.length then lockT (keyM s.mixed) (atomT ((100 + s.told.length : Nat) : Int)) t else t
def WS.tell (s : WS) (t : TT) : WS := ⟨s.told ++ [lockedT s t], s.mixed, s.used⟩
def WS.say (sec : Bool) (side : Nat) (s : WS) (k : Int) : WS :=
  if k = 1 then s.show sec (pubT ((3 + side : Nat) : Int)) else if k = 2 then s.tell (pubT ((1 + side : Nat) : Int))
  else if k = 7 then ⟨s.told, s.mixed ++ [atomT ((10 + s.used : Nat) : Int)], s.used + 1⟩ else s.mix (agT k)
def WS.turn (sec : Bool) (side : Nat) (s : WS) (l : List Int) : WS := l.foldl (fun s k => s.say sec side k) s
def WS.upTo (sec late : Bool) (s : WS) (ts : List (List Int)) : Nat → WS
  | 0 => s
  | i + 1 => ((WS.upTo sec late s ts i).turn sec (whoT late i) (ts.getD i [])).tell (atomT ((20 + i : Nat) : Int))
def earlyT (p0 p1 : List Int) : List TT := (if 1 ∈ p0 then [pubT 3] else []) ++ (if 1 ∈ p1 then [pubT 4] else [])
def toldW (late : Bool) (np : Nat) (p0 p1 : List Int) (ts : List (List Int)) : WS :=
  WS.upTo (decide (0 < np)) late ⟨[], if 0 < np then earlyT p0 p1 else [], 0⟩ ts ts.length
structure WS.Good (s : WS) (n : Nat) : Prop where
  told : ∀ t ∈ s.told, t.form = 0
  mixed : ∀ t ∈ s.mixed, t.form = 0
  tlen : s.told.length ≤ n
  mlen : s.mixed.length ≤ n
  ulen : s.used ≤ n
theorem form_at {i : Int} (h : 0 ≤ i) : (atomT i).form = 0 := by
  rw [form_eq, if_neg (show ¬ ((1 : Int) < 1 ∨ (7 : Int) < 1) by decide), if_neg (by simp [wdt, numB]; omega)]; rfl
theorem form_pu {i : Int} (h : 0 ≤ i) : (pubT i).form = 0 := by
  rw [form_eq, if_neg (show ¬ ((2 : Int) < 1 ∨ (7 : Int) < 2) by decide), if_neg (by simp [wdt, numB]; omega)]; rfl
theorem form_ag (k : Int) : (agT k).form = 0 := by
  unfold agT
  rw [form_eq, if_neg (show ¬ ((3 : Int) < 1 ∨ (7 : Int) < 3) by decide), if_neg (by simp [wdt, numB]; omega)]; rfl
theorem form_kdf {w : Int} (hw : 0 ≤ w) {a b : TT} (ha : a.form = 0) (hb : b.form = 0) : (kdfT w a b).form = 0 := by
  rw [form_eq, if_neg (show ¬ ((6 : Int) < 1 ∨ (7 : Int) < 6) by decide), if_neg (by simp [wdt, numB]; omega)]
  exact fst1_all fun x hx => by
    rcases List.mem_cons.1 hx with rfl | hx
    · exact ha
    · rw [List.mem_singleton.1 hx]; exact hb
theorem form_lock {a b c : TT} (ha : a.form = 0) (hb : b.form = 0) (hc : c.form = 0) : (lockT a b c).form = 0 := by
  rw [form_eq, if_neg (show ¬ ((7 : Int) < 1 ∨ (7 : Int) < 7) by decide), if_neg (by simp [wdt, numB])]
  exact fst1_all fun x hx => by
    simp only [List.mem_cons, List.not_mem_nil, or_false] at hx
    rcases hx with rfl | rfl | rfl
    · exact ha
    · exact hb
    · exact hc
theorem form_chain {l : List TT} (h : ∀ t ∈ l, t.form = 0) : (chainM l).form = 0 := by
  have key : ∀ (l : List TT) (c : TT), c.form = 0 → (∀ t ∈ l, t.form = 0) → (l.foldl (fun c t => kdfT 1 c t) c).form = 0 := by
    intro l
    induction l with
    | nil => intro c hc _; exact hc
    | cons x l ih => intro c hc h; exact ih _ (form_kdf (by decide) hc (h x (by simp))) fun t ht => h t (by simp [ht])
  exact key l _ (form_at (by decide)) h
theorem form_keyM {l : List TT} (h : ∀ t ∈ l, t.form = 0) : (keyM l).form = 0 := by
  refine form_kdf (by decide) (form_chain fun t ht => h t (List.dropLast_subset l ht)) ?_
  cases l with
  | nil => exact form_at (by decide)
  | cons x l => rw [List.getLastD_cons]; exact h _ List.getLastD_mem_cons
theorem chain_snoc (l : List TT) (t : TT) : chainM (l ++ [t]) = kdfT 1 (chainM l) t := by unfold chainM; rw [List.foldl_append]; rfl
theorem form_locked {s : WS} {n : Nat} (hs : s.Good n) {t : TT} (ht : t.form = 0) : (lockedT s t).form = 0 := by
  unfold lockedT
  split
  · exact form_lock (form_keyM hs.mixed) (form_at (by omega)) ht
  · exact ht
theorem all_snoc {p : TT → Prop} {l : List TT} {t : TT} (h : ∀ x ∈ l, p x) (ht : p t) : ∀ x ∈ l ++ [t], p x := fun x hx => by
  rcases List.mem_append.1 hx with hx | hx
  · exact h x hx
  · rw [List.mem_singleton.1 hx]; exact ht
theorem WS.Good.mix {s : WS} {n : Nat} (hs : s.Good n) {t : TT} (ht : t.form = 0) : (s.mix t).Good (n + 1) :=
  ⟨hs.told, all_snoc hs.mixed ht, Nat.le_succ_of_le hs.tlen, by have := hs.mlen; simp only [WS.mix, List.length_append, List.length_singleton]; omega, Nat.le_succ_of_le hs.ulen⟩
theorem WS.Good.show {s : WS} {n : Nat} (hs : s.Good n) (sec : Bool) {t : TT} (ht : t.form = 0) : (s.show sec t).Good (n + 1) := by
  refine ⟨all_snoc hs.told ht, ?_, by have := hs.tlen; simp only [WS.show, List.length_append, List.length_singleton]; omega, ?_, Nat.le_succ_of_le hs.ulen⟩
  · unfold WS.show; cases sec
    · exact hs.mixed
    · exact all_snoc hs.mixed ht
  · have := hs.mlen
    unfold WS.show; cases sec
    · simp only [Bool.false_eq_true, if_false]; omega
    · simp only [if_true, List.length_append, List.length_singleton]; omega
theorem WS.Good.tell {s : WS} {n : Nat} (hs : s.Good n) {t : TT} (ht : t.form = 0) : (s.tell t).Good (n + 1) :=
  ⟨all_snoc hs.told (form_locked hs ht), hs.mixed, by have := hs.tlen; simp only [WS.tell, List.length_append, List.length_singleton]; omega, Nat.le_succ_of_le hs.mlen, Nat.le_succ_of_le hs.ulen⟩
theorem WS.Good.say {s : WS} {n : Nat} (hs : s.Good n) (sec : Bool) (side : Nat) (k : Int) : (s.say sec side k).Good (n + 1) := by
  unfold WS.say
  split
  · exact hs.show sec (form_pu (by omega))
  split
  · exact hs.tell (form_pu (by omega))
  split
  · have := hs.mlen
    have hu := hs.ulen
    exact ⟨hs.told, all_snoc hs.mixed (form_at (by omega)), Nat.le_succ_of_le hs.tlen, by simp only [List.length_append, List.length_singleton]; omega, by simp only; omega⟩
  · exact hs.mix (form_ag k)
theorem WS.Good.up {s : WS} {n m : Nat} (hs : s.Good n) (h : n ≤ m) : s.Good m := ⟨hs.told, hs.mixed, Nat.le_trans hs.tlen h, Nat.le_trans hs.mlen h, Nat.le_trans hs.ulen h⟩
theorem WS.Good.turn {sec : Bool} {side : Nat} : ∀ (l : List Int) {s : WS} {n : Nat}, s.Good n → (s.turn sec side l).Good (n + l.length)
  | [], _, _, hs => hs
  | k :: l, _, _, hs => by
    have := WS.Good.turn (sec := sec) (side := side) l (hs.say sec side k)
    rw [List.length_cons, Nat.add_comm l.length, ← Nat.add_assoc]
    exact this
theorem turn_snoc (sec : Bool) (side : Nat) (s : WS) (l : List Int) (k : Int) : s.turn sec side (l ++ [k]) = (s.turn sec side l).say sec side k := by unfold WS.turn; rw [List.foldl_append]; rfl
theorem turn_next (sec : Bool) (side : Nat) (s : WS) {l : List Int} {j : Nat} (h : j < l.length) : s.turn sec side (l.take (j + 1)) = (s.turn sec side (l.take j)).say sec side (l.getD j 0) := by
  rw [List.take_succ_eq_append_getElem h, turn_snoc, List.getD_eq_getElem?_getD, List.getElem?_eq_getElem h]; rfl
theorem WS.Good.upTo {sec late : Bool} {s : WS} {n : Nat} {ts : List (List Int)} (hs : s.Good n) (h6 : ∀ i, i < ts.length → (ts.getD i []).length ≤ 6) : ∀ i, i ≤ ts.length → (WS.upTo sec late s ts i).Good (n + 7 * i)
  | 0, _ => hs
  | i + 1, h => by
    have h1 := (WS.Good.upTo hs h6 (sec := sec) (late := late) i (by omega)).turn (sec := sec) (side := whoT late i) (ts.getD i [])
    have h2 := h6 i (by omega)
    exact (h1.tell (form_at (by omega))).up (by omega)
def TermD (G : Mem) (t : TT) (v : Value) (nw : Mem) : Prop := ∃ c ys, v = .agg (tC t c) ∧ TL (nw ++ G) t.args c ys
theorem termD_room (e : TypeId) (G : Mem) {t : TT} (h : t.form = 0) (m : Mem) : ∃ v nw, TermD G t v nw ∧ FreshM m nw := by
  obtain ⟨c, ys, nw, h1, h2⟩ := form_room e t h m
  exact ⟨_, nw, ⟨c, ys, rfl, h1.mono fun x hx => List.mem_append_left _ hx⟩, h2⟩
abbrev wC (sec : Bool) (v1 v2 : Value) (used : Nat) : Array Value := cells 4 [pV (.bool sec), pV v1, pV v2, pV (ii used)]
def WireIs (e : TypeId) (G : Mem) (sec : Bool) (s : WS) (c : Array Value) (o1 o2 : Option Blk) : Prop :=
  ∃ v1 v2 xs1 xs2, c = wC sec v1 v2 s.used ∧ OwnS e 4 v1 s.told.length xs1 o1.toList ∧ TO G s.told xs1 ∧ OwnS e 4 v2 s.mixed.length xs2 o2.toList ∧ TO G s.mixed xs2
theorem own_room {e : TypeId} {G : Mem} {l : List TT} (hl : l.length ≤ maxLen) (h : ∀ t ∈ l, t.form = 0) (m : Mem) : ∃ v xs r nf, OwnS e 4 v l.length xs [⟨r, xs.toArray, e⟩] ∧ TO (nf ++ G) l xs ∧ FreshM m (⟨r, xs.toArray, e⟩ :: nf) := by
  obtain ⟨xs, nf, h1, f1⟩ := to_room (fun t ht => form_room e t (h t ht)) m
  obtain ⟨r, hr⟩ := fresh_of (m ++ nf)
  have hx := h1.1
  refine ⟨.slice (some ⟨r, 0, none⟩) l.length l.length, xs, r, nf, .inr ⟨r, l.length, xs.toArray, rfl, rfl, Nat.le_refl _, hl, by simpa using hx, hx, by rw [← hx]; simp⟩, h1.mono fun x hx => List.mem_append_left _ hx, ?_, fun x hx y hy => ?_⟩
  · rw [List.map_cons, List.nodup_cons]
    refine ⟨fun hb => ?_, f1.1⟩
    obtain ⟨y, hy, e1⟩ := List.mem_map.1 hb
    exact hr y (List.mem_append_right _ hy) e1
  · rcases List.mem_cons.1 hx with rfl | hx
    · exact hr y (List.mem_append_left _ hy)
    · exact f1.2 x hx y hy
theorem wire_room (e : TypeId) (G J : Mem) (sec : Bool) {s : WS} {n : Nat} (hs : s.Good n) (hn : n ≤ maxLen) (m : Mem) : ∃ c' o1 o2 nf, WireIs e ((J ++ nf) ++ G) sec s c' o1 o2 ∧ FreshM m (o1.toList ++ (o2.toList ++ nf)) := by
  obtain ⟨v1, xs1, r1, n1, h1, t1, f1⟩ := own_room (e := e) (G := []) (Nat.le_trans hs.tlen hn) hs.told m
  obtain ⟨v2, xs2, r2, n2, h2, t2, f2⟩ := own_room (e := e) (G := []) (Nat.le_trans hs.mlen hn) hs.mixed (m ++ (⟨r1, xs1.toArray, e⟩ :: n1))
  refine ⟨wC sec v1 v2 s.used, some ⟨r1, xs1.toArray, e⟩, some ⟨r2, xs2.toArray, e⟩, n1 ++ n2, ⟨v1, v2, xs1, xs2, rfl, h1, t1.mono fun x hx => ?_, h2, t2.mono fun x hx => ?_⟩, ?_⟩
  · simp only [List.append_nil] at hx; simp [hx]
  · simp only [List.append_nil] at hx; simp [hx]
  have f3 := freshM_app f1 f2
  have hp : List.Perm ((⟨r1, xs1.toArray, e⟩ :: n1) ++ (⟨r2, xs2.toArray, e⟩ :: n2)) ((some (⟨r1, xs1.toArray, e⟩ : Blk)).toList ++ ((some (⟨r2, xs2.toArray, e⟩ : Blk)).toList ++ (n1 ++ n2))) := by
    show List.Perm (⟨r1, xs1.toArray, e⟩ :: (n1 ++ (⟨r2, xs2.toArray, e⟩ :: n2))) (⟨r1, xs1.toArray, e⟩ :: (⟨r2, xs2.toArray, e⟩ :: (n1 ++ n2)))
    exact List.perm_middle.cons _
  exact ⟨(hp.map _).nodup_iff.1 f3.1, fun x hx => f3.2 x (hp.mem_iff.2 hx)⟩
theorem wire_zero {e : TypeId} {G : Mem} (sec : Bool) : WireIs e G sec ⟨[], [], 0⟩ (wC sec nilS nilS 0) none none := ⟨nilS, nilS, [], [], rfl, own_nil _ _, TO.nil, own_nil _ _, TO.nil⟩
theorem say_e {sec : Bool} {side : Nat} {s : WS} {k : Int} (h : k = 1) : s.say sec side k = s.show sec (pubT ((3 + side : Nat) : Int)) := if_pos h
theorem say_s {sec : Bool} {side : Nat} {s : WS} {k : Int} (h1 : k ≠ 1) (h : k = 2) : s.say sec side k = s.tell (pubT ((1 + side : Nat) : Int)) := (if_neg h1).trans (if_pos h)
theorem say_p {sec : Bool} {side : Nat} {s : WS} {k : Int} (h1 : k ≠ 1) (h2 : k ≠ 2) (h : k = 7) : s.say sec side k = ⟨s.told, s.mixed ++ [atomT ((10 + s.used : Nat) : Int)], s.used + 1⟩ := (if_neg h1).trans ((if_neg h2).trans (if_pos h))
theorem say_m {sec : Bool} {side : Nat} {s : WS} {k : Int} (h1 : k ≠ 1) (h2 : k ≠ 2) (h : k ≠ 7) : s.say sec side k = s.mix (agT k) := (if_neg h1).trans ((if_neg h2).trans (if_neg h))
def earlyU (p0 p1 : List Int) (i : Nat) : List TT := (if 0 < i ∧ 1 ∈ p0 then [pubT 3] else []) ++ (if 1 < i ∧ 1 ∈ p1 then [pubT 4] else [])
def pq (p0 p1 : List Int) (i : Nat) : List Int := if i = 0 then p0 else p1
theorem early_yes {p0 p1 : List Int} {i : Nat} (hi : i < 2) (h : decide (1 ∈ pq p0 p1 i) = true) : earlyU p0 p1 (i + 1) = earlyU p0 p1 i ++ [pubT ((3 + i : Nat) : Int)] := by
  have h := of_decide_eq_true h
  have : i = 0 ∨ i = 1 := by omega
  rcases this with rfl | rfl
  · have h : 1 ∈ p0 := h
    simp [earlyU, h]
  · have h : 1 ∈ p1 := h
    simp [earlyU, h]
theorem early_no {p0 p1 : List Int} {i : Nat} (hi : i < 2) (h : decide (1 ∈ pq p0 p1 i) = false) : earlyU p0 p1 (i + 1) = earlyU p0 p1 i := by
  have h := of_decide_eq_false h
  have : i = 0 ∨ i = 1 := by omega
  rcases this with rfl | rfl
  · have h : 1 ∉ p0 := h
    simp [earlyU, h]
  · have h : 1 ∉ p1 := h
    simp [earlyU, h]
theorem early_all (p0 p1 : List Int) : earlyU p0 p1 2 = earlyT p0 p1 := by simp [earlyU, earlyT]
theorem early_len (p0 p1 : List Int) (i : Nat) : (earlyU p0 p1 i).length ≤ 2 := by
  unfold earlyU
  rw [List.length_append]
  split <;> split <;> simp
theorem early_in {p0 p1 : List Int} {i : Nat} {t : TT} (h : t ∈ earlyU p0 p1 i) : t = pubT 3 ∨ t = pubT 4 := by
  unfold earlyU at h
  rcases List.mem_append.1 h with h | h
  · split at h
    · exact .inl (List.mem_singleton.1 h)
    · cases h
  · split at h
    · exact .inr (List.mem_singleton.1 h)
    · cases h
def lfC (l : List TT) : List Value := l.flatMap fun t => (tC t nilS).toList
theorem lfC_snoc (l : List TT) (t : TT) : lfC (l ++ [t]) = lfC l ++ (tC t nilS).toList := by unfold lfC; rw [List.flatMap_append]; simp
theorem lf_to {G : Mem} : ∀ (l : List TT), (∀ t ∈ l, t.args = []) → TO G l (lfC l)
  | [], _ => TO.nil
  | t :: l, h => by
    have h1 : TL G t.args nilS [] := by rw [h t (by simp)]; exact tl_nil
    have := (to_one h1).app (lf_to (G := G) l fun x hx => h x (by simp [hx]))
    exact this
def idxI (p : Int → Bool) : List Int → Int
  | [] => -1
  | y :: l => if p y = true then 0 else if idxI p l < 0 then -1 else idxI p l + 1
theorem idxI_at {p : Int → Bool} : ∀ {L : List Int} {i : Nat}, i < L.length → (∀ j, j < i → p (L.getD j 0) = false) → p (L.getD i 0) = true → idxI p L = i
  | y :: l, 0, _, _, h => by rw [idxI, if_pos (show p y = true from h)]; rfl
  | y :: l, i + 1, hi, h0, h => by
    have e0 : p y = false := h0 0 (by omega)
    have e := idxI_at (p := p) (L := l) (i := i) (by simpa using hi) (fun j hji => h0 (j + 1) (by omega)) h
    rw [idxI, e0, e, if_neg (by decide), if_neg (by omega)]; omega
theorem idxI_none {p : Int → Bool} : ∀ {L : List Int}, (∀ j, j < L.length → p (L.getD j 0) = false) → idxI p L = -1
  | [], _ => rfl
  | y :: l, h => by
    have e0 : p y = false := h 0 (by simp)
    rw [idxI, e0, if_neg (by decide), idxI_none fun j hj => h (j + 1) (by simpa using hj), if_pos (by decide)]
theorem idxI_has (p : Int → Bool) : ∀ L : List Int, decide ((0 : Int) ≤ idxI p L) = L.any p
  | [] => rfl
  | y :: l => by
    have ih := idxI_has p l
    rw [List.any_cons, ← ih, idxI]
    cases e : p y with
    | true => simp
    | false =>
      rw [Bool.false_or, if_neg (by decide)]
      by_cases h : idxI p l < 0
      · rw [if_pos h, decide_eq_false (by omega), decide_eq_false (by omega)]
      · rw [if_neg h, decide_eq_true (by omega), decide_eq_true (by omega)]
theorem any_mem (l : List Int) (k : Int) : (l.any fun x => decide (k = x)) = decide (k ∈ l) := by
  induction l with
  | nil => simp
  | cons y l ih => rw [List.any_cons, ih]; by_cases h : k = y <;> simp [h]
theorem early_args (p0 p1 : List Int) : ∀ t ∈ earlyT p0 p1, t.args = [] := fun t ht => by
  rw [← early_all] at ht
  rcases early_in ht with rfl | rfl <;> rfl
theorem atoms_next {l : List Int} {i : Nat} (h : i < l.length) : (l.take (i + 1)).map atomT = (l.take i).map atomT ++ [atomT (l.getD i 0)] := by
  rw [List.take_succ_eq_append_getElem h, List.map_append, List.getD_eq_getElem?_getD, List.getElem?_eq_getElem h]; rfl
theorem good_zero (n : Nat) : WS.Good ⟨[], [], 0⟩ n := ⟨(fun _ h => by cases h), (fun _ h => by cases h), Nat.zero_le _, Nat.zero_le _, Nat.zero_le _⟩
theorem good_early (p0 p1 : List Int) : WS.Good ⟨[], earlyT p0 p1, 0⟩ 2 := ⟨(fun _ h => by cases h), (fun t ht => by
  rw [← early_all] at ht
  rcases early_in ht with rfl | rfl <;> exact form_pu (by decide)), Nat.zero_le _, by have := early_len p0 p1 2; rw [early_all] at this; exact this, Nat.zero_le _⟩
theorem in2 {a b : Mem} : ∀ z ∈ a ++ b, z ∈ b ++ a := fun z hz => by
  simp only [List.mem_append] at hz ⊢
  exact hz.symm
theorem WireIs.mono {e : TypeId} {G G' : Mem} {sec : Bool} {s : WS} {c : Array Value} {o1 o2 : Option Blk} (h : WireIs e G sec s c o1 o2) (hs : ∀ x ∈ G, x ∈ G') : WireIs e G' sec s c o1 o2 := by
  obtain ⟨v1, v2, xs1, xs2, h0, h1, h2, h3, h4⟩ := h
  exact ⟨v1, v2, xs1, xs2, h0, h1, h2.mono hs, h3, h4.mono hs⟩
theorem own_ids {e : TypeId} {z k k' : Nat} {v : Value} {xs xs' : List Value} {l l' : Mem} (h : OwnS e z v k xs l) (h' : OwnS e z v k' xs' l') : l.map (·.b) = l'.map (·.b) := by
  rcases h with ⟨rfl, _, _, rfl⟩ | ⟨r, cap, c, rfl, rfl, _⟩
  · rcases h' with ⟨_, _, _, rfl⟩ | ⟨_, _, _, h, _⟩
    · rfl
    · cases h
  · rcases h' with ⟨h, _, _, rfl⟩ | ⟨r', cap', c', h, rfl, _⟩
    · cases h
    · cases h; rfl
theorem ids_2 {oa ob o2 jk : Mem} (h : ∀ z ∈ ob, z.b ∈ (o2 ++ jk).map (·.b)) : ∀ z ∈ oa ++ ob, z.b ∈ (oa ++ (o2 ++ jk)).map (·.b) := fun z hz => by
  rw [List.map_append]
  rcases List.mem_append.1 hz with hz | hz
  · exact List.mem_append_left _ (List.mem_map.2 ⟨z, hz, rfl⟩)
  · exact List.mem_append_right _ (h z hz)
theorem ids_1 {oa ob o1 jk : Mem} (h : ∀ z ∈ oa, z.b ∈ (o1 ++ jk).map (·.b)) : ∀ z ∈ oa ++ ob, z.b ∈ (o1 ++ (ob ++ jk)).map (·.b) := fun z hz => by
  rcases List.mem_append.1 hz with hz | hz
  · obtain ⟨y, hy, e⟩ := List.mem_map.1 (h z hz)
    refine List.mem_map.2 ⟨y, ?_, e⟩
    rcases List.mem_append.1 hy with hy | hy
    · exact List.mem_append_left _ hy
    · exact List.mem_append_right _ (List.mem_append_right _ hy)
  · exact List.mem_map.2 ⟨z, List.mem_append_right _ (List.mem_append_left _ hz), rfl⟩
theorem ids_then {oa ob o1 o2 p1 p2 f1 f2 : Mem} (h1 : ∀ z ∈ oa ++ ob, z.b ∈ (o1 ++ (o2 ++ f1)).map (·.b)) (h2 : ∀ z ∈ o1 ++ o2, z.b ∈ (p1 ++ (p2 ++ f2)).map (·.b)) : ∀ z ∈ oa ++ ob, z.b ∈ (p1 ++ (p2 ++ (f1 ++ f2))).map (·.b) := fun z hz => by
  obtain ⟨y, hy, e⟩ := List.mem_map.1 (h1 z hz)
  have key : ∀ q : Blk, q ∈ p1 ++ (p2 ++ f2) ∨ q ∈ f1 → q ∈ p1 ++ (p2 ++ (f1 ++ f2)) := fun q hq => by
    simp only [List.mem_append] at hq ⊢
    rcases hq with (h | h | h) | h
    · exact .inl h
    · exact .inr (.inl h)
    · exact .inr (.inr (.inr h))
    · exact .inr (.inr (.inl h))
  have hy2 : y ∈ o1 ++ o2 ∨ y ∈ f1 := by
    simp only [List.mem_append] at hy ⊢
    rcases hy with h | h | h
    · exact .inl (.inl h)
    · exact .inl (.inr h)
    · exact .inr h
  rcases hy2 with hy2 | hy2
  · obtain ⟨q, hq, e2⟩ := List.mem_map.1 (h2 y hy2)
    exact List.mem_map.2 ⟨q, key q (.inl hq), e2.trans e⟩
  · exact List.mem_map.2 ⟨y, key y (.inr hy2), e⟩
theorem ids_own {e : TypeId} {z k k' : Nat} {v : Value} {xs xs' : List Value} {o o2 ob jk : Mem} (ho : OwnS e z v k xs o) (ho2 : OwnS e z v k' xs' o2) (h : ∀ z ∈ ob, z.b ∈ (o ++ jk).map (·.b)) : ∀ z ∈ ob, z.b ∈ (o2 ++ jk).map (·.b) := by
  rw [List.map_append, ← own_ids ho ho2, ← List.map_append]; exact h
theorem ids_jk {ob o jk p : Mem} (h : ∀ z ∈ ob, z.b ∈ (o ++ jk).map (·.b)) : ∀ z ∈ ob, z.b ∈ (o ++ (p ++ jk)).map (·.b) := fun z hz => by
  obtain ⟨y, hy, e⟩ := List.mem_map.1 (h z hz)
  refine List.mem_map.2 ⟨y, ?_, e⟩
  rcases List.mem_append.1 hy with h | h <;> simp [h]
theorem own_blkS {e : TypeId} {z n r : Nat} {c : Array Value} (h : c.size = n * z) (hn : n ≤ 1000) : OwnS e z (.slice (some ⟨r, 0, none⟩) n n) n c.toList [⟨r, c, e⟩] :=
  .inr ⟨r, n, c, rfl, rfl, Nat.le_refl _, by simp only [maxLen]; omega, h, by simpa using h, by rw [← h, ← Array.length_toList, List.take_length]⟩
theorem own_cut0 {e : TypeId} {z n : Nat} {v : Value} {xs : List Value} {l : Mem} (h : OwnS e z v n xs l) : OwnS e z (slPart z v 0 0) 0 [] l := by
  rcases h with ⟨rfl, _, _, rfl⟩ | ⟨r, cap, c, rfl, rfl, _, h4, h5, _⟩
  · exact .inl ⟨rfl, rfl, rfl, rfl⟩
  · refine .inr ⟨r, cap, c, ?_, rfl, Nat.zero_le _, h4, h5, by simp, by simp⟩
    simp [slPart]
def uptoL (ls : List (List TT)) (i : Nat) : List TT := (ls.take i).flatten
def uptoC (cx : Nat → List Value) (i : Nat) : List Value := ((List.range i).map cx).flatten
theorem uptoL_next {ls : List (List TT)} {i : Nat} (h : i < ls.length) : uptoL ls (i + 1) = uptoL ls i ++ ls.getD i [] := by
  unfold uptoL
  rw [List.take_add_one, List.getD_eq_getElem?_getD, List.getElem?_eq_getElem h, List.flatten_append]; simp
theorem uptoC_next (cx : Nat → List Value) (i : Nat) : uptoC cx (i + 1) = uptoC cx i ++ cx i := by
  unfold uptoC; rw [List.range_succ, List.map_append, List.flatten_append]; simp
theorem uptoL_le (ls : List (List TT)) : ∀ i, (uptoL ls i).length ≤ ls.flatten.length := fun i => by
  unfold uptoL
  have : ls.flatten = (ls.take i).flatten ++ (ls.drop i).flatten := by rw [← List.flatten_append, List.take_append_drop]
  rw [this, List.length_append]; omega
theorem uptoL_all (ls : List (List TT)) : uptoL ls ls.length = ls.flatten := by unfold uptoL; rw [List.take_length]
theorem to_upto {G : Mem} {ls : List (List TT)} {cx : Nat → List Value} : ∀ i, i ≤ ls.length → (∀ j, j < i → TO G (ls.getD j []) (cx j)) → TO G (uptoL ls i) (uptoC cx i)
  | 0, _, _ => TO.nil
  | i + 1, h, hL => by
    rw [uptoL_next (by omega), uptoC_next]
    exact (to_upto i (by omega) fun j hj => hL j (by omega)).app (hL i (by omega))
theorem vq_show {G : Mem} {v0 v1 : Value} {vs : List Value} {p0 p1 : List Int} {ts : List (List Int)} (h : ShowsLI G (v0 :: v1 :: vs) (p0 :: p1 :: ts)) : ∀ a, a < 2 → Shows G 1 (vq v0 v1 a) (pq p0 p1 a).length ((pq p0 p1 a).map iv) := fun a ha => by
  have : a = 0 ∨ a = 1 := by omega
  rcases this with rfl | rfl
  · exact h.2 0 (by simp)
  · exact h.2 1 (by simp)
theorem pf_sizes {late : Bool} {p0 p1 : List Int} {ts : List (List Int)} (h : pfault late p0 p1 ts = 0) : (1 ≤ ts.length ∧ ts.length ≤ 5) ∧ (p0.length ≤ 6 ∧ p1.length ≤ 6) ∧ ∀ i, i < ts.length → (ts.getD i []).length ≤ 6 := by
  unfold pfault at h
  by_cases h0 : ts.length = 0 ∨ 5 < ts.length
  · rw [if_pos h0] at h; cases h
  rw [if_neg h0] at h
  by_cases h1 : first1 (p0 :: p1 :: ts) = 0
  · have hz := first1_zero h1
    refine ⟨by omega, ⟨(hz p0 (by simp)).1, (hz p1 (by simp)).1⟩, fun i hi => ?_⟩
    refine (hz _ (List.mem_cons_of_mem _ (List.mem_cons_of_mem _ ?_))).1
    rw [List.getD_eq_getElem?_getD, List.getElem?_eq_getElem hi]
    exact List.getElem_mem hi
  · rw [if_neg h1] at h; exact absurd h h1
theorem TO.take {G : Mem} {l : List TT} {xs : List Value} (h : TO G l xs) (k : Nat) (hk : k ≤ l.length) : TO G (l.take k) (xs.take (k * 4)) := by
  refine ⟨by rw [List.length_take, List.length_take, h.1]; omega, fun j hj => ?_⟩
  have hj2 : j < k ∧ j < l.length := by rw [List.length_take] at hj; omega
  have e : ((xs.take (k * 4)).drop (j * 4)).take 4 = (xs.drop (j * 4)).take 4 := by
    rw [List.drop_take, List.take_take]; congr 1; omega
  rw [e, List.getElem_take]; exact h.2 j hj2.2
theorem show_take {B : Mem} {z n k : Nat} {v : Value} {xs : List Value} (h : Shows B z v n xs) (hk : k ≤ n) : Shows B z (slPart z v 0 k) k (xs.take (k * z)) := by
  have := h.part (i := 0) (j := k) (Nat.zero_le _) hk
  simpa using this
theorem keyM_at {l : List TT} (h : 0 < l.length) : keyM l = kdfT 2 (chainM (l.take (l.length - 1))) (l[l.length - 1]'(by omega)) := by
  unfold keyM
  have e : l.getLastD (atomT 0) = l[l.length - 1]'(by omega) := by
    rw [List.getLastD_eq_getLast?, List.getLast?_eq_getElem?, List.getElem?_eq_getElem (show l.length - 1 < l.length by omega)]; rfl
  rw [e, List.dropLast_eq_take]
theorem in3 {a b c : Mem} : ∀ z ∈ a ++ (b ++ c), z ∈ (b ++ a) ++ c := fun z hz => by
  simp only [List.mem_append] at hz ⊢
  rcases hz with h | h | h <;> simp [h]
theorem key_end {l q : List TT} {i : Nat} (h : 0 < l.length) (hq : q = l.take (l.length - 1)) (hi : i = l.length - 1) : keyM l = kdfT 2 (chainM (q.take i)) (l[l.length - 1]'(by omega)) := by
  rw [keyM_at h, hq, hi, List.take_take, Nat.min_self]
theorem chain_next {l : List TT} {i : Nat} (h : i < l.length) : chainM (l.take (i + 1)) = kdfT 1 (chainM (l.take i)) l[i] := by
  rw [List.take_succ_eq_append_getElem h, chain_snoc]
theorem toldW_good {late : Bool} {np : Nat} {p0 p1 : List Int} {ts : List (List Int)} (h5 : ts.length ≤ 5) (h6 : ∀ i, i < ts.length → (ts.getD i []).length ≤ 6) : (toldW late np p0 p1 ts).Good 37 := by
  have h0 : WS.Good ⟨[], if 0 < np then earlyT p0 p1 else [], 0⟩ 2 := by
    by_cases h : 0 < np
    · rw [if_pos h]; exact good_early p0 p1
    · rw [if_neg h]; exact good_zero 2
  exact (h0.upTo h6 ts.length (Nat.le_refl _)).up (by omega)
def ToldD (late : Bool) (np : Nat) (p0 p1 : List Int) (ts : List (List Int)) (v : Value) (nw : Mem) : Prop := ∃ w xs, v = .tuple #[w, ii 0] ∧ TL nw (toldW late np p0 p1 ts).told w xs
theorem told_room (e : TypeId) {late : Bool} {np : Nat} {p0 p1 : List Int} {ts : List (List Int)} (h5 : ts.length ≤ 5) (h6 : ∀ i, i < ts.length → (ts.getD i []).length ≤ 6) (m : Mem) : ∃ v nw, (∃ xs, TL nw (toldW late np p0 p1 ts).told v xs) ∧ FreshM m nw := by
  have hg := toldW_good (late := late) (np := np) (p0 := p0) (p1 := p1) h5 h6
  obtain ⟨c, ys, nw, h1, h2⟩ := tl_room e (l := (toldW late np p0 p1 ts).told) (by have := hg.tlen; simp only [maxLen]; omega) (fun t ht => form_room e t (hg.told t ht)) m
  exact ⟨c, nw, ⟨ys, h1⟩, h2⟩
theorem toldD_room (e : TypeId) {late : Bool} {np : Nat} {p0 p1 : List Int} {ts : List (List Int)} (h5 : ts.length ≤ 5) (h6 : ∀ i, i < ts.length → (ts.getD i []).length ≤ 6) (m : Mem) : ∃ v nw, ToldD late np p0 p1 ts v nw ∧ FreshM m nw := by
  obtain ⟨v, nw, ⟨xs, h1⟩, h2⟩ := told_room e h5 h6 m
  exact ⟨_, nw, ⟨v, xs, rfl, h1⟩, h2⟩
abbrev pubsT (p0 p1 : List Int) : List TT := [atomT 0, pubT 1, pubT 2] ++ earlyT p0 p1
abbrev hidL (late : Bool) (np : Nat) (p0 p1 : List Int) (ts : List (List Int)) (zs : List Int) : List (List TT) := [(toldW late np p0 p1 ts).told, pubsT p0 p1, zs.map atomT]
theorem pubs_args (p0 p1 : List Int) : ∀ t ∈ pubsT p0 p1, t.args = [] := fun t ht => by
  rcases List.mem_append.1 ht with h | h
  · simp only [List.mem_cons, List.not_mem_nil, or_false] at h
    rcases h with rfl | rfl | rfl <;> rfl
  · exact early_args p0 p1 t h
theorem atoms_args (zs : List Int) : ∀ t ∈ zs.map atomT, t.args = [] := fun t ht => by
  obtain ⟨z, _, rfl⟩ := List.mem_map.1 ht; rfl
theorem hid_forms {late : Bool} {np : Nat} {p0 p1 : List Int} {ts : List (List Int)} {zs : List Int} (h5 : ts.length ≤ 5) (h6 : ∀ i, i < ts.length → (ts.getD i []).length ≤ 6) (hz : ∀ z ∈ zs, 0 ≤ z) : ∀ t ∈ (hidL late np p0 p1 ts zs).flatten, t.form = 0 := fun t ht => by
  simp only [hidL, List.flatten_cons, List.flatten_nil, List.append_nil, List.mem_append] at ht
  rcases ht with h | (h | h) | h
  · exact (toldW_good h5 h6).told t h
  · simp only [List.mem_cons, List.not_mem_nil, or_false] at h
    rcases h with rfl | rfl | rfl
    · exact form_at (by decide)
    · exact form_pu (by decide)
    · exact form_pu (by decide)
  · rw [← early_all] at h
    rcases early_in h with rfl | rfl <;> exact form_pu (by decide)
  · obtain ⟨z, h1, rfl⟩ := List.mem_map.1 h
    exact form_at (hz z h1)
theorem hid_lists {B : Mem} {e : TypeId} {late : Bool} {np : Nat} {p0 p1 : List Int} {ts : List (List Int)} {zs : List Int} {w vp va : Value} {xs : List Value} {op oa : Option Blk} (h1 : TL B (toldW late np p0 p1 ts).told w xs) (h2 : OwnS e 4 vp (pubsT p0 p1).length (lfC (pubsT p0 p1)) op.toList) (h3 : OwnS e 4 va (zs.map atomT).length (lfC (zs.map atomT)) oa.toList) (hop : ∀ x ∈ op.toList, x ∈ B) (hoa : ∀ x ∈ oa.toList, x ∈ B) (hz : zs.length ≤ 1000) :
    ∀ i, i < (hidL late np p0 p1 ts zs).length → TL B ((hidL late np p0 p1 ts zs).getD i []) ([w, vp, va].getD i undef) ((fun i => if i = 0 then xs else if i = 1 then lfC (pubsT p0 p1) else lfC (zs.map atomT)) i) := fun i hi => by
  have hl : (pubsT p0 p1).length ≤ 5 := by have := early_len p0 p1 2; rw [early_all] at this; simp only [pubsT, List.length_append, List.length_cons, List.length_nil]; omega
  match i, hi with
  | 0, _ => exact h1
  | 1, _ => exact (TO.tl (lf_to (G := []) _ (pubs_args p0 p1)) h2 (by simp only [maxLen]; omega)).mono fun x hx => hop x (by simpa using hx)
  | 2, _ => exact (TO.tl (lf_to (G := []) _ (atoms_args zs)) h3 (by rw [List.length_map]; simp only [maxLen]; omega)).mono fun x hx => hoa x (by simpa using hx)
  | i + 3, hi => exact absurd hi (by simp [hidL])
theorem any_neg {zs : List Int} (h : ∀ z ∈ zs, 0 ≤ z) : zs.any (fun x => decide (x < 0)) = false := by
  rw [List.any_eq_false]
  intro z hz
  have := h z hz
  rw [decide_eq_false (by omega)]; decide
theorem hid_to {B : Mem} {late : Bool} {np : Nat} {p0 p1 : List Int} {ts : List (List Int)} {zs : List Int} {w : Value} {xs : List Value} (h1 : TL B (toldW late np p0 p1 ts).told w xs) : TO B (hidL late np p0 p1 ts zs).flatten (uptoC (fun i => if i = 0 then xs else if i = 1 then lfC (pubsT p0 p1) else lfC (zs.map atomT)) (hidL late np p0 p1 ts zs).length) := by
  rw [← uptoL_all]
  refine to_upto _ (Nat.le_refl _) fun j hj => ?_
  match j, hj with
  | 0, _ => exact h1.to
  | 1, _ => exact lf_to _ (pubs_args p0 p1)
  | 2, _ => exact lf_to _ (atoms_args zs)
  | j + 3, hj => exact absurd hj (by simp [hidL])
theorem upTo_step {e : TypeId} {G : Mem} {sec late : Bool} {s : WS} {ts : List (List Int)} {i j : Nat} {c : Array Value} {o1 o2 : Option Blk} (hz : j = (ts.getD i []).length) (h : WireIs e G sec (((WS.upTo sec late s ts i).turn sec (whoT late i) ((ts.getD i []).take j)).tell (atomT ((20 + i : Nat) : Int))) c o1 o2) : WireIs e G sec (WS.upTo sec late s ts (i + 1)) c o1 o2 := by
  rw [hz, List.take_length] at h; exact h
theorem tW_end {e : TypeId} {fz : Mem} {late : Bool} {np : Nat} {p0 p1 : List Int} {ts : List (List Int)} {i : Nat} {w1 : Value} {z1 : List Value} {oa : Option Blk} (hi : i = ts.length) (g1 : OwnS e 4 w1 (WS.upTo (decide (0 < np)) late ⟨[], if 0 < np then earlyT p0 p1 else [], 0⟩ ts i).told.length z1 oa.toList)
    (g2 : TO fz (WS.upTo (decide (0 < np)) late ⟨[], if 0 < np then earlyT p0 p1 else [], 0⟩ ts i).told z1) (hl : (WS.upTo (decide (0 < np)) late ⟨[], if 0 < np then earlyT p0 p1 else [], 0⟩ ts i).told.length ≤ maxLen) : ∃ xs, TL (fz ++ oa.toList) (toldW late np p0 p1 ts).told w1 xs := by
  subst hi; exact ⟨z1, (TO.tl g2 g1 hl).mono in2⟩
theorem dec_pos (n : Nat) : decide ((0 : Int) < (n : Int)) = decide (0 < n) := by
  by_cases h : 0 < n
  · rw [decide_eq_true h, decide_eq_true (by omega)]
  · rw [decide_eq_false h, decide_eq_false (by omega)]
end Go.Proofs.YtfldnikepdbgkaaDoor
namespace Go.Proofs.YtfldnikepdbgkaaDoor
open Go Go.RowKit
def Dk (zs : List Int) (m : TT) : Prop := (∃ j, m = pubT j) ∨ (m.kind = 3 ∧ (m.id ∈ zs ∨ m.other ∈ zs)) ∨ ∃ z ∈ zs, m = atomT z
def MixEl (m : TT) : Prop := (m = pubT 3 ∨ m = pubT 4) ∨ (∃ k, m = agT k) ∨ ∃ j : Nat, j < 10 ∧ m = atomT ((10 + j : Nat) : Int)
def lkdT (M : List TT) (n : Int) (p : TT) : TT := if 0 < M.length then lockT (keyM M) (atomT n) p else p
def TellEl (mx : Nat → List TT) (t : Nat) (x : TT) : Prop := (∃ j, x = pubT j) ∨ (∃ M n j, x = lkdT M n (pubT j)) ∨ ∃ i n, i < t ∧ x = lkdT (mx i) n (atomT ((20 + i : Nat) : Int))
theorem agF_ways (k : Int) : agF k = 3 ∨ agF k = 1 := by unfold agF; split <;> simp
theorem agO_ways (k : Int) : agO k = 4 ∨ agO k = 2 := by unfold agO; split <;> simp
theorem ag_ids (k : Int) : (agT k).kind = 3 ∧ (1 ≤ (agT k).id ∧ (agT k).id ≤ 4) ∧ (1 ≤ (agT k).other ∧ (agT k).other ≤ 4) ∧ ∀ zs : List Int, ((agT k).id ∈ zs ∨ (agT k).other ∈ zs) ↔ ((agF k : Int) ∈ zs ∨ (agO k : Int) ∈ zs) := by
  unfold agT
  rcases agF_ways k with e | e <;> rcases agO_ways k with f | f <;> rw [e, f] <;> refine ⟨rfl, by decide, by decide, fun zs => ?_⟩
  · exact Iff.rfl
  · exact or_comm
  · exact Iff.rfl
  · exact Iff.rfl
def MaxS (zs : List Int) (mx : Nat → List TT) (t : Nat) (x : TT) : Prop :=
  (∃ j, x = pubT j) ∨ x = atomT 0 ∨ (∃ z ∈ zs, x = atomT z) ∨ (∃ M n p, x = lockT (keyM M) (atomT n) p ∧ ((∃ j, p = pubT j) ∨ ∃ i, i < t ∧ M = mx i ∧ p = atomT ((20 + i : Nat) : Int))) ∨ ∃ i, i < t ∧ x = atomT ((20 + i : Nat) : Int) ∧ ∀ m ∈ mx i, Dk zs m
theorem max_atom {zs : List Int} {mx : Nat → List TT} {t : Nat} {a : Int} (h : MaxS zs mx t (atomT a)) : a = 0 ∨ a ∈ zs ∨ ∃ i : Nat, i < t ∧ a = ((20 + i : Nat) : Int) ∧ ∀ m ∈ mx i, Dk zs m := by
  rcases h with ⟨j, e⟩ | e | ⟨z, hz, e⟩ | ⟨M, n, p, e, _⟩ | ⟨i, hi, e, hd⟩
  · exact absurd (congrArg TT.kind e) (show ¬ (1 : Int) = 2 by decide)
  · exact .inl (congrArg TT.id e)
  · exact .inr (.inl ((show a = z from congrArg TT.id e) ▸ hz))
  · exact absurd (congrArg TT.kind e) (show ¬ (1 : Int) = 7 by decide)
  · exact .inr (.inr ⟨i, hi, congrArg TT.id e, hd⟩)
theorem max_kind {zs : List Int} {mx : Nat → List TT} {t : Nat} {x : TT} (h : MaxS zs mx t x) : x.kind = 1 ∨ x.kind = 2 ∨ x.kind = 7 := by
  rcases h with ⟨j, rfl⟩ | rfl | ⟨z, _, rfl⟩ | ⟨M, n, p, rfl, _⟩ | ⟨i, _, rfl, _⟩
  · exact .inr (.inl rfl)
  · exact .inl rfl
  · exact .inl rfl
  · exact .inr (.inr rfl)
  · exact .inl rfl
theorem can_kdf {S : TT → Prop} {w : Int} {a b : TT} (hS : ∀ x, S x → x.kind = 1 ∨ x.kind = 2 ∨ x.kind = 7) (h : (kdfT w a b).canP S) : a.canP S ∧ b.canP S := by
  rw [canP_ways] at h
  rcases h with h | ⟨e, _⟩ | ⟨e, _⟩ | ⟨_, h⟩
  · rcases hS _ h with e | e | e
    · exact absurd e (show ¬ (6 : Int) = 1 by decide)
    · exact absurd e (show ¬ (6 : Int) = 2 by decide)
    · exact absurd e (show ¬ (6 : Int) = 7 by decide)
  · exact absurd e (show ¬ (6 : Int) = 2 by decide)
  · exact absurd e (show ¬ (6 : Int) = 3 by decide)
  · exact ⟨h a (by simp), h b (by simp)⟩
theorem snoc_of {l : List TT} (h : l ≠ []) : ∃ q t, l = q ++ [t] := ⟨l.dropLast, l.getLast h, (List.dropLast_concat_getLast h).symm⟩
theorem can_chain {S : TT → Prop} (hS : ∀ x, S x → x.kind = 1 ∨ x.kind = 2 ∨ x.kind = 7) : ∀ (n : Nat) (l : List TT), l.length = n → (chainM l).canP S → ∀ m ∈ l, m.canP S := by
  intro n
  induction n with
  | zero => intro l hl _ m hm; rw [List.length_eq_zero_iff.1 hl] at hm; cases hm
  | succ n ih =>
    intro l hl h m hm
    obtain ⟨q, t, rfl⟩ : ∃ q t, l = q ++ [t] := snoc_of (by intro e; rw [e] at hl; cases hl)
    rw [chain_snoc] at h
    obtain ⟨h1, h2⟩ := can_kdf hS h
    rcases List.mem_append.1 hm with hm | hm
    · exact ih q (by simpa using hl) h1 m hm
    · rw [List.mem_singleton.1 hm]; exact h2
theorem key_snoc (q : List TT) (t : TT) : keyM (q ++ [t]) = kdfT 2 (chainM q) t := by unfold keyM; rw [List.dropLast_concat]; simp
theorem can_key {S : TT → Prop} (hS : ∀ x, S x → x.kind = 1 ∨ x.kind = 2 ∨ x.kind = 7) {l : List TT} (h : (keyM l).canP S) : ∀ m ∈ l, m.canP S := by
  intro m hm
  obtain ⟨q, t, rfl⟩ : ∃ q t, l = q ++ [t] := snoc_of (List.ne_nil_of_mem hm)
  rw [key_snoc] at h
  obtain ⟨h1, h2⟩ := can_kdf hS h
  rcases List.mem_append.1 hm with hm | hm
  · exact can_chain hS q.length q rfl h1 m hm
  · rw [List.mem_singleton.1 hm]; exact h2
theorem key_can {S : TT → Prop} (h0 : (atomT 0).canP S) : ∀ (n : Nat) (l : List TT), l.length = n → (∀ m ∈ l, m.canP S) → (chainM l).canP S := by
  intro n
  induction n with
  | zero => intro l hl _; rw [List.length_eq_zero_iff.1 hl]; exact h0
  | succ n ih =>
    intro l hl h
    obtain ⟨q, t, rfl⟩ : ∃ q t, l = q ++ [t] := snoc_of (by intro e; rw [e] at hl; cases hl)
    rw [chain_snoc]
    refine canP_ways.2 (.inr (.inr (.inr ⟨⟨show ¬ (6 : Int) = 1 by decide, show ¬ (6 : Int) = 2 by decide, show ¬ (6 : Int) = 3 by decide⟩, fun a ha => ?_⟩)))
    rcases List.mem_cons.1 ha with rfl | ha
    · exact ih q (by simpa using hl) fun m hm => h m (List.mem_append_left _ hm)
    · rw [List.mem_singleton.1 ha]; exact h t (by simp)
theorem keyM_can {S : TT → Prop} (h0 : (atomT 0).canP S) {l : List TT} (hl : 0 < l.length) (h : ∀ m ∈ l, m.canP S) : (keyM l).canP S := by
  obtain ⟨q, t, rfl⟩ : ∃ q t, l = q ++ [t] := snoc_of (by intro e; rw [e] at hl; exact absurd hl (by simp))
  rw [key_snoc]
  refine canP_ways.2 (.inr (.inr (.inr ⟨⟨show ¬ (6 : Int) = 1 by decide, show ¬ (6 : Int) = 2 by decide, show ¬ (6 : Int) = 3 by decide⟩, fun a ha => ?_⟩)))
  rcases List.mem_cons.1 ha with rfl | ha
  · exact key_can h0 q.length q rfl fun m hm => h m (List.mem_append_left _ hm)
  · rw [List.mem_singleton.1 ha]; exact h t (by simp)
theorem mix_can {zs : List Int} {mx : Nat → List TT} {t : Nat} {m : TT} (hm : MixEl m) (h : m.canP (MaxS zs mx t)) : Dk zs m := by
  rcases hm with (rfl | rfl) | ⟨k, rfl⟩ | ⟨j, hj, rfl⟩
  · exact .inl ⟨_, rfl⟩
  · exact .inl ⟨_, rfl⟩
  · obtain ⟨hk, hi, ho, _⟩ := ag_ids k
    have at_ : ∀ a : Int, 1 ≤ a → a ≤ 4 → MaxS zs mx t (atomT a) → a ∈ zs := fun a h1 h4 hs => by
      rcases max_atom hs with h | h | ⟨i, _, h, _⟩
      · omega
      · exact h
      · omega
    rw [canP_ways] at h
    rcases h with h | ⟨e, _⟩ | ⟨_, h⟩ | ⟨e, _⟩
    · rcases max_kind h with e | e | e <;> rw [hk] at e <;> cases e
    · rw [hk] at e; cases e
    · rcases h with ⟨h, _⟩ | ⟨h, _⟩
      · exact .inr (.inl ⟨hk, .inl (at_ _ hi.1 hi.2 h)⟩)
      · exact .inr (.inl ⟨hk, .inr (at_ _ ho.1 ho.2 h)⟩)
    · exact absurd hk e.2.2
  · rcases max_atom (canP_atom.1 h) with h | h | ⟨i, _, h, _⟩
    · omega
    · exact .inr (.inr ⟨_, h, rfl⟩)
    · omega
theorem max_closed {zs : List Int} {mx : Nat → List TT} {t : Nat} (hmx : ∀ i, i < t → ∀ m ∈ mx i, MixEl m) : ClosedP (MaxS zs mx t) := by
  intro y hy ho x hx
  rcases hy with ⟨j, rfl⟩ | rfl | ⟨z, _, rfl⟩ | ⟨M, n, p, rfl, hp⟩ | ⟨i, _, rfl, _⟩
  · cases hx
  · cases hx
  · cases hx
  · have hx : x = p := by simpa [prT] using hx
    rw [hx]
    rcases hp with hp | ⟨i, hi, rfl, rfl⟩
    · exact .inl hp
    · have hk : (keyM (mx i)).canP (MaxS zs mx t) := ho rfl
      exact .inr (.inr (.inr (.inr ⟨i, hi, rfl, fun m hm => mix_can (hmx i hi m hm) (can_key (fun _ => max_kind) hk m hm)⟩)))
  · cases hx
theorem text_known {K told : List TT} {zs : List Int} {mx : Nat → List TT} {t i : Nat} (hi : i < t) (hmx : ∀ i, i < t → ∀ m ∈ mx i, MixEl m) (hz : ∀ z ∈ zs, z < 20) (hK : ∀ x ∈ K, x ∈ told ∨ (∃ j, x = pubT j) ∨ x = atomT 0 ∨ ∃ z ∈ zs, x = atomT z) (ht : ∀ x ∈ told, TellEl mx t x)
    (hin : ∃ n, lkdT (mx i) n (atomT ((20 + i : Nat) : Int)) ∈ K) (h0 : atomT 0 ∈ K) (hp : ∀ j : Int, 1 ≤ j → j ≤ 4 → pubT j ∈ K) (hza : ∀ z ∈ zs, atomT z ∈ K) : KN K (atomT ((20 + i : Nat) : Int)) ↔ ∀ m ∈ mx i, Dk zs m := by
  constructor
  · intro h
    have h1 : MaxS zs mx t (atomT ((20 + i : Nat) : Int)) := (canP_atom.1 h) (MaxS zs mx t) (fun y hy => by
      rcases hK y hy with h | h | h | h
      · rcases ht y h with ⟨j, rfl⟩ | ⟨M, n, j, rfl⟩ | ⟨q, n, hq, rfl⟩
        · exact .inl ⟨j, rfl⟩
        · unfold lkdT; split
          · exact .inr (.inr (.inr (.inl ⟨M, n, _, rfl, .inl ⟨j, rfl⟩⟩)))
          · exact .inl ⟨j, rfl⟩
        · unfold lkdT; split
          · exact .inr (.inr (.inr (.inl ⟨_, n, _, rfl, .inr ⟨q, hq, rfl, rfl⟩⟩)))
          · rename_i h0
            exact .inr (.inr (.inr (.inr ⟨q, hq, rfl, fun m hm => absurd (List.length_pos_of_mem hm) h0⟩)))
      · exact .inl h
      · exact .inr (.inl h)
      · exact .inr (.inr (.inl h))) (max_closed hmx)
    rcases max_atom h1 with h | h | ⟨q, _, h, hd⟩
    · omega
    · have := hz _ h; omega
    · obtain rfl : q = i := by omega
      exact hd
  · intro h
    obtain ⟨n, hn⟩ := hin
    unfold lkdT at hn
    split at hn
    · rename_i hl
      refine canP_atom.2 (has_closed K _ (has_in hn) (fun _ => ?_) _ (by simp [prT]))
      refine keyM_can (canP_atom.2 (has_in h0)) hl fun m hm => ?_
      have hd := h m hm
      rcases hmx i hi m hm with (rfl | rfl) | ⟨k, rfl⟩ | ⟨j, hj, rfl⟩
      · exact canP_pub.2 (.inl (has_in (hp 3 (by decide) (by decide))))
      · exact canP_pub.2 (.inl (has_in (hp 4 (by decide) (by decide))))
      · obtain ⟨hk, hi1, ho1, _⟩ := ag_ids k
        refine canP_ways.2 (.inr (.inr (.inl ⟨hk, ?_⟩)))
        rcases hd with ⟨j, e⟩ | ⟨_, hd | hd⟩ | ⟨z, _, e⟩
        · rw [e] at hk; cases hk
        · exact .inl ⟨has_in (hza _ hd), .inl (has_in (hp _ ho1.1 ho1.2))⟩
        · exact .inr ⟨has_in (hza _ hd), .inl (has_in (hp _ hi1.1 hi1.2))⟩
        · rw [e] at hk; cases hk
      · rcases hd with ⟨q, e⟩ | ⟨e, _⟩ | ⟨z, hz, e⟩
        · exact absurd (congrArg TT.kind e) (show ¬ (1 : Int) = 2 by decide)
        · exact absurd e (show ¬ (1 : Int) = 3 by decide)
        · rw [e]; exact canP_atom.2 (has_in (hza _ hz))
    · exact canP_atom.2 (has_in hn)
structure RunIs (mx : Nat → List TT) (t u : Nat) (s : WS) : Prop where
  told : ∀ x ∈ s.told, TellEl mx t x
  mixed : ∀ m ∈ s.mixed, MixEl m
  used : s.used ≤ u
theorem TellEl.up {mx : Nat → List TT} {t t' : Nat} {x : TT} (h : TellEl mx t x) (ht : t ≤ t') : TellEl mx t' x := h.imp id fun h => h.imp id fun ⟨i, n, hi, e⟩ => ⟨i, n, by omega, e⟩
theorem locked_lk (s : WS) (t : TT) : lockedT s t = lkdT s.mixed ((100 + s.told.length : Nat) : Int) t := rfl
theorem run_say {mx : Nat → List TT} {t u : Nat} {s : WS} (h : RunIs mx t u s) (sec : Bool) (side : Nat) (hs : side ≤ 1) (k : Int) (hu : (s.say sec side k).used ≤ 10) : RunIs mx t (u + 1) (s.say sec side k) := by
  have hsd : pubT ((3 + side : Nat) : Int) = pubT 3 ∨ pubT ((3 + side : Nat) : Int) = pubT 4 := by
    have : side = 0 ∨ side = 1 := by omega
    rcases this with rfl | rfl
    · exact .inl rfl
    · exact .inr rfl
  have hu0 := h.used
  by_cases h1 : k = 1
  · rw [say_e h1]
    refine ⟨fun x hx => ?_, fun m hm => ?_, Nat.le_succ_of_le h.used⟩
    · rcases List.mem_append.1 hx with hx | hx
      · exact h.told x hx
      · exact .inl ⟨_, List.mem_singleton.1 hx⟩
    · cases sec with
      | false => exact h.mixed m hm
      | true =>
        rcases List.mem_append.1 (show m ∈ s.mixed ++ [_] from hm) with hm | hm
        · exact h.mixed m hm
        · rw [List.mem_singleton.1 hm]; exact .inl hsd
  by_cases h2 : k = 2
  · rw [say_s h1 h2]
    refine ⟨fun x hx => ?_, h.mixed, Nat.le_succ_of_le h.used⟩
    rcases List.mem_append.1 hx with hx | hx
    · exact h.told x hx
    · rw [List.mem_singleton.1 hx, locked_lk]; exact .inr (.inl ⟨_, _, _, rfl⟩)
  by_cases h7 : k = 7
  · rw [say_p h1 h2 h7] at hu ⊢
    refine ⟨h.told, fun m hm => ?_, by simp only; omega⟩
    rcases List.mem_append.1 hm with hm | hm
    · exact h.mixed m hm
    · rw [List.mem_singleton.1 hm]; exact .inr (.inr ⟨s.used, by simp only at hu; omega, rfl⟩)
  · rw [say_m h1 h2 h7]
    refine ⟨h.told, fun m hm => ?_, Nat.le_succ_of_le h.used⟩
    rcases List.mem_append.1 hm with hm | hm
    · exact h.mixed m hm
    · rw [List.mem_singleton.1 hm]; exact .inr (.inl ⟨k, rfl⟩)
theorem say_used (sec : Bool) (side : Nat) (s : WS) (k : Int) : (s.say sec side k).used = s.used + (if k = 7 then 1 else 0) := by
  unfold WS.say
  by_cases h1 : k = 1
  · rw [if_pos h1, if_neg (by omega)]; rfl
  rw [if_neg h1]
  by_cases h2 : k = 2
  · rw [if_pos h2, if_neg (by omega)]; rfl
  rw [if_neg h2]
  by_cases h7 : k = 7
  · rw [if_pos h7, if_pos h7]
  · rw [if_neg h7, if_neg h7]; rfl
def cnt7 (l : List Int) : Nat := (l.filter fun k => decide (k = 7)).length
theorem turn_used (sec : Bool) (side : Nat) : ∀ (l : List Int) (s : WS), (s.turn sec side l).used = s.used + cnt7 l
  | [], s => rfl
  | k :: l, s => by
    show (WS.turn sec side (s.say sec side k) l).used = _
    rw [turn_used sec side l, say_used]
    unfold cnt7
    rw [List.filter_cons]
    by_cases h : k = 7
    · rw [if_pos h, if_pos (by simpa using h), List.length_cons]; omega
    · rw [if_neg h, if_neg (by simpa using h)]; omega
theorem run_turn {mx : Nat → List TT} {t : Nat} {sec : Bool} {side : Nat} (hs : side ≤ 1) : ∀ (l : List Int) {u : Nat} {s : WS}, RunIs mx t u s → s.used + cnt7 l ≤ 10 → RunIs mx t (u + l.length) (s.turn sec side l)
  | [], _, _, h, _ => h
  | k :: l, u, s, h, hu => by
    have hc : cnt7 (k :: l) = (if k = 7 then 1 else 0) + cnt7 l := by
      unfold cnt7; rw [List.filter_cons]
      by_cases h : k = 7
      · rw [if_pos h, if_pos (by simpa using h), List.length_cons]; omega
      · rw [if_neg h, if_neg (by simpa using h)]; omega
    have h1 := run_say h sec side hs k (by rw [say_used]; omega)
    have h2 := run_turn (sec := sec) hs l h1 (by rw [say_used]; omega)
    have e : u + (k :: l).length = u + 1 + l.length := by rw [List.length_cons]; omega
    rw [e]; exact h2
def toksTo (ts : List (List Int)) (i : Nat) : List Int := (ts.take i).flatten
theorem toks_next {ts : List (List Int)} {i : Nat} (h : i < ts.length) : toksTo ts (i + 1) = toksTo ts i ++ ts.getD i [] := by
  unfold toksTo
  rw [List.take_add_one, List.getD_eq_getElem?_getD, List.getElem?_eq_getElem h, List.flatten_append]; simp
theorem cnt_app (a b : List Int) : cnt7 (a ++ b) = cnt7 a + cnt7 b := by unfold cnt7; rw [List.filter_append, List.length_append]
theorem upTo_used {sec late : Bool} {s : WS} {ts : List (List Int)} : ∀ i, i ≤ ts.length → (WS.upTo sec late s ts i).used = s.used + cnt7 (toksTo ts i)
  | 0, _ => rfl
  | i + 1, h => by
    show (WS.turn sec (whoT late i) (WS.upTo sec late s ts i) (ts.getD i [])).used = _
    rw [turn_used, upTo_used i (by omega), toks_next (by omega), cnt_app]; omega
theorem toks_le {ts : List (List Int)} {i : Nat} : cnt7 (toksTo ts i) ≤ cnt7 (toksTo ts ts.length) := by
  have e : toksTo ts ts.length = toksTo ts i ++ (ts.drop i).flatten := by
    unfold toksTo
    rw [List.take_length, ← List.flatten_append, List.take_append_drop]
  rw [e, cnt_app]; omega
theorem run_upTo {sec late : Bool} {s : WS} {ts : List (List Int)} (h0 : RunIs (fun i => (WS.upTo sec late s ts (i + 1)).mixed) 0 0 s) (hu : s.used + cnt7 (toksTo ts ts.length) ≤ 10) : ∀ i, i ≤ ts.length → ∃ u, RunIs (fun i => (WS.upTo sec late s ts (i + 1)).mixed) i u (WS.upTo sec late s ts i)
  | 0, _ => ⟨0, h0⟩
  | i + 1, h => by
    obtain ⟨u, h1⟩ := run_upTo h0 hu i (by omega)
    have hl := toks_le (ts := ts) (i := i + 1)
    rw [toks_next (by omega), cnt_app] at hl
    have h2 := run_turn (sec := sec) (side := whoT late i) (by have := whoT_lt late i; omega) (ts.getD i []) h1 (by rw [upTo_used i (by omega)]; omega)
    refine ⟨_, fun x hx => ?_, h2.mixed, h2.used⟩
    rcases List.mem_append.1 hx with hx | hx
    · exact (h2.told x hx).up (by omega)
    · rw [List.mem_singleton.1 hx, locked_lk]
      exact .inr (.inr ⟨i, _, by omega, rfl⟩)
theorem turn_told_sub {sec : Bool} {side : Nat} : ∀ (l : List Int) {s : WS} {x : TT}, x ∈ s.told → x ∈ (s.turn sec side l).told
  | [], _, _, h => h
  | k :: l, s, x, h => by
    refine turn_told_sub (sec := sec) (side := side) l (s := s.say sec side k) ?_
    unfold WS.say
    split
    · exact List.mem_append_left _ h
    split
    · exact List.mem_append_left _ h
    split
    · exact h
    · exact h
theorem upTo_told_sub {sec late : Bool} {s : WS} {ts : List (List Int)} {i : Nat} {x : TT} : ∀ n, x ∈ (WS.upTo sec late s ts i).told → x ∈ (WS.upTo sec late s ts (i + n)).told
  | 0, h => h
  | n + 1, h => List.mem_append_left _ (turn_told_sub _ (upTo_told_sub n h))
def okTk (zs : List Int) (u : Nat) (k : Int) : Bool := if k = 1 ∨ k = 2 then true else if k = 7 then decide (((10 + u : Nat) : Int) ∈ zs) else decide ((agF k : Int) ∈ zs) || decide ((agO k : Int) ∈ zs)
def okTks (zs : List Int) : Nat → List Int → Bool
  | _, [] => true
  | u, k :: l => okTk zs u k && okTks zs (u + (if k = 7 then 1 else 0)) l
theorem okTks_app (zs : List Int) : ∀ (a : List Int) (u : Nat) (b : List Int), okTks zs u (a ++ b) = (okTks zs u a && okTks zs (u + cnt7 a) b)
  | [], u, b => by simp [okTks, cnt7]
  | k :: a, u, b => by
    show (okTk zs u k && okTks zs _ (a ++ b)) = (okTk zs u k && okTks zs _ a && okTks zs _ b)
    rw [okTks_app zs a, Bool.and_assoc]
    have hc : cnt7 (k :: a) = (if k = 7 then 1 else 0) + cnt7 a := by
      unfold cnt7; rw [List.filter_cons]
      by_cases h : k = 7
      · rw [if_pos h, if_pos (by simpa using h), List.length_cons]; omega
      · rw [if_neg h, if_neg (by simpa using h)]; omega
    rw [hc, Nat.add_assoc]
def AllD (zs : List Int) (l : List TT) : Prop := ∀ m ∈ l, Dk zs m
theorem allD_app {zs : List Int} {a b : List TT} : AllD zs (a ++ b) ↔ AllD zs a ∧ AllD zs b := by
  unfold AllD
  simp only [List.mem_append]
  exact ⟨fun h => ⟨fun m hm => h m (.inl hm), fun m hm => h m (.inr hm)⟩, fun h m hm => hm.elim (h.1 m) (h.2 m)⟩
theorem allD_one {zs : List Int} {m : TT} : AllD zs [m] ↔ Dk zs m := by unfold AllD; simp
theorem say_allD {zs : List Int} (sec : Bool) (side : Nat) (s : WS) (k : Int) : AllD zs (s.say sec side k).mixed ↔ AllD zs s.mixed ∧ okTk zs s.used k = true := by
  unfold okTk
  by_cases h1 : k = 1
  · rw [say_e h1, if_pos (.inl h1)]
    cases sec with
    | false => exact ⟨fun h => ⟨h, rfl⟩, fun h => h.1⟩
    | true =>
      show AllD zs (s.mixed ++ [_]) ↔ _
      rw [allD_app, allD_one]
      exact ⟨fun h => ⟨h.1, rfl⟩, fun h => ⟨h.1, .inl ⟨_, rfl⟩⟩⟩
  by_cases h2 : k = 2
  · rw [say_s h1 h2, if_pos (.inr h2)]
    exact ⟨fun h => ⟨h, rfl⟩, fun h => h.1⟩
  rw [if_neg (by omega)]
  by_cases h7 : k = 7
  · rw [say_p h1 h2 h7, if_pos h7]
    show AllD zs (s.mixed ++ [_]) ↔ _
    rw [allD_app, allD_one, decide_eq_true_eq]
    refine and_congr Iff.rfl ⟨fun h => ?_, fun h => .inr (.inr ⟨_, h, rfl⟩)⟩
    rcases h with ⟨j, e⟩ | ⟨e, _⟩ | ⟨z, hz, e⟩
    · exact absurd (congrArg TT.kind e) (show ¬ (1 : Int) = 2 by decide)
    · exact absurd e (show ¬ (1 : Int) = 3 by decide)
    · exact (show ((10 + s.used : Nat) : Int) = z from congrArg TT.id e) ▸ hz
  · rw [say_m h1 h2 h7, if_neg h7]
    show AllD zs (s.mixed ++ [_]) ↔ _
    rw [allD_app, allD_one, Bool.or_eq_true, decide_eq_true_eq, decide_eq_true_eq]
    obtain ⟨hk, _, _, hq⟩ := ag_ids k
    refine and_congr Iff.rfl ⟨fun h => ?_, fun h => .inr (.inl ⟨hk, (hq zs).2 h⟩)⟩
    rcases h with ⟨j, e⟩ | ⟨_, h⟩ | ⟨z, hz, e⟩
    · rw [e] at hk; cases hk
    · exact (hq zs).1 h
    · rw [e] at hk; cases hk
theorem turn_allD {zs : List Int} (sec : Bool) (side : Nat) : ∀ (l : List Int) (s : WS), AllD zs (s.turn sec side l).mixed ↔ AllD zs s.mixed ∧ okTks zs s.used l = true
  | [], s => ⟨fun h => ⟨h, rfl⟩, fun h => h.1⟩
  | k :: l, s => by
    show AllD zs (WS.turn sec side (s.say sec side k) l).mixed ↔ _
    rw [turn_allD sec side l, say_allD, say_used]
    show _ ↔ _ ∧ (okTk zs s.used k && okTks zs _ l) = true
    rw [Bool.and_eq_true, and_assoc]
theorem upTo_allD {zs : List Int} {sec late : Bool} {s : WS} {ts : List (List Int)} : ∀ i, i ≤ ts.length → (AllD zs (WS.upTo sec late s ts i).mixed ↔ AllD zs s.mixed ∧ okTks zs s.used (toksTo ts i) = true)
  | 0, _ => ⟨fun h => ⟨h, rfl⟩, fun h => h.1⟩
  | i + 1, h => by
    show AllD zs (WS.turn sec (whoT late i) (WS.upTo sec late s ts i) (ts.getD i [])).mixed ↔ _
    rw [turn_allD, upTo_allD i (by omega), upTo_used i (by omega), toks_next (by omega), okTks_app, Bool.and_eq_true, and_assoc]
theorem hid_known {late : Bool} {np : Nat} {p0 p1 : List Int} {ts : List (List Int)} {zs : List Int} {i : Nat} (hi : i < ts.length) (hz : ∀ z ∈ zs, z < 20) (hu : cnt7 (toksTo ts ts.length) ≤ 10) (h3 : pubT 3 ∈ (toldW late np p0 p1 ts).told ++ earlyT p0 p1) (h4 : pubT 4 ∈ (toldW late np p0 p1 ts).told ++ earlyT p0 p1) : KN (hidL late np p0 p1 ts zs).flatten (atomT ((20 + i : Nat) : Int)) ↔ okTks zs 0 (toksTo ts (i + 1)) = true := by
  obtain ⟨s0, hs0⟩ : ∃ s0 : WS, s0 = ⟨[], if 0 < np then earlyT p0 p1 else [], 0⟩ := ⟨_, rfl⟩
  have hmem : ∀ x, x ∈ (hidL late np p0 p1 ts zs).flatten ↔ (x ∈ (toldW late np p0 p1 ts).told ∨ (x ∈ [atomT 0, pubT 1, pubT 2] ∨ x ∈ earlyT p0 p1) ∨ x ∈ zs.map atomT) := fun x => by
    simp only [hidL, List.flatten_cons, List.flatten_nil, List.append_nil, List.mem_append]
  have h00 : RunIs (fun i => (WS.upTo (decide (0 < np)) late s0 ts (i + 1)).mixed) 0 0 s0 := by
    refine ⟨fun x hx => ?_, fun m hm => ?_, ?_⟩
    · rw [hs0] at hx; cases hx
    · rw [hs0] at hm
      by_cases hp : 0 < np
      · have hm : m ∈ earlyT p0 p1 := by simpa [hp] using hm
        rw [← early_all] at hm
        exact .inl (early_in hm)
      · exact absurd (show m ∈ (if 0 < np then earlyT p0 p1 else []) from hm) (by rw [if_neg hp]; simp)
    · rw [hs0]; exact Nat.le_refl _
  have hu0 : s0.used + cnt7 (toksTo ts ts.length) ≤ 10 := by rw [hs0]; simpa using hu
  have hD0 : AllD zs s0.mixed := by
    intro m hm
    rw [hs0] at hm
    by_cases hp : 0 < np
    · have hm : m ∈ earlyT p0 p1 := by simpa [hp] using hm
      rw [← early_all] at hm
      rcases early_in hm with rfl | rfl <;> exact .inl ⟨_, rfl⟩
    · exact absurd (show m ∈ (if 0 < np then earlyT p0 p1 else []) from hm) (by rw [if_neg hp]; simp)
  have hW : toldW late np p0 p1 ts = WS.upTo (decide (0 < np)) late s0 ts ts.length := by rw [hs0]; rfl
  have hmx : ∀ q, q < ts.length → ∀ m ∈ (WS.upTo (decide (0 < np)) late s0 ts (q + 1)).mixed, MixEl m := fun q hq => by
    obtain ⟨u, h⟩ := run_upTo h00 hu0 (q + 1) (by omega)
    exact h.mixed
  obtain ⟨u, hrun⟩ := run_upTo h00 hu0 ts.length (Nat.le_refl _)
  have key := text_known (K := (hidL late np p0 p1 ts zs).flatten) (told := (toldW late np p0 p1 ts).told) (zs := zs) (mx := fun i => (WS.upTo (decide (0 < np)) late s0 ts (i + 1)).mixed) (t := ts.length) hi hmx hz (fun x hx => by
      rcases (hmem x).1 hx with h | (h | h) | h
      · exact .inl h
      · simp only [List.mem_cons, List.not_mem_nil, or_false] at h
        rcases h with rfl | rfl | rfl
        · exact .inr (.inr (.inl rfl))
        · exact .inr (.inl ⟨_, rfl⟩)
        · exact .inr (.inl ⟨_, rfl⟩)
      · rw [← early_all] at h
        rcases early_in h with rfl | rfl <;> exact .inr (.inl ⟨_, rfl⟩)
      · obtain ⟨z, hz1, rfl⟩ := List.mem_map.1 h
        exact .inr (.inr (.inr ⟨z, hz1, rfl⟩))) (by rw [hW]; exact hrun.told)
    (by
      refine ⟨((100 + ((WS.upTo (decide (0 < np)) late s0 ts i).turn (decide (0 < np)) (whoT late i) (ts.getD i [])).told.length : Nat) : Int), (hmem _).2 (.inl ?_)⟩
      · rw [hW, show ts.length = (i + 1) + (ts.length - (i + 1)) by omega]
        refine upTo_told_sub _ ?_
        exact List.mem_append_right _ (List.mem_singleton.2 rfl))
    ((hmem _).2 (.inr (.inl (.inl (by simp))))) (fun j h1 h4' => by
      have : j = 1 ∨ j = 2 ∨ j = 3 ∨ j = 4 := by omega
      rcases this with rfl | rfl | rfl | rfl
      · exact (hmem _).2 (.inr (.inl (.inl (by simp))))
      · exact (hmem _).2 (.inr (.inl (.inl (by simp))))
      · rcases List.mem_append.1 h3 with h | h
        · exact (hmem _).2 (.inl h)
        · exact (hmem _).2 (.inr (.inl (.inr h)))
      · rcases List.mem_append.1 h4 with h | h
        · exact (hmem _).2 (.inl h)
        · exact (hmem _).2 (.inr (.inl (.inr h)))) (fun z hz1 => (hmem _).2 (.inr (.inr (List.mem_map.2 ⟨z, hz1, rfl⟩))))
  rw [key]
  have h5 := upTo_allD (zs := zs) (sec := decide (0 < np)) (late := late) (s := s0) (ts := ts) (i + 1) (by omega)
  refine h5.trans ⟨fun h => ?_, fun h => ⟨hD0, ?_⟩⟩
  · have := h.2; rw [hs0] at this; exact this
  · rw [hs0]; exact h
end Go.Proofs.YtfldnikepdbgkaaDoor
