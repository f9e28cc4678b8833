import Derived.Test.YtnkelhmfpepehaaKy2
import Derived.Test.YtnkelhmfpepehaaRows
namespace Go.Proofs.Ytnkelhmfpepehaa
open Go Go.RowKit
section
variable {P : Program} {G : Mem} {R : Reg} {ops : Array Oper} {n : Nat} {K : Env → Mm → Prop} {Q : Exit → Env → Mm → Prop} {rest : List Oper} {E : Env} {M : Mm} {d : Nat} {ty : TypeId} {pos : String} {aft : Array Edge}
theorem e_callWD (i : Nat) (L : Mm) {fz : Mem} {fo : Operand} {f : FuncId} {args : Array Operand} {tys : Array TypeId} {vs cap : List Value} {g' : Mem} {b : Nat} {c : Array Value} {t : TypeId} {S : Value → Array Value → Mem → Prop} (hb : Bag fz M) (hL : ∀ x, subL L ((i, x) :: M)) (hs : small L = true) (hi1 : Nat.blt i 1000 = true) (hf : rd E fo = some (.func (.func f) #[] cap.toArray)) (hargs : rdl E args.toList = some vs) (he : enters P f = true)
    (hm : lkM M i = some ⟨b, c, t⟩) (hg : ∀ z ∈ g', z ∈ G ∨ ∃ j, j ≠ i ∧ lkM M j = some z) (hF : Fx P g' [⟨b, c, t⟩] f (vs ++ cap).toArray (fun v l1 nw => ∃ c', l1 = [⟨b, c', t⟩] ∧ S v c' nw)) (hS : ∀ m' : Mem, ∃ v c' nw, S v c' nw ∧ FreshM m' nw) (hd : Nat.blt d n = true) (hR : R.c = 5)
    (h : ∀ v c' nw, S v c' nw → OpsE P G R ops n K rest ((d, v) :: E) ((i, some ⟨b, c', t⟩) :: catL L (lab 1000 (fz ++ nw)))) (hLn : R.L = none := by rfl) : OpsE P G R ops n K (⟨some d, .call ⟨.value fo, args, tys⟩, ty, pos, aft, none⟩ :: rest) E M :=
  fun _ m ha hM => by
    obtain ⟨lr, hp⟩ := hM.perm1 hm
    refine st_callX hR (S := fun v l1 nw => ∃ c', l1 = [⟨b, c', t⟩] ∧ S v c' nw) (ha.rd hf) (ha.args hargs) he (by simpa using hF) (lr := lr) (fun _ _ => off_none hLn _) (by simpa using hp) (fun m' => ?_) ?_ (fun w hG hw z hz => ?_) (by simp) (fun hA z hz => ?_) ?_
    · obtain ⟨v0, c0, nw, h0, h1⟩ := hS m'
      exact ⟨v0, _, nw, ⟨c0, rfl, h0⟩, h1⟩
    · rintro v' l1 nw ⟨c', rfl, _⟩; rfl
    · rcases hg z hz with h1 | ⟨j, _, h1⟩
      · exact hG z h1
      · exact (hw z (hM.has j z h1)).read
    · rcases hg z hz with h1 | ⟨j, hne, h1⟩
      · simpa using hA z h1 ⟨b, c, t⟩ (hM.has i _ hm)
      · simpa using hM.apart j i z _ h1 hm hne
    · rintro v' l1 nw ⟨c', rfl, h2⟩ hfr
      have h3 := hM.same (oz' := some ⟨b, c', t⟩) hm hp rfl
      have h4 := h3.bag (m' := [(⟨b, c', t⟩ : Blk)] ++ lr ++ nw) (L := (i, some ⟨b, c', t⟩) :: L) (nw := nw) (fz := fz) (bag_skip hi1 hb) ⟨by simp [lkM_cons], hL _⟩ (by simp [small, hi1, hs]) (fun x hx => List.mem_append_left _ (by simpa using hx)) (fun x hx => List.mem_append_right _ hx) hfr.1 fun x hx j y _ hy => by
        by_cases hij : i = j
        · subst hij
          rw [lkM_cons, if_pos rfl] at hy
          cases hy
          exact hfr.2 x hx ⟨b, c, t⟩ (hM.has i _ hm)
        · rw [lkM_cons, if_neg hij] at hy
          exact hfr.2 x hx y (hM.has j y hy)
      exact h v' c' nw h2 _ _ (ha.put hd _) h4
def EndWD2 (P : Program) (b : Nat) (t : TypeId) (S : Value → Value → Array Value → Mem → Prop) (fn : Func) : Exit → Env → Mm → Prop
  | .normal, E, M | .ret, E, M => ∃ r r' v v' c' fz, fn.results = #[r, r'] ∧ Res P E M r v ∧ Res P E M r' v' ∧ S v v' c' fz ∧ (∃ i, Nat.blt i 1000 = true ∧ lkM M i = some ⟨b, c', t⟩) ∧ Bag fz M
  | _, _, _ => False
theorem fxWD2 {f : FuncId} {fn : Func} {c : Code} {args : Array Value} {b : Nat} {c0 : Array Value} {t : TypeId} {S : Value → Value → Array Value → Mem → Prop} (hf : P.funcs[f]? = some fn) (hb : fn.body = some c) (hn : fn.ntmps = n) (ha : args.size ≤ n) (E : Env) (hE : ∀ t v, lk E t = some v → args[t]? = some v)
    (h : SatE P G c n (EndWD2 P b t S fn) E [(0, some ⟨b, c0, t⟩)]) : Fx P G [⟨b, c0, t⟩] f args (fun v l1 nw => ∃ c', l1 = [⟨b, c', t⟩] ∧ ∃ u u', v = .tuple #[u, u'] ∧ S u u' c' nw) :=
  fx_of hf hb (sat_mono (h _ [⟨b, c0, t⟩] ⟨by simp [hn]; omega, rfl, fun t v ht => by
    have := hE t v ht
    have hlt := (Array.getElem?_eq_some_iff.1 this).1
    rw [Array.getElem?_append_left hlt]; exact this⟩ (.single _)) fun e' a m ⟨E', M', h1, h0, h2⟩ => by
      have key : (∃ r r' v v' c' fz, fn.results = #[r, r'] ∧ Res P E' M' r v ∧ Res P E' M' r' v' ∧ S v v' c' fz ∧ (∃ i, Nat.blt i 1000 = true ∧ lkM M' i = some ⟨b, c', t⟩) ∧ Bag fz M') → a.defers = [] ∧ ∃ v l1 nw, (∃ c', l1 = [⟨b, c', t⟩] ∧ ∃ u u', v = Value.tuple #[u, u'] ∧ S u u' c' nw) ∧ (nw.map (·.b)).Nodup ∧ (∀ x ∈ nw, x.b ∉ [(⟨b, c0, t⟩ : Blk)].map (·.b)) ∧ (∀ x ∈ l1 ++ nw, x ∈ m) ∧ ∀ w, MemIn m w → (results fn a.tmps).run P w = .ok v w := fun ⟨r, r', v, v', c', fz, hr, hR, hR', hS, ⟨i, hi1, hi⟩, hbg⟩ =>
        ⟨h1.defers, .tuple #[v, v'], [⟨b, c', t⟩], fz, ⟨c', rfl, v, v', rfl, hS⟩, (h0.bag_in hbg).1, fun x hx => by
          obtain ⟨j, hj⟩ := List.getElem?_of_mem hx
          have hj2 : lkM M' (1000 + j) = some x := by rw [hbg _ (by omega), show 1000 + j - 1000 = j by omega]; exact hj
          have hne : 1000 + j ≠ i := by have : i < 1000 := by simpa using hi1
                                        omega
          have := h0.apart (1000 + j) i x _ hj2 hi hne
          simpa using this, fun x hx => by
          rcases List.mem_append.1 hx with hx | hx
          · simp at hx; subst hx; exact h0.has i _ hi
          · exact (h0.bag_in hbg).2 x hx, fun w hw => by
          have := res_run h1 h0 hw hR
          have t' := res_run h1 h0 hw hR'
          rw [results_eq, hr, mapM2]
          simp [this, t']⟩
      cases e' <;> first | exact key h2 | exact h2.elim)
def EndDV (P : Program) (S : Value → Mem → Prop) (fn : Func) : Exit → Env → Mm → Prop
  | .normal, E, M | .ret, E, M => ∃ r r' v v' fz, fn.results = #[r, r'] ∧ Res P E M r v ∧ Res P E M r' v' ∧ S (.tuple #[v, v']) fz ∧ Bag fz M
  | _, _, _ => False
theorem fxDV {f : FuncId} {fn : Func} {c : Code} {args : Array Value} {S : Value → Mem → Prop} (hf : P.funcs[f]? = some fn) (hb : fn.body = some c) (hn : fn.ntmps = n) (ha : args.size ≤ n) (E : Env) (hE : ∀ t v, lk E t = some v → args[t]? = some v)
    (h : SatE P G c n (EndDV P S fn) E []) : Fx P G [] f args (fun v l1 nw => l1 = [] ∧ S v nw) :=
  fx_of hf hb (sat_mono (h _ [] ⟨by simp [hn]; omega, rfl, fun t v ht => by
    have := hE t v ht
    have hlt := (Array.getElem?_eq_some_iff.1 this).1
    rw [Array.getElem?_append_left hlt]; exact this⟩ (FitsM.nil _)) fun e' a m ⟨E', M', h1, h0, h2⟩ => by
      have key : (∃ r r' v v' fz, fn.results = #[r, r'] ∧ Res P E' M' r v ∧ Res P E' M' r' v' ∧ S (.tuple #[v, v']) fz ∧ Bag fz M') → a.defers = [] ∧ ∃ v l1 nw, (l1 = [] ∧ S v nw) ∧ (nw.map (·.b)).Nodup ∧ (∀ x ∈ nw, x.b ∉ ([] : Mem).map (·.b)) ∧ (∀ x ∈ l1 ++ nw, x ∈ m) ∧ ∀ w, MemIn m w → (results fn a.tmps).run P w = .ok v w := fun ⟨r, r', v, v', fz, hr, hR, hR', ho, hb⟩ =>
        ⟨h1.defers, .tuple #[v, v'], [], fz, ⟨rfl, ho⟩, (h0.bag_in hb).1, by simp, fun x hx => (h0.bag_in hb).2 x (by simpa using hx), fun w hw => by
          have := res_run h1 h0 hw hR
          have t' := res_run h1 h0 hw hR'
          rw [results_eq, hr, mapM2]
          simp [this, t']⟩
      cases e' <;> first | exact key h2 | exact h2.elim)
theorem e_callQ {fo : Operand} {f : FuncId} {args : Array Operand} {tys : Array TypeId} {vs cap : List Value} {g' : Mem} {v : Value} (hf : rd E fo = some (.func (.func f) #[] cap.toArray)) (hargs : rdl E args.toList = some vs) (he : enters P f = true)
    (hg : ∀ z ∈ g', z ∈ G ∨ ∃ j, lkM M j = some z) (hF : Fn P g' f (vs ++ cap).toArray v) (hd : Nat.blt d n = true) (hR : R.c = 5)
    (h : OpsE P G R ops n K rest ((d, v) :: E) M) : OpsE P G R ops n K (⟨some d, .call ⟨.value fo, args, tys⟩, ty, pos, aft, none⟩ :: rest) E M :=
  fun _ m ha hM => by
    refine st_callX hR (S := fun v' l1 nw => v' = v ∧ l1 = [] ∧ nw = []) (ha.rd hf) (ha.args hargs) he (by simpa using hF.fx) (l0 := []) (lr := m) (fun _ h => by cases h) (List.Perm.refl _) (fun _ => ⟨v, [], [], ⟨rfl, rfl, rfl⟩, by simp, by simp⟩) ?_ (fun w hG hw z hz => ?_) (by simp) (fun _ _ _ => by simp) ?_
    · rintro v' l1 nw ⟨_, rfl, _⟩; rfl
    · rcases hg z hz with h1 | ⟨j, h1⟩
      · exact hG z h1
      · exact (hw z (hM.has j z h1)).read
    · rintro v' l1 nw ⟨rfl, rfl, rfl⟩ _
      exact h _ _ (ha.put hd _) (by simpa using hM)
theorem any_bag {fz : Mem} (hb : Bag fz M) : ∀ z ∈ fz, z ∈ G ∨ ∃ j, lkM M j = some z := fun z hz => by
  obtain ⟨j, hj⟩ := List.getElem?_of_mem hz
  exact .inr ⟨1000 + j, by rw [hb _ (by omega), show 1000 + j - 1000 = j by omega]; exact hj⟩
theorem any_app {a b : Mem} (h1 : ∀ z ∈ a, z ∈ G ∨ ∃ j, lkM M j = some z) (h2 : ∀ z ∈ b, z ∈ G ∨ ∃ j, lkM M j = some z) : ∀ z ∈ a ++ b, z ∈ G ∨ ∃ j, lkM M j = some z := fun z hz => (List.mem_append.1 hz).elim (h1 z) (h2 z)
theorem any_one {x : Blk} (i : Nat) (hi : lkM M i = some x) : ∀ z ∈ [x], z ∈ G ∨ ∃ j, lkM M j = some z := fun z hz => by
  rw [List.mem_singleton.1 hz]; exact .inr ⟨i, hi⟩
end
end Go.Proofs.Ytnkelhmfpepehaa
namespace Go.Proofs.Ytnkelhmfpepehaa
open Go Go.RowKit
def tArgs (g : List RawT → TT × List RawT) : Nat → List RawT → List TT × List RawT
  | 0, l => ([], l)
  | m + 1, l => ((g l).1 :: (tArgs g m (g l).2).1, (tArgs g m (g l).2).2)
def tLeaf (k : Nat) (r : RawT) : TT := if k = 0 then pubT (pkn r.b 5) else if k = 1 then ⟨3, ((min (pkn r.b 5) (pkn r.c 5) : Nat) : Int), ((max (pkn r.b 5) (pkn r.c 5) : Nat) : Int), []⟩ else atomT (pkn r.b 5)
def tNode (g : List RawT → TT × List RawT) (k : Nat) (r : RawT) (l : List RawT) : TT × List RawT :=
  if k = 3 then (⟨4, 0, 0, (tArgs g 2 l).1⟩, (tArgs g 2 l).2)
  else if k = 4 then (⟨5, 0, 0, (tArgs g 1 l).1⟩, (tArgs g 1 l).2)
  else if k = 5 then (⟨6, pkn r.c 3, 0, (tArgs g 2 l).1⟩, (tArgs g 2 l).2)
  else if k = 6 ∨ k = 7 then (⟨7, 0, 0, (tArgs g 3 l).1⟩, (tArgs g 3 l).2)
  else (tLeaf k r, l)
def tOf : Nat → List RawT → TT × List RawT
  | f, [] => (atomT ((4 - f : Nat) : Int), [])
  | 0, r :: l => (tLeaf (pkn (pkn r.a 9) 3) r, l)
  | f + 1, r :: l => tNode (tOf f) (pkn r.a 9) r l
def tsOf (f : Nat) : Nat → List RawT → List TT
  | 0, _ => []
  | _ + 1, [] => []
  | m + 1, r :: l => (tOf f (r :: l)).1 :: tsOf f m (tOf f (r :: l)).2
structure GoodT (t : TT) (used n : Nat) : Prop where
  form : t.form = 0
  nodes : t.nodes ≤ 3 * used + 1
  deep : t.deep ≤ n + 1
  clean : cleanT (atomT 99) t
theorem leaf_good {k : Nat} {r : RawT} {n : Nat} : GoodT (tLeaf k r) 1 n := by
  have h5 := pkn_lt r.b (m := 5) (by decide)
  have g5 := pkn_lt r.c (m := 5) (by decide)
  unfold tLeaf
  split
  · refine ⟨?_, by rw [TT.nodes_eq]; simp [nodesL], by rw [TT.deep_eq]; simp [deepL, mx], clean_eq.2 ⟨fun h => absurd (congrArg TT.kind h) (show ¬ (2 : Int) = 1 by decide), fun a ha => by cases ha⟩⟩
    rw [form_eq, if_neg (show ¬ ((2 : Int) < 1 ∨ (7 : Int) < 2) by decide), if_neg (by simp [wdt, numB])]; rfl
  split
  · refine ⟨?_, by rw [TT.nodes_eq]; simp [nodesL], by rw [TT.deep_eq]; simp [deepL, mx], clean_eq.2 ⟨fun h => absurd (congrArg TT.kind h) (show ¬ (3 : Int) = 1 by decide), fun a ha => by cases ha⟩⟩
    rw [form_eq, if_neg (show ¬ ((3 : Int) < 1 ∨ (7 : Int) < 3) by decide), if_neg (by simp [wdt, numB]; omega)]; rfl
  · refine ⟨?_, by rw [TT.nodes_eq]; simp [nodesL], by rw [TT.deep_eq]; simp [deepL, mx], clean_eq.2 ⟨fun h => ?_, fun a ha => by cases ha⟩⟩
    · rw [form_eq, if_neg (show ¬ ((1 : Int) < 1 ∨ (7 : Int) < 1) by decide), if_neg (by simp [wdt, numB])]; rfl
    · have := congrArg TT.id h
      simp at this; omega
theorem atom_good {i : Nat} {n u : Nat} (h : i < 99) : GoodT (atomT i) u n := by
  refine ⟨?_, by rw [TT.nodes_eq]; simp [nodesL], by rw [TT.deep_eq]; simp [deepL, mx], clean_eq.2 ⟨fun h => ?_, fun a ha => by cases ha⟩⟩
  · rw [form_eq, if_neg (show ¬ ((1 : Int) < 1 ∨ (7 : Int) < 1) by decide), if_neg (by simp [wdt, numB])]; rfl
  · have := congrArg TT.id h
    simp at this; omega
structure GoodL (l : List TT) (used n : Nat) : Prop where
  form : ∀ t ∈ l, t.form = 0
  nodes : nodesL l ≤ 3 * used + l.length
  deep : ∀ t ∈ l, t.deep ≤ n + 1
  clean : ∀ t ∈ l, cleanT (atomT 99) t
theorem args_good {g : List RawT → TT × List RawT} {n : Nat} (hg : ∀ l, (g l).2.length ≤ l.length ∧ GoodT (g l).1 (l.length - (g l).2.length) n) : ∀ (m : Nat) (l : List RawT), (tArgs g m l).1.length = m ∧ (tArgs g m l).2.length ≤ l.length ∧ GoodL (tArgs g m l).1 (l.length - (tArgs g m l).2.length) n
  | 0, l => ⟨rfl, Nat.le_refl _, fun t h => (by cases h), by simp [tArgs, nodesL], fun t h => (by cases h), fun t h => (by cases h)⟩
  | m + 1, l => by
    obtain ⟨h1, h2⟩ := hg l
    obtain ⟨e1, e2, e3⟩ := args_good hg m (g l).2
    have h2n := h2.nodes
    have e3n := e3.nodes
    refine ⟨by simp [tArgs, e1], by simp only [tArgs]; omega, fun t ht => ?_, ?_, fun t ht => ?_, fun t ht => ?_⟩
    · simp only [tArgs, List.mem_cons] at ht
      rcases ht with rfl | ht
      · exact h2.form
      · exact e3.form t ht
    · simp only [tArgs, nodesL, List.map_cons, List.sum_cons, List.length_cons] at e3n ⊢
      omega
    · simp only [tArgs, List.mem_cons] at ht
      rcases ht with rfl | ht
      · exact h2.deep
      · exact e3.deep t ht
    · simp only [tArgs, List.mem_cons] at ht
      rcases ht with rfl | ht
      · exact h2.clean
      · exact e3.clean t ht
theorem fst1_all {l : List TT} (h : ∀ t ∈ l, t.form = 0) : formL l = 0 := formL_none fun _ hj => h _ (List.getElem_mem hj)
theorem node_good {k i : Int} {l : List TT} {u n : Nat} (h : GoodL l u n) (hl3 : l.length ≤ 3) (hk : 1 ≤ k ∧ k ≤ 7) (hw : l.length = wdt k) (hn : numB k i 0 = true) (h1 : k ≠ 1) : GoodT ⟨k, i, 0, l⟩ (u + 1) (n + 1) := by
  refine ⟨?_, ?_, ?_, clean_eq.2 ⟨fun e => h1 (congrArg TT.kind e), h.clean⟩⟩
  · rw [form_eq, if_neg (by simp only; omega), if_neg (by rintro (h | h); exact h hw; rw [hn] at h; cases h)]
    exact fst1_all h.form
  · have := h.nodes
    rw [TT.nodes_eq]
    simp only
    omega
  · rw [TT.deep_eq]
    have := deepL_le.2 h.deep
    simp only
    omega
theorem of_good : ∀ (f : Nat), f ≤ 4 → ∀ l : List RawT, (tOf f l).2.length ≤ l.length ∧ GoodT (tOf f l).1 (l.length - (tOf f l).2.length) f
  | 0, _, [] => ⟨by simp [tOf], by simp only [tOf]; exact atom_good (by omega)⟩
  | f + 1, _, [] => ⟨by simp [tOf], by simp only [tOf]; exact atom_good (by omega)⟩
  | 0, _, r :: l => ⟨by simp [tOf], by simp only [tOf, List.length_cons]; rw [show l.length + 1 - l.length = 1 by omega]; exact leaf_good⟩
  | f + 1, hf, r :: l => by
    have ih := of_good f (by omega)
    have a1 := args_good ih 1 l
    have a2 := args_good ih 2 l
    have a3 := args_good ih 3 l
    rw [show tOf (f + 1) (r :: l) = tNode (tOf f) (pkn r.a 9) r l from rfl]
    have e : ∀ z : List RawT, z.length ≤ l.length → (r :: l).length - z.length = (l.length - z.length) + 1 := fun z hz => by rw [List.length_cons]; omega
    unfold tNode
    split
    · exact ⟨by simp only [List.length_cons]; omega, by rw [e _ a2.2.1]; exact node_good a2.2.2 (by omega) (by decide) a2.1 (by decide) (by decide)⟩
    split
    · exact ⟨by simp only [List.length_cons]; omega, by rw [e _ a1.2.1]; exact node_good a1.2.2 (by omega) (by decide) a1.1 (by decide) (by decide)⟩
    split
    · exact ⟨by simp only [List.length_cons]; omega, by rw [e _ a2.2.1]; exact node_good a2.2.2 (by omega) (by decide) a2.1 (by simp [numB]) (by decide)⟩
    split
    · exact ⟨by simp only [List.length_cons]; omega, by rw [e _ a3.2.1]; exact node_good a3.2.2 (by omega) (by decide) a3.1 (by decide) (by decide)⟩
    · exact ⟨by simp only [List.length_cons]; omega, by rw [e _ (Nat.le_refl _), Nat.sub_self]; exact leaf_good⟩
theorem ts_good {f : Nat} (hf : f ≤ 4) : ∀ (m : Nat) (l : List RawT), (tsOf f m l).length ≤ m ∧ GoodL (tsOf f m l) l.length f
  | 0, l => ⟨by simp [tsOf], fun t h => (by simp [tsOf] at h), by simp [tsOf, nodesL], fun t h => (by simp [tsOf] at h), fun t h => (by simp [tsOf] at h)⟩
  | m + 1, [] => ⟨by simp [tsOf], fun t h => (by simp [tsOf] at h), by simp [tsOf, nodesL], fun t h => (by simp [tsOf] at h), fun t h => (by simp [tsOf] at h)⟩
  | m + 1, r :: l => by
    obtain ⟨h1, h2⟩ := of_good f hf (r :: l)
    obtain ⟨e2, e3⟩ := ts_good hf m (tOf f (r :: l)).2
    have h2n := h2.nodes
    have e3n := e3.nodes
    refine ⟨by simp only [tsOf, List.length_cons]; omega, fun t ht => ?_, ?_, fun t ht => ?_, fun t ht => ?_⟩
    · simp only [tsOf, List.mem_cons] at ht
      rcases ht with rfl | ht
      · exact h2.form
      · exact e3.form t ht
    · simp only [tsOf, nodesL, List.map_cons, List.sum_cons, List.length_cons] at e3n h1 h2n ⊢
      omega
    · simp only [tsOf, List.mem_cons] at ht
      rcases ht with rfl | ht
      · exact h2.deep
      · exact e3.deep t ht
    · simp only [tsOf, List.mem_cons] at ht
      rcases ht with rfl | ht
      · exact h2.clean
      · exact e3.clean t ht
theorem fits_of {l : List TT} (h1 : nodesL l ≤ 300) (h2 : ∀ t ∈ l, t.deep ≤ 40) : fitsL l = true := by
  unfold fitsL
  rw [decide_eq_true h1, decide_eq_true (deepL_le.2 h2)]; rfl
theorem chk_of {t : TT} (h0 : t.form = 0) (h1 : t.nodes ≤ 300) (h2 : t.deep ≤ 40) : chkT t = 0 := by
  unfold chkT
  rw [if_pos (fits_of (by simpa [nodesL] using h1) (by simpa using h2)), h0]
theorem fits_nodes {l : List TT} (h : fitsL l = true) : nodesL l ≤ 300 := by
  unfold fitsL at h
  simp only [Bool.and_eq_true, decide_eq_true_eq] at h
  exact h.1
theorem freshM_app {m n1 n2 : Mem} (h1 : FreshM m n1) (h2 : FreshM (m ++ n1) n2) : FreshM m (n1 ++ n2) := by
  refine ⟨?_, fun x hx y hy => ?_⟩
  · rw [List.map_append, List.nodup_append]
    refine ⟨h1.1, h2.1, fun a ha b hb e => ?_⟩
    obtain ⟨x, hx, rfl⟩ := List.mem_map.1 ha
    obtain ⟨y, hy, rfl⟩ := List.mem_map.1 hb
    exact h2.2 y hy x (List.mem_append_right _ hx) e
  · rcases List.mem_append.1 hx with hx | hx
    · exact h1.2 x hx y hy
    · exact h2.2 x hx y (List.mem_append_left _ hy)
theorem to_room {l : List TT} : (∀ t ∈ l, ∀ m : Mem, ∃ c ys nw, TL nw t.args c ys ∧ FreshM m nw) → ∀ m : Mem, ∃ xs nw, TO nw l xs ∧ FreshM m nw := by
  induction l with
  | nil => exact fun _ m => ⟨[], [], TO.nil, by simp [FreshM]⟩
  | cons t l ih =>
    intro h m
    obtain ⟨c, ys, n1, h1, f1⟩ := h t (by simp) m
    obtain ⟨xs, n2, h2, f2⟩ := ih (fun x hx => h x (by simp [hx])) (m ++ n1)
    exact ⟨(tC t c).toList ++ xs, n1 ++ n2, TO.app (L := [t]) ((to_one h1).mono fun _ hx => List.mem_append_left _ hx) (h2.mono fun _ hx => List.mem_append_right _ hx), freshM_app f1 f2⟩
theorem tl_room {l : List TT} (e : TypeId) (hl : l.length ≤ maxLen) (h : ∀ t ∈ l, ∀ m : Mem, ∃ c ys nw, TL nw t.args c ys ∧ FreshM m nw) (m : Mem) : ∃ c ys nw, TL nw l c ys ∧ FreshM m nw := by
  cases l with
  | nil => exact ⟨nilS, [], [], tl_nil, by simp [FreshM]⟩
  | cons t l =>
    obtain ⟨xs, nw, h1, f1⟩ := to_room h m
    obtain ⟨r, hr⟩ := fresh_of (m ++ nw)
    refine ⟨.slice (some ⟨r, 0, none⟩) (t :: l).length (t :: l).length, xs, [⟨r, xs.toArray, e⟩] ++ nw, ?_, ?_⟩
    · refine TO.tl (e := e) (l := [⟨r, xs.toArray, e⟩]) h1 (.inr ⟨r, _, xs.toArray, rfl, rfl, Nat.le_refl _, hl, by simpa using h1.1, h1.1, ?_⟩) hl
      have := h1.1
      rw [← this]; simp
    · refine ⟨?_, fun x hx y hy => ?_⟩
      · rw [List.map_append, List.nodup_append]
        refine ⟨by simp, f1.1, fun a ha b hb e => ?_⟩
        obtain ⟨y, hy, rfl⟩ := List.mem_map.1 hb
        have ha : a = r := by simpa using ha
        exact hr y (List.mem_append_right _ hy) (e.symm.trans ha)
      · rcases List.mem_append.1 hx with hx | hx
        · simp at hx; subst hx; exact hr y (List.mem_append_left _ hy)
        · exact f1.2 x hx y hy
theorem form_room (e : TypeId) (t : TT) : t.form = 0 → ∀ m : Mem, ∃ c ys nw, TL nw t.args c ys ∧ FreshM m nw := by
  refine TT.ind (p := fun t => t.form = 0 → ∀ m : Mem, ∃ c ys nw, TL nw t.args c ys ∧ FreshM m nw) (fun t ih h m => ?_) t
  have hk := form_kind h
  exact tl_room e (by rw [hk.1]; unfold wdt maxLen; repeat' split
                      all_goals omega) (fun a ha => ih a ha (hk.2 a ha)) m
theorem args_suffix {g : List RawT → TT × List RawT} (hg : ∀ l, ∃ k, (g l).2 = l.drop k) : ∀ (m : Nat) (l : List RawT), ∃ k, (tArgs g m l).2 = l.drop k
  | 0, l => ⟨0, rfl⟩
  | m + 1, l => by
    obtain ⟨k, h1⟩ := hg l
    obtain ⟨q, h2⟩ := args_suffix hg m (g l).2
    exact ⟨k + q, by show (tArgs g m (g l).2).2 = _; rw [h2, h1, List.drop_drop]⟩
theorem of_suffix : ∀ (f : Nat) (l : List RawT), ∃ k, (tOf f l).2 = l.drop k
  | 0, [] => ⟨0, by simp [tOf]⟩
  | _ + 1, [] => ⟨0, by simp [tOf]⟩
  | 0, _ :: _ => ⟨1, rfl⟩
  | f + 1, r :: l => by
    have key : ∀ m, ∃ k, (tArgs (tOf f) m l).2 = (r :: l).drop k := fun m => by
      obtain ⟨k, h⟩ := args_suffix (of_suffix f) m l
      exact ⟨k + 1, h⟩
    rw [show tOf (f + 1) (r :: l) = tNode (tOf f) (pkn r.a 9) r l from rfl]
    unfold tNode
    split
    · exact key 2
    split
    · exact key 1
    split
    · exact key 2
    split
    · exact key 3
    · exact ⟨1, rfl⟩
theorem flat_drop {α : Type} {C : α → List Value} {z : Nat} (hC : ∀ x, (C x).length = z) : ∀ (rs : List α) (i : Nat), (rs.flatMap C).drop (i * z) = (rs.drop i).flatMap C
  | rs, 0 => by simp
  | [], i + 1 => by simp
  | r :: rs, i + 1 => by
    rw [List.flatMap_cons, Nat.succ_mul, Nat.add_comm, ← List.drop_drop, List.drop_left' (hC r)]
    exact flat_drop hC rs i
theorem raws_drop {G : Mem} {v : Value} {rs : List RawT} (hv : Shows G 4 v rs.length (rs.flatMap rawC)) (k : Nat) (hk : k ≤ rs.length) : Shows G 4 (slPart 4 v k rs.length) (rs.drop k).length ((rs.drop k).flatMap rawC) := by
  have h := hv.part (i := k) (j := rs.length) hk (Nat.le_refl _)
  have e : ((rs.flatMap rawC).drop (k * 4)).take ((rs.length - k) * 4) = (rs.drop k).flatMap rawC := by
    rw [flat_drop rawC_len]
    refine List.take_of_length_le ?_
    rw [flatMap_len rawC_len, List.length_drop]
    exact Nat.le_refl _
  rw [e] at h
  rw [List.length_drop]; exact h
theorem raws_suffix {G : Mem} {v : Value} {rs rs' : List RawT} (hv : Shows G 4 v rs.length (rs.flatMap rawC)) (h : ∃ k, rs' = rs.drop k) : ∃ v', Shows G 4 v' rs'.length (rs'.flatMap rawC) := by
  obtain ⟨k, rfl⟩ := h
  by_cases hk : k ≤ rs.length
  · exact ⟨_, raws_drop hv k hk⟩
  · rw [List.drop_eq_nil_of_le (by omega)]
    exact ⟨nilS, .inl ⟨rfl, rfl, none, 0, rfl, fun _ => rfl⟩⟩
def TermIs (G : Mem) (f : Nat) (rs : List RawT) (w : Value) (nw : Mem) : Prop := ∃ c ys v', w = .tuple #[.agg (tC (tOf f rs).1 c), v'] ∧ TL nw (tOf f rs).1.args c ys ∧ Shows G 4 v' (tOf f rs).2.length ((tOf f rs).2.flatMap rawC)
theorem term_room {G : Mem} (e : TypeId) {f : Nat} (hf : f ≤ 4) {v : Value} {rs : List RawT} (hv : Shows G 4 v rs.length (rs.flatMap rawC)) (m : Mem) : ∃ w nw, TermIs G f rs w nw ∧ FreshM m nw := by
  obtain ⟨c, ys, nw, h1, h2⟩ := form_room e (tOf f rs).1 (of_good f hf rs).2.form m
  obtain ⟨v', h3⟩ := raws_suffix hv (of_suffix f rs)
  exact ⟨_, nw, ⟨c, ys, v', rfl, h1, h3⟩, h2⟩
def ArgsIs (G : Mem) (f m : Nat) (k i : Int) (rs : List RawT) (u u' : Value) (c' : Array Value) (nw : Mem) : Prop := c' = #[u'] ∧ ∃ c ys, u = .agg (tC ⟨k, i, 0, (tArgs (tOf f) m rs).1⟩ c) ∧ TL nw (tArgs (tOf f) m rs).1 c ys ∧ Shows G 4 u' (tArgs (tOf f) m rs).2.length ((tArgs (tOf f) m rs).2.flatMap rawC)
theorem args_room {G : Mem} (e : TypeId) {f n : Nat} (hf : f ≤ 4) (hn : n ≤ 3) (k i : Int) {v : Value} {rs : List RawT} (hv : Shows G 4 v rs.length (rs.flatMap rawC)) (m : Mem) : ∃ w c' nw, (∃ u u', w = Value.tuple #[u, u'] ∧ ArgsIs G f n k i rs u u' c' nw) ∧ FreshM m nw := by
  have hg := args_good (of_good f hf) n rs
  obtain ⟨c, ys, nw, h1, h2⟩ := tl_room (l := (tArgs (tOf f) n rs).1) e (by rw [hg.1]; simp only [maxLen]; omega) (fun t ht => form_room e t (hg.2.2.form t ht)) m
  obtain ⟨v', h3⟩ := raws_suffix hv (args_suffix (of_suffix f) n rs)
  exact ⟨_, #[v'], nw, ⟨_, v', rfl, rfl, c, ys, rfl, h1, h3⟩, h2⟩
theorem args_next {g : List RawT → TT × List RawT} {m x : Nat} {rs rs1 : List RawT} {az : List TT} (hx : x < m) (h : tArgs g m rs = (az ++ (tArgs g (m - x) rs1).1, (tArgs g (m - x) rs1).2)) : tArgs g m rs = ((az ++ [(g rs1).1]) ++ (tArgs g (m - (x + 1)) (g rs1).2).1, (tArgs g (m - (x + 1)) (g rs1).2).2) := by
  rw [h, show m - x = (m - (x + 1)) + 1 by omega]
  simp [tArgs]
theorem args_fin {g : List RawT → TT × List RawT} {m x : Nat} {rs rs1 : List RawT} {az : List TT} (hx : x = m) (h : tArgs g m rs = (az ++ (tArgs g (m - x) rs1).1, (tArgs g (m - x) rs1).2)) : tArgs g m rs = (az, rs1) := by
  rw [h, hx, Nat.sub_self]; simp [tArgs]
theorem of_nil (f : Nat) : tOf f [] = (atomT ((4 - f : Nat) : Int), []) := by cases f <;> rfl
theorem of_cons (f : Nat) {rs : List RawT} (h : 0 < rs.length) : tOf (f + 1) rs = tNode (tOf f) (pkn rs[0].a 9) rs[0] (rs.drop 1) := by
  cases rs with
  | nil => simp at h
  | cons r l => rfl
theorem of_cons0 {rs : List RawT} (h : 0 < rs.length) : tOf 0 rs = (tLeaf (pkn (pkn rs[0].a 9) 3) rs[0], rs.drop 1) := by
  cases rs with
  | nil => simp at h
  | cons r l => rfl
theorem t_mk {G nw : Mem} {f : Nat} {rs R : List RawT} {T : TT} {c v' : Value} {ys : List Value} (h : tOf f rs = (T, R)) (hT : TL nw T.args c ys) (hR : Shows G 4 v' R.length (R.flatMap rawC)) : TermIs G f rs (.tuple #[.agg (tC T c), v']) nw := by
  unfold TermIs
  rw [h]
  exact ⟨c, ys, v', rfl, hT, hR⟩
theorem t_nil {G nw : Mem} {f dp : Nat} {rs : List RawT} (h : rs = []) (hd : dp = 4 - f) : TermIs G f rs (.tuple #[.agg (tC (atomT (dp : Int)) nilS), nilS]) nw := by
  subst h hd
  exact t_mk (of_nil f) tl_nil (.inl ⟨rfl, rfl, none, 0, rfl, fun _ => rfl⟩)
section
variable {G nw : Mem} {f kk : Nat} {rs : List RawT} {v : Value}
theorem leaf_pub {k : Nat} {r : RawT} (h : k = 0) : tLeaf k r = pubT (pkn r.b 5) := by rw [tLeaf, if_pos h]
theorem leaf_dh {k : Nat} {r : RawT} (h : k = 1) : tLeaf k r = ⟨3, ((min (pkn r.b 5) (pkn r.c 5) : Nat) : Int), ((max (pkn r.b 5) (pkn r.c 5) : Nat) : Int), []⟩ := by rw [tLeaf, if_neg (by omega), if_pos h]
theorem leaf_atom {k : Nat} {r : RawT} (h : k ≠ 0 ∧ k ≠ 1) : tLeaf k r = atomT (pkn r.b 5) := by rw [tLeaf, if_neg h.1, if_neg h.2]
theorem node_leaf {g : List RawT → TT × List RawT} {k : Nat} {r : RawT} {l : List RawT} (h : k < 3 ∨ 7 < k) : tNode g k r l = (tLeaf k r, l) := by
  rw [tNode, if_neg (by omega), if_neg (by omega), if_neg (by omega), if_neg (by omega)]
theorem leaf_args {k : Nat} {r : RawT} : (tLeaf k r).args = [] := by
  unfold tLeaf; split; rfl; split <;> rfl
theorem t_leaf {T : TT} (h0 : 0 < rs.length) (hv : Shows G 4 v rs.length (rs.flatMap rawC)) (hkk : kk = pkn rs[0].a 9) (hT : tLeaf kk rs[0] = T) (h : kk < 3 ∨ 7 < kk) : TermIs G (f + 1) rs (.tuple #[.agg (tC T nilS), slPart 4 v 1 rs.length]) nw := by
  subst hT
  refine t_mk (by rw [of_cons f h0, ← hkk, node_leaf h]) (ys := []) ?_ (raws_drop hv 1 (by omega))
  rw [leaf_args]; exact tl_nil
theorem t_node {T : TT} {n : Nat} {c v' : Value} {ys : List Value} {b : Mem} (h0 : 0 < rs.length) (hkk : kk = pkn rs[0].a 9) (hT : tNode (tOf f) kk rs[0] (rs.drop 1) = (T, (tArgs (tOf f) n (rs.drop 1)).2)) (ht : TL nw T.args c ys) (hv : Shows G 4 v' (tArgs (tOf f) n (rs.drop 1)).2.length ((tArgs (tOf f) n (rs.drop 1)).2.flatMap rawC)) : TermIs G (f + 1) rs (.tuple #[.agg (tC T c), v']) (b ++ nw) :=
  t_mk (by rw [of_cons f h0, ← hkk, hT]) (ht.mono fun _ hx => List.mem_append_right _ hx) hv
end
theorem node_3 {g : List RawT → TT × List RawT} {k : Nat} {r : RawT} {l : List RawT} (h : k = 3) : tNode g k r l = (⟨4, 0, 0, (tArgs g 2 l).1⟩, (tArgs g 2 l).2) := by rw [tNode, if_pos h]
theorem node_4 {g : List RawT → TT × List RawT} {k : Nat} {r : RawT} {l : List RawT} (h : k = 4) : tNode g k r l = (⟨5, 0, 0, (tArgs g 1 l).1⟩, (tArgs g 1 l).2) := by rw [tNode, if_neg (by omega), if_pos h]
theorem node_5 {g : List RawT → TT × List RawT} {k : Nat} {r : RawT} {l : List RawT} (h : k = 5) : tNode g k r l = (⟨6, pkn r.c 3, 0, (tArgs g 2 l).1⟩, (tArgs g 2 l).2) := by rw [tNode, if_neg (by omega), if_neg (by omega), if_pos h]
theorem node_6 {g : List RawT → TT × List RawT} {k : Nat} {r : RawT} {l : List RawT} (h : k = 6 ∨ k = 7) : tNode g k r l = (⟨7, 0, 0, (tArgs g 3 l).1⟩, (tArgs g 3 l).2) := by rw [tNode, if_neg (by omega), if_neg (by omega), if_neg (by omega), if_pos h]
theorem t_leaf0 {G nw : Mem} {kk k2 : Nat} {rs : List RawT} {v : Value} {T : TT} (h0 : 0 < rs.length) (hv : Shows G 4 v rs.length (rs.flatMap rawC)) (hkk : kk = pkn rs[0].a 9) (hk2 : k2 = pkn kk 3) (hT : tLeaf k2 rs[0] = T) : TermIs G 0 rs (.tuple #[.agg (tC T nilS), slPart 4 v 1 rs.length]) nw := by
  subst hT
  refine t_mk (by rw [of_cons0 h0, ← hkk, ← hk2]) (ys := []) ?_ (raws_drop hv 1 (by omega))
  rw [leaf_args]; exact tl_nil
theorem ts_next {n : Nat} {q0 q1 : List RawT} {az : List TT} (h0 : 0 < q1.length) (hl : az.length < n) (h : tsOf 4 n q0 = az ++ tsOf 4 (n - az.length) q1) : tsOf 4 n q0 = (az ++ [(tOf 4 q1).1]) ++ tsOf 4 (n - (az ++ [(tOf 4 q1).1]).length) (tOf 4 q1).2 := by
  cases q1 with
  | nil => simp at h0
  | cons r l =>
    rw [h, List.length_append, List.length_singleton, show n - az.length = (n - (az.length + 1)) + 1 by omega]
    simp [tsOf]
theorem ts_fin {n : Nat} {q0 q1 : List RawT} {az : List TT} (hn : az.length ≤ n) (hc : q1.length = 0 ∨ ¬ az.length < n) (h : tsOf 4 n q0 = az ++ tsOf 4 (n - az.length) q1) : tsOf 4 n q0 = az := by
  rw [h]
  rcases hc with h1 | h1
  · have h0 : q1 = [] := List.length_eq_zero_iff.1 h1
    subst h0
    cases n - az.length <;> simp [tsOf]
  · rw [show n - az.length = 0 by omega]; simp [tsOf]
theorem terms_facts {n : Nat} (hn : n ≤ 6) (rs : List RawT) : nodesL (tsOf 4 n (rs.take 24)) ≤ 78 ∧ (∀ t ∈ tsOf 4 n (rs.take 24), t.form = 0) ∧ (∀ t ∈ tsOf 4 n (rs.take 24), t.deep ≤ 5) ∧ (∀ t ∈ tsOf 4 n (rs.take 24), cleanT (atomT 99) t) ∧ (tsOf 4 n (rs.take 24)).length ≤ 6 := by
  obtain ⟨h1, h2⟩ := ts_good (f := 4) (by decide) n (rs.take 24)
  have h3 := h2.nodes
  have h4 : (rs.take 24).length ≤ 24 := by simp; omega
  exact ⟨by omega, h2.form, h2.deep, h2.clean, by omega⟩
theorem term_facts {k : Nat} (hk : k ≤ 6) (rs : List RawT) : (tOf 4 (rs.take k)).1.form = 0 ∧ (tOf 4 (rs.take k)).1.nodes ≤ 19 ∧ (tOf 4 (rs.take k)).1.deep ≤ 5 ∧ cleanT (atomT 99) (tOf 4 (rs.take k)).1 := by
  obtain ⟨h1, h2⟩ := of_good 4 (by decide) (rs.take k)
  have h3 := h2.nodes
  have h4 : (rs.take k).length ≤ 6 := by simp; omega
  exact ⟨h2.form, by omega, h2.deep, h2.clean⟩
theorem terms_room (e : TypeId) {n : Nat} (hn : n ≤ 6) (rs : List RawT) (m : Mem) : ∃ w nw, (∃ xs, TL nw (tsOf 4 n (rs.take 24)) w xs) ∧ FreshM m nw := by
  obtain ⟨_, h2, _, _, h5⟩ := terms_facts hn rs
  obtain ⟨c, xs, nw, h6, h7⟩ := tl_room e (by simp only [maxLen]; omega) (fun t ht => form_room e t (h2 t ht)) m
  exact ⟨c, nw, ⟨xs, h6⟩, h7⟩
theorem bool_of (p : Prop) : ∃ b : Bool, b = true ↔ p := by
  rcases Classical.em p with h | h
  · exact ⟨true, by simp [h]⟩
  · exact ⟨false, by simp [h]⟩
theorem nodesL_app (l m : List TT) : nodesL (l ++ m) = nodesL l + nodesL m := by
  unfold nodesL; rw [List.map_append, List.sum_append]
theorem nodesL_one (t : TT) : nodesL [t] = t.nodes := by simp [nodesL]
theorem atom_fits (i : Int) : fitsL [atomT i] = true := fits_of (by rw [nodesL_one, TT.nodes_eq]; simp [nodesL]) (fun t ht => by
  rw [List.mem_singleton.1 ht, TT.deep_eq]; simp [deepL, mx])
theorem atom_form {i : Int} (h : 0 ≤ i) : (atomT i).form = 0 := by
  rw [form_eq, if_neg (show ¬ ((1 : Int) < 1 ∨ (7 : Int) < 1) by decide), if_neg (by simp [wdt, numB]; omega)]; rfl
theorem atom_chk {i : Int} (h : 0 ≤ i) : chkT (atomT i) = 0 := chk_of (atom_form h) (by rw [TT.nodes_eq]; simp [nodesL]) (by rw [TT.deep_eq]; simp [deepL, mx])
theorem pub_chk {i : Int} (h : 0 ≤ i) : chkT (pubT i) = 0 := chk_of (by rw [form_eq, if_neg (show ¬ ((2 : Int) < 1 ∨ (7 : Int) < 2) by decide), if_neg (by simp [wdt, numB]; omega)]; rfl) (by rw [TT.nodes_eq]; simp [nodesL]) (by rw [TT.deep_eq]; simp [deepL, mx])
theorem tells_yes : true = true ↔ KN [atomT 1] (atomT 1) := ⟨fun _ => canP_atom.2 (has_in (by simp)), fun _ => rfl⟩
theorem tells_no : false = true ↔ KN [atomT 1] (atomT 2) := by
  constructor
  · intro h; cases h
  · intro h
    have h1 := canP_atom.1 h (fun x => x = atomT 1) (fun y hy => List.mem_singleton.1 hy) (fun y hy _ x hx => by
      subst hy
      rw [prT, if_neg (show ¬ (1 : Int) = 4 by decide), if_neg (show ¬ (1 : Int) = 7 by decide)] at hx
      cases hx)
    exact absurd (congrArg TT.id h1) (show ¬ (2 : Int) = 1 by decide)
theorem b_more {b1 b2 : Bool} {p q : Prop} (h1 : b1 = true ↔ p) (h2 : b2 = true ↔ q) (h : p → q) : b1 = false ∨ (b1 = true ∧ b2 = true) := by
  cases b1 with
  | false => exact .inl rfl
  | true => exact .inr ⟨rfl, h2.2 (h (h1.1 rfl))⟩
theorem b_same {b2 b3 : Bool} {q r : Prop} (h2 : b2 = true ↔ q) (h3 : b3 = true ↔ r) (h : r ↔ q) : b2 = b3 := Bool.eq_iff_iff.2 (h2.trans (h.symm.trans h3.symm))
theorem cons_of {α : Type} {l : List α} {n : Nat} (h : l.length = n + 1) : ∃ a t, l = a :: t ∧ t.length = n := by
  cases l with
  | nil => simp at h
  | cons a t => exact ⟨a, t, rfl, by simpa using h⟩
theorem eight {Z : Array Value} (hZ : Z.size = 8) : ∃ a b c d e f g h, Z = #[a, b, c, d, e, f, g, h] := by
  obtain ⟨l0⟩ := Z
  have h0 : l0.length = 8 := hZ
  obtain ⟨a, l1, rfl, h1⟩ := cons_of h0
  obtain ⟨b, l2, rfl, h2⟩ := cons_of h1
  obtain ⟨c, l3, rfl, h3⟩ := cons_of h2
  obtain ⟨d, l4, rfl, h4⟩ := cons_of h3
  obtain ⟨e, l5, rfl, h5⟩ := cons_of h4
  obtain ⟨f, l6, rfl, h6⟩ := cons_of h5
  obtain ⟨g, l7, rfl, h7⟩ := cons_of h6
  obtain ⟨h, l8, rfl, h8⟩ := cons_of h7
  obtain rfl : l8 = [] := List.length_eq_zero_iff.1 h8
  exact ⟨a, b, c, d, e, f, g, h, rfl⟩
theorem twelve {Z : Array Value} (hZ : Z.size = 12) : ∃ a b c d e f g h i1 j1 k1 m1, Z = #[a, b, c, d, e, f, g, h, i1, j1, k1, m1] := by
  obtain ⟨l0⟩ := Z
  have h0 : l0.length = 12 := hZ
  obtain ⟨a, l1, rfl, h1⟩ := cons_of h0
  obtain ⟨b, l2, rfl, h2⟩ := cons_of h1
  obtain ⟨c, l3, rfl, h3⟩ := cons_of h2
  obtain ⟨d, l4, rfl, h4⟩ := cons_of h3
  obtain ⟨e, l5, rfl, h5⟩ := cons_of h4
  obtain ⟨f, l6, rfl, h6⟩ := cons_of h5
  obtain ⟨g, l7, rfl, h7⟩ := cons_of h6
  obtain ⟨h, l8, rfl, h8⟩ := cons_of h7
  obtain ⟨i1, l9, rfl, h9⟩ := cons_of h8
  obtain ⟨j1, l10, rfl, h10⟩ := cons_of h9
  obtain ⟨k1, l11, rfl, h11⟩ := cons_of h10
  obtain ⟨m1, l12, rfl, h12⟩ := cons_of h11
  obtain rfl : l12 = [] := List.length_eq_zero_iff.1 h12
  exact ⟨a, b, c, d, e, f, g, h, i1, j1, k1, m1, rfl⟩
theorem fill_tC2 {Z : Array Value} (hZ : Z.size = 8) {t u : TT} {c c2 : Value} : Instr.fill (fun i => some (i * 4, 4)) Z [(0, .agg (tC t c)), (1, .agg (tC u c2))] = some ((tC t c).toList ++ (tC u c2).toList).toArray := by
  obtain ⟨a, b, c, d, e, f, g, h, rfl⟩ := eight hZ
  kernel_rfl
theorem fill_tC3 {Z : Array Value} (hZ : Z.size = 12) {t u s : TT} {c c2 c3 : Value} : Instr.fill (fun i => some (i * 4, 4)) Z [(0, .agg (tC t c)), (1, .agg (tC u c2)), (2, .agg (tC s c3))] = some ((tC t c).toList ++ (tC u c2).toList ++ (tC s c3).toList).toArray := by
  obtain ⟨a, b, c, d, e, f, g, h, i, j, k, l, rfl⟩ := twelve hZ
  kernel_rfl
theorem tl_blk {G : Mem} {l : List TT} {xs : List Value} {r : Nat} {ty : TypeId} {n : Nat} (h : TO G l xs) (hn : l.length = n) (hm : (⟨r, xs.toArray, ty⟩ : Blk) ∈ G) (hl : n ≤ 1000) : TL G l (.slice (some ⟨r, 0, none⟩) n n) xs := by
  subst hn
  refine ⟨by simp only [maxLen]; omega, .inr ⟨r, 0, l.length, _, ty, rfl, Nat.le_refl _, hm, h.1, by have := h.1; simp; omega, fun j u hu => by rw [Nat.zero_add]; simpa using hu⟩, h.2⟩
theorem pair_chk {t u : TT} (h1 : t.form = 0) (h2 : u.form = 0) (h3 : t.nodes ≤ 19) (h4 : u.nodes ≤ 19) (h5 : t.deep ≤ 5) (h6 : u.deep ≤ 5) : chkT ⟨4, 0, 0, [t, u]⟩ = 0 := by
  refine chk_of ?_ ?_ ?_
  · rw [form_eq, if_neg (show ¬ ((4 : Int) < 1 ∨ (7 : Int) < 4) by decide), if_neg (by simp [wdt, numB])]
    exact fst1_all fun x hx => by
      rcases List.mem_cons.1 hx with rfl | hx
      · exact h1
      · rw [List.mem_singleton.1 hx]; exact h2
  · rw [TT.nodes_eq]; simp [nodesL]; omega
  · rw [TT.deep_eq]
    have : deepL [t, u] ≤ 5 := deepL_le.2 fun x hx => by
      rcases List.mem_cons.1 hx with rfl | hx
      · exact h5
      · rw [List.mem_singleton.1 hx]; exact h6
    simp only; omega
theorem dh_chk {m n : Nat} : chkT ⟨3, ((min m n : Nat) : Int), ((max m n : Nat) : Int), []⟩ = 0 := by
  refine chk_of ?_ ?_ ?_
  · rw [form_eq, if_neg (show ¬ ((3 : Int) < 1 ∨ (7 : Int) < 3) by decide), if_neg (by simp [wdt, numB]; omega)]; rfl
  · rw [TT.nodes_eq]; simp [nodesL]
  · rw [TT.deep_eq]; simp [deepL, mx]
theorem box_form {k : TT} (h1 : k.form = 0) {i : Int} (hi : 0 ≤ i) : (boxT k (atomT i)).form = 0 := by
  rw [form_eq, if_neg (show ¬ ((7 : Int) < 1 ∨ (7 : Int) < 7) by decide), if_neg (by simp [wdt, numB])]
  exact fst1_all fun x hx => by
    rcases List.mem_cons.1 hx with rfl | hx
    · exact h1
    rcases List.mem_cons.1 hx with rfl | hx
    · exact atom_form (by decide)
    · rw [List.mem_singleton.1 hx]; exact atom_form hi
theorem box_nodes {k : TT} (h : k.nodes ≤ 19) {i : Int} : (boxT k (atomT i)).nodes ≤ 30 := by
  have e : ∀ j : Int, (atomT j).nodes = 1 := fun j => by rw [TT.nodes_eq]; simp [nodesL]
  rw [TT.nodes_eq]; simp [nodesL, e]; omega
theorem box_deep {k : TT} (h : k.deep ≤ 5) {i : Int} : (boxT k (atomT i)).deep ≤ 6 := by
  have e : ∀ j : Int, (atomT j).deep = 1 := fun j => by rw [TT.deep_eq]; simp [deepL, mx]
  rw [TT.deep_eq]
  have : deepL [k, atomT 0, atomT i] ≤ 5 := deepL_le.2 fun x hx => by
    rcases List.mem_cons.1 hx with rfl | hx
    · exact h
    rcases List.mem_cons.1 hx with rfl | hx
    · rw [e]; decide
    · rw [List.mem_singleton.1 hx, e]; decide
  simp only; omega
theorem b_all {b1 b2 b3 : Bool} {p q r : Prop} (h1 : b1 = true ↔ p) (h2 : b2 = true ↔ q) (h3 : b3 = true ↔ r) (h : p → (r ↔ q)) : b1 = false ∨ (b1 = true ∧ b2 = b3) := by
  cases b1 with
  | false => exact .inl rfl
  | true => exact .inr ⟨rfl, b_same h2 h3 (h (h1.1 rfl))⟩
theorem b_pair {b1 b2 b3 : Bool} {p q r : Prop} (h1 : b1 = true ↔ p) (h2 : b2 = true ↔ q) (h3 : b3 = true ↔ r) (h : r ↔ p ∧ q) : (b1 = false ∧ b3 = false) ∨ (b1 = true ∧ b3 = b2) := by
  cases b1 with
  | false =>
    refine .inl ⟨rfl, ?_⟩
    cases b3 with
    | false => rfl
    | true => exact absurd (h1.2 (h.1 (h3.1 rfl)).1) (by decide)
  | true => exact .inr ⟨rfl, Bool.eq_iff_iff.2 (h3.trans (h.trans ⟨fun g => h2.2 g.2, fun g => ⟨h1.1 rfl, h2.1 g⟩⟩))⟩
theorem b_dh {b4 b5 b6 : Bool} {s v w : Prop} (h4 : b4 = true ↔ s) (h5 : b5 = true ↔ v) (h6 : b6 = true ↔ w) (h : s → v → w) : b4 = false ∨ (b4 = true ∧ b5 = false) ∨ (b4 = true ∧ b5 = true ∧ b6 = true) := by
  cases b4 with
  | false => exact .inl rfl
  | true =>
    cases b5 with
    | false => exact .inr (.inl ⟨rfl, rfl⟩)
    | true => exact .inr (.inr ⟨rfl, rfl, h6.2 (h (h4.1 rfl) (h5.1 rfl))⟩)
theorem KN_dhN {a : List TT} {m n : Nat} (h1 : KN a (atomT m)) (h2 : KN a (pubT n)) : KN a ⟨3, ((min m n : Nat) : Int), ((max m n : Nat) : Int), []⟩ := by
  have := KN_dh h1 h2
  rw [show ((min m n : Nat) : Int) = min (m : Int) (n : Int) by omega, show ((max m n : Nat) : Int) = max (m : Int) (n : Int) by omega]
  exact this
end Go.Proofs.Ytnkelhmfpepehaa
namespace Go.Proofs.Ytnkelhmfpepehaa
open Go Go.RowKit
section
variable {P : Program} {G : Mem} {R : Reg} {ops : Array Oper} {K : Act → Mem → Prop} {rest : List Oper} {a : Act} {m : Mem} {d : Option Tmp} {ty : TypeId} {pos : String} {aft : Array Edge}
variable {T T' : TypeId} {x y : Operand}
theorem st_eqNil {e : TypeId} {oa : Option Addr} {len cap : Nat} (hT : P.underlying T = some (.slice e)) (hx : a.eval x = .slice oa len cap) (hy : a.eval y = nilS) (h : opsM P G R ops K rest (a.put d (.bool oa.isNone)) m) :
    opsM P G R ops K (⟨d, .binOp .eql T x y T', ty, pos, aft, none⟩ :: rest) a m :=
  st_bin (fun w => by
    have h1 : (Op.equalIn 10000 T (.slice oa len cap) (.slice none 0 0)).run P w = .ok oa.isNone w := by
      unfold Op.equalIn
      rw [Sem.run_bind, run_underlying hT]
      cases oa <;> rfl
    rw [hx, hy]
    simp only [Sem.run_bind, eqGuard, binOp, Op.equal, Op.maxDepth]
    simp [h1]) h
end
section
variable {P : Program} {G : Mem} {R : Reg} {ops : Array Oper} {n : Nat} {K : Env → Mm → Prop} {Q : Exit → Env → Mm → Prop} {rest : List Oper} {E : Env} {M : Mm} {d : Nat} {ty : TypeId} {pos : String} {aft : Array Edge}
variable {T T' : TypeId} {x y : Operand}
theorem e_eqNil {e : TypeId} {v : Value} {B : Mem} {z k : Nat} {xs : List Value} (hv : Shows B z v k xs) (hT : P.underlying T = some (.slice e)) (hx : rd E x = some v) (hy : rd E y = some nilS) (hd : Nat.blt d n = true)
    (h : ∀ b : Bool, (b = true → k = 0) → OpsE P G R ops n K rest ((d, .bool b) :: E) M) : OpsE P G R ops n K (⟨some d, .binOp .eql T x y T', ty, pos, aft, none⟩ :: rest) E M := fun _ _ ha hM => by
  rcases hv with ⟨h0, _, oa, cap, rfl, _⟩ | ⟨b, o, cap, c, t, rfl, _⟩
  · exact st_eqNil hT (ha.rd hx) (ha.rd hy) (h _ (fun _ => h0) _ _ (ha.put hd _) hM)
  · exact st_eqNil hT (ha.rd hx) (ha.rd hy) (h _ (fun hb => by cases hb) _ _ (ha.put hd _) hM)
theorem any_opt {oz : Option Blk} (i : Nat) (hi : lkM M i = oz) : ∀ q ∈ oz.toList, q ∈ G ∨ ∃ j, lkM M j = some q := fun q hq => by
  cases oz with
  | none => cases hq
  | some z =>
    simp at hq
    subst hq
    exact .inr ⟨i, hi⟩
end
section
variable {P : Program} {G : Mem} {R : Reg} {ops : Array Oper} {K : Act → Mem → Prop} {rest : List Oper} {a : Act} {m : Mem} {d : Option Tmp} {ty : TypeId} {pos : String} {aft : Array Edge}
variable {T T' : TypeId} {x y : Operand}
end
section
variable {P : Program} {G : Mem} {R : Reg} {ops : Array Oper} {n : Nat} {K : Env → Mm → Prop} {rest : List Oper} {E : Env} {M : Mm} {d : Nat} {ty : TypeId} {pos : String} {aft : Array Edge}
variable {T T' : TypeId} {x y : Operand}
end
section
variable {P : Program} {G : Mem} {n : Nat}
end
end Go.Proofs.Ytnkelhmfpepehaa
namespace Go.Proofs.Ytnkelhmfpepehaa
open Go Go.ChangeShapes Go.WideShapes Go.ChangeAt Go.RowKit
section
variable {H : Type} {enc : TypeId × Value → H} {P : Program} {w : World} {base : Nat} {spare : Nat → Bool} {held : Bool}
theorem trodAll_five {t0 t1 t2 t3 t4 : TypeId} {args : Array Value} {ds : List (DataW H)} {ps : List MemPlace} (h : DataW.TrodAll enc P w base spare held [t0, t1, t2, t3, t4] args.toList ds ps) :
    ∃ v0 v1 v2 v3 v4 d0 d1 d2 d3 d4 p0 p1 p2 p3 p4, args = #[v0, v1, v2, v3, v4] ∧ ds = [d0, d1, d2, d3, d4] ∧ ps = p0 ++ p1 ++ p2 ++ p3 ++ p4 ∧ DataW.Trod enc P w base spare held t0 v0 d0 p0 ∧ DataW.Trod enc P w base spare held t1 v1 d1 p1 ∧ DataW.Trod enc P w base spare held t2 v2 d2 p2 ∧ DataW.Trod enc P w base spare held t3 v3 d3 p3 ∧ DataW.Trod enc P w base spare held t4 v4 d4 p4 := by
  obtain ⟨v0, vs0, d0, ds0, p0, q0, hargs, rfl, rfl, h0, hr0⟩ := trodAll_cons h
  obtain ⟨v1, vs1, d1, ds1, p1, q1, rfl, rfl, rfl, h1, hr1⟩ := trodAll_cons hr0
  obtain ⟨v2, vs2, d2, ds2, p2, q2, rfl, rfl, rfl, h2, hr2⟩ := trodAll_cons hr1
  obtain ⟨v3, vs3, d3, ds3, p3, q3, rfl, rfl, rfl, h3, hr3⟩ := trodAll_cons hr2
  obtain ⟨v4, vs4, d4, ds4, p4, q4, rfl, rfl, rfl, h4, hr4⟩ := trodAll_cons hr3
  obtain ⟨rfl, rfl, rfl⟩ := trodAll_nil hr4
  exact ⟨v0, v1, v2, v3, v4, d0, d1, d2, d3, d4, p0, p1, p2, p3, p4, by cases args; simp_all, rfl, by simp, h0, h1, h2, h3, h4⟩
theorem trodAll_mk5 {t0 t1 t2 t3 t4 : TypeId} {v0 v1 v2 v3 v4 : Value} {d0 d1 d2 d3 d4 : DataW H} {p0 p1 p2 p3 p4 : List MemPlace} (h0 : DataW.Trod enc P w base spare held t0 v0 d0 p0) (h1 : DataW.Trod enc P w base spare held t1 v1 d1 p1) (h2 : DataW.Trod enc P w base spare held t2 v2 d2 p2) (h3 : DataW.Trod enc P w base spare held t3 v3 d3 p3) (h4 : DataW.Trod enc P w base spare held t4 v4 d4 p4) : DataW.TrodAll enc P w base spare held [t0, t1, t2, t3, t4] [v0, v1, v2, v3, v4] [d0, d1, d2, d3, d4] (p0 ++ (p1 ++ (p2 ++ (p3 ++ p4)))) := ⟨p0, (p1 ++ (p2 ++ (p3 ++ p4))), h0, trodAll_mk4 h1 h2 h3 h4, rfl⟩
end
theorem memR_two {W : World} {m m2 : Mem} (h : MemR m W) (hm : MemR m2 W) : MemR (m ++ m2) W := fun y hy => (List.mem_append.1 hy).elim (h y) (hm y)
end Go.Proofs.Ytnkelhmfpepehaa
/-
  Facts on this program's types, in tables.
-/
namespace Go.Proofs.Ytnkelhmfpepehaa
open Go Go.RowKit
def lkT {α : Type} : List (Nat × α) → Nat → Option α
  | [], _ => none
  | (k, a) :: l, t => bif Nat.beq k t then some a else lkT l t
theorem lkT_map {α : Type} {f : Nat → Option α} : ∀ {L : List (Nat × α)} {t : Nat} {d : α}, L.map (fun p => f p.1) = L.map (fun p => some p.2) → lkT L t = some d → f t = some d
  | [], _, _, _, h => by cases h
  | (k, a) :: L, t, d, h, hk => by
    rw [List.map_cons, List.map_cons, List.cons.injEq] at h
    unfold lkT at hk
    cases hb : Nat.beq k t with
    | true => rw [hb] at hk; rw [← Nat.eq_of_beq_eq_true hb, h.1]; exact hk
    | false => rw [hb] at hk; exact lkT_map h.2 hk
theorem mixed : Try.prog.follows .mixedOrders = true := by kernel_rfl
def tbu : List (Nat × TypeDesc) := [(3, (.int .i64)), (4, (.bool)), (22, (.slice 24)), (24, (.struct #[.mk "Kind" 3 0 false "" "" 0, .mk "Id" 3 1 false "" "" 8, .mk "Other" 3 2 false "" "" 16, .mk "Args" 22 3 false "" "" 24])), (31, (.slice 52)), (49, (.func #[24] #[4] false)), (52, (.struct #[.mk "Kind" 3 0 false "" "" 0, .mk "A" 3 1 false "" "" 8, .mk "B" 3 2 false "" "" 16, .mk "Text" 9 3 false "" "" 24])), (56, (.slice 3))]
theorem tbu_ok : tbu.map (fun p => (fun t => Try.prog.underlying t) p.1) = tbu.map (fun p => some p.2) := by kernel_rfl
set_option maxRecDepth 100000 in
theorem Tu {T : TypeId} {d : TypeDesc} (h : lkT tbu T = some d) : Try.prog.underlying T = some d := lkT_map (L := tbu) (f := fun t => Try.prog.underlying t) tbu_ok h
theorem Uu (T : TypeId) {d : TypeDesc} (h : lkT tbu T = some d := by rfl) : Try.prog.underlying T = some d := Tu h
def tbz : List (Nat × Nat) := [(3, 1), (22, 1), (24, 4), (31, 1), (49, 1), (52, 4)]
theorem tbz_ok : tbz.map (fun p => (fun t => (Try.prog.info? t).map (·.size)) p.1) = tbz.map (fun p => some p.2) := by kernel_rfl
set_option maxRecDepth 100000 in
theorem Tz {T : TypeId} {d : Nat} (h : lkT tbz T = some d) : (Try.prog.info? T).map (·.size) = some d := lkT_map (L := tbz) (f := fun t => (Try.prog.info? t).map (·.size)) tbz_ok h
theorem Uz (T : TypeId) {d : Nat} (h : lkT tbz T = some d := by rfl) : (Try.prog.info? T).map (·.size) = some d := Tz h
def tby : List (Nat × Nat) := [(24, 48)]
theorem tby_ok : tby.map (fun p => (fun t => (Try.prog.info? t).map (·.bytes)) p.1) = tby.map (fun p => some p.2) := by kernel_rfl
set_option maxRecDepth 100000 in
theorem Ty {T : TypeId} {d : Nat} (h : lkT tby T = some d) : (Try.prog.info? T).map (·.bytes) = some d := lkT_map (L := tby) (f := fun t => (Try.prog.info? t).map (·.bytes)) tby_ok h
theorem Uy (T : TypeId) {d : Nat} (h : lkT tby T = some d := by rfl) : (Try.prog.info? T).map (·.bytes) = some d := Ty h
def tbb : List (Nat × Value) := [(3, (.int .i64 0)), (22, (.slice none 0 0)), (24, (.agg (cells 4 [pV (.int .i64 0), pV (.int .i64 0), pV (.int .i64 0), pV (.slice none 0 0)]))), (49, .nilFunc), (52, (.agg (cells 4 [pV (.int .i64 0), pV (.int .i64 0), pV (.int .i64 0), pV (.string ByteArray.empty)])))]
theorem tbb_ok : tbb.map (fun p => (fun t => (Try.prog.info? t).bind (·.zero)) p.1) = tbb.map (fun p => some p.2) := by kernel_rfl
set_option maxRecDepth 100000 in
theorem Tb {T : TypeId} {d : Value} (h : lkT tbb T = some d) : (Try.prog.info? T).bind (·.zero) = some d := lkT_map (L := tbb) (f := fun t => (Try.prog.info? t).bind (·.zero)) tbb_ok h
theorem Ub (T : TypeId) {d : Value} (h : lkT tbb T = some d := by rfl) : (Try.prog.info? T).bind (·.zero) = some d := Tb h
def tbn : List Nat := [9, 10, 11, 12, 13, 15, 16, 17, 18, 19, 20, 21, 22, 23, 24, 25, 26, 27, 33, 34, 35, 36, 37, 38, 39, 40, 41, 42, 43, 44, 46, 47]
theorem tbn_ok : tbn.all (fun f => enters Try.prog f) = true := by kernel_rfl
theorem Un (f : FuncId) (h : tbn.contains f = true := by rfl) : enters Try.prog f = true := List.all_eq_true.1 tbn_ok f (List.contains_iff_mem.1 h)
end Go.Proofs.Ytnkelhmfpepehaa
/-
  Rules with short names.
-/
namespace Go.Proofs.Ytnkelhmfpepehaa
open Go Go.RowKit
variable {G : Mem} {R : Reg} {ops : Array Oper} {n : Nat} {K : Env → Mm → Prop} {Q : Exit → Env → Mm → Prop} {rest : List Oper} {E : Env} {M : Mm} {d : Nat} {ty : TypeId} {pos : String} {aft : Array Edge} {T : TypeId} {T' : TypeId} {x : Operand} {y : Operand}
theorem Qs {c : Code} {c' : Code} : (SatE Try.prog G c n (thenE (SatE Try.prog G c' n Q) Q) E M) → SatE Try.prog G (.seq c c') n Q E M := fun h => e_seq h
theorem Qp {id : Nat} : (OpsE Try.prog G noReg ops n (Q .normal) ops.toList E M) → SatE Try.prog G (.region id ops false) n Q E M := fun h => e_plain h
theorem Qn : (K E M) → OpsE Try.prog G R ops n K [] E M := fun h => e_nil h
theorem Qk : (Q .normal E M) → SatE Try.prog G .skip n Q E M := fun h => e_skip h
theorem Qb {id : Nat} {c : Code} : (SatE Try.prog G c n (inBlockE id Q) E M) → SatE Try.prog G (.block id c) n Q E M := fun h => e_block h
theorem Qe {id : Nat} : (Q (.exit id) E M) → SatE Try.prog G (.exit id) n Q E M := fun h => e_exit h
theorem Qr : (Q .ret E M) → SatE Try.prog G .ret n Q E M := fun h => e_ret h
theorem Qm {v : Value} (hx : rd E x = some v := by rfl) (hd : Nat.blt d n = true := by rfl) : (OpsE Try.prog G R ops n K rest ((d, v) :: E) M) → OpsE Try.prog G R ops n K (⟨some d, .move x, ty, pos, aft, none⟩ :: rest) E M := fun h => e_move hx hd h
theorem Qa {v : Value} (hx : rd E x = some v := by rfl) (hd : Nat.blt d n = true := by rfl) : (OpsE Try.prog G R ops n K rest ((d, v) :: E) M) → OpsE Try.prog G R ops n K (⟨some d, .assign x, ty, pos, aft, none⟩ :: rest) E M := fun h => e_assign hx hd h
theorem Qx {i : Nat} {vs : Array Value} {v : Value} (hx : rd E x = some (.tuple vs) := by rfl) (hv : vs[i]? = some v := by rfl) (hd : Nat.blt d n = true := by rfl) : (OpsE Try.prog G R ops n K rest ((d, v) :: E) M) → OpsE Try.prog G R ops n K (⟨some d, .extract x i, ty, pos, aft, none⟩ :: rest) E M := fun h => e_extract hx hv hd h
theorem Qy {dd : Option Tmp} {op : Op} {g : Nat} {s : Nat} {want : Bool} {b : Bool} (hg : (ops[g]?).bind (·.dst) = some s := by rfl) (hb : lk E s = some (.bool b) := by rfl) (hw : b = want := by rfl) : (OpsE Try.prog G R ops n K (⟨dd, op, ty, pos, aft, none⟩ :: rest) E M) → OpsE Try.prog G R ops n K (⟨dd, op, ty, pos, aft, some (g, want)⟩ :: rest) E M := fun h => e_yes hg hb hw h
theorem Qo {op : Op} {g : Nat} {s : Nat} {want : Bool} {b : Bool} (hg : (ops[g]?).bind (·.dst) = some s := by rfl) (hb : lk E s = some (.bool b) := by rfl) (hw : b ≠ want := by decide) (hd : Nat.blt d n = true := by rfl) : (OpsE Try.prog G R ops n K rest ((d, undef) :: E) M) → OpsE Try.prog G R ops n K (⟨some d, op, ty, pos, aft, some (g, want)⟩ :: rest) E M := fun h => e_no hg hb hw hd h
theorem QT {p : Operand} {q : Operand} {r : Operand} {t : Bool} {v : Value} (hc : rd E p = some (.bool t) := by rfl) (ht : t = true := by rfl) (hv : rd E q = some v := by rfl) (hd : Nat.blt d n = true := by rfl) : (OpsE Try.prog G R ops n K rest ((d, v) :: E) M) → OpsE Try.prog G R ops n K (⟨some d, .pick p q r, ty, pos, aft, none⟩ :: rest) E M := fun h => e_pickT hc ht hv hd h
theorem QF {p : Operand} {q : Operand} {r : Operand} {t : Bool} {v : Value} (hc : rd E p = some (.bool t) := by rfl) (ht : t = false := by rfl) (hv : rd E r = some v := by rfl) (hd : Nat.blt d n = true := by rfl) : (OpsE Try.prog G R ops n K rest ((d, v) :: E) M) → OpsE Try.prog G R ops n K (⟨some d, .pick p q r, ty, pos, aft, none⟩ :: rest) E M := fun h => e_pickF hc ht hv hd h
theorem Qg {id : Nat} (hm : Try.prog.follows .mixedOrders = true := by exact mixed) (hok : orderOk noReg ops (List.range ops.size) = true := by kernel_rfl) : (OpsE Try.prog G noReg ops n (Q .normal) ops.toList E M) → SatE Try.prog G (.region id ops true) n Q E M := fun h => e_draw hm hok h
theorem QR {id : Nat} (R : Reg) : (OpsE Try.prog G R ops n (Q .normal) ops.toList E M) → SatE Try.prog G (.region id ops false) n Q E M := fun h => e_plainR R h
theorem Qq {id : Nat} (R : Reg) (hm : Try.prog.follows .mixedOrders = true := by exact mixed) (hok : orderOk R ops (List.range ops.size) = true := by kernel_rfl) : (OpsE Try.prog G R ops n (Q .normal) ops.toList E M) → SatE Try.prog G (.region id ops true) n Q E M := fun h => e_drawR R hm hok h
theorem Ql {k : IntKind} {p : Int} {q : Int} (hx : rd E x = some (.int k p) := by rfl) (hy : rd E y = some (.int k q) := by rfl) (hd : Nat.blt d n = true := by rfl) : (OpsE Try.prog G R ops n K rest ((d, .bool (decide (p < q))) :: E) M) → OpsE Try.prog G R ops n K (⟨some d, .binOp .lss T x y T', ty, pos, aft, none⟩ :: rest) E M := fun h => e_lt hx hy hd h
theorem QG {k : IntKind} {p : Int} {q : Int} (hx : rd E x = some (.int k p) := by rfl) (hy : rd E y = some (.int k q) := by rfl) (hd : Nat.blt d n = true := by rfl) : (OpsE Try.prog G R ops n K rest ((d, .bool (decide (q < p))) :: E) M) → OpsE Try.prog G R ops n K (⟨some d, .binOp .gtr T x y T', ty, pos, aft, none⟩ :: rest) E M := fun h => e_gt hx hy hd h
theorem QE {k : IntKind} {p : Int} {q : Int} (hx : rd E x = some (.int k p) := by rfl) (hy : rd E y = some (.int k q) := by rfl) (hd : Nat.blt d n = true := by rfl) : (OpsE Try.prog G R ops n K rest ((d, .bool (decide (q ≤ p))) :: E) M) → OpsE Try.prog G R ops n K (⟨some d, .binOp .geq T x y T', ty, pos, aft, none⟩ :: rest) E M := fun h => e_ge hx hy hd h
theorem Qc {k : IntKind} {p : Int} {q : Int} (hx : rd E x = some (.int k p) := by rfl) (hy : rd E y = some (.int k q) := by rfl) (hd : Nat.blt d n = true := by rfl) : (OpsE Try.prog G R ops n K rest ((d, .bool (decide (p = q))) :: E) M) → OpsE Try.prog G R ops n K (⟨some d, .binOp .eql T x y T', ty, pos, aft, none⟩ :: rest) E M := fun h => e_eq hx hy hd h
theorem QN {k : IntKind} {p : Int} {q : Int} (hx : rd E x = some (.int k p) := by rfl) (hy : rd E y = some (.int k q) := by rfl) (hd : Nat.blt d n = true := by rfl) : (OpsE Try.prog G R ops n K rest ((d, .bool (decide (p ≠ q))) :: E) M) → OpsE Try.prog G R ops n K (⟨some d, .binOp .neq T x y T', ty, pos, aft, none⟩ :: rest) E M := fun h => e_ne hx hy hd h
theorem Q0 {b : Bool} (hx : rd E x = some (.bool b) := by rfl) (hd : Nat.blt d n = true := by rfl) : (OpsE Try.prog G R ops n K rest ((d, .bool (!b)) :: E) M) → OpsE Try.prog G R ops n K (⟨some d, .unOp .not T x, ty, pos, aft, none⟩ :: rest) E M := fun h => e_not hx hd h
theorem QD {b : Nat} {l : Nat} {c : Array Value} {t : TypeId} {td : TypeDesc} (i : Nat) (hT : Try.prog.underlying T = some td := by exact Tu rfl) (hn : rowLike td = true := by rfl) (hs : (Try.prog.info? T).map (·.size) = some l := by exact Tz rfl) (hx : rd E x = some (.pointer (some ⟨b, 0, none⟩)) := by rfl) (hm : lkM M i = some ⟨b, c, t⟩ := by rfl) (hl : c.size = l := by exact (arrv_size _ _)) (hd : Nat.blt d n = true := by rfl) (hX : ∃ js, okXL M i js R := by exact ⟨[], trivial⟩) : (OpsE Try.prog G R ops n K rest ((d, .agg c) :: E) M) → OpsE Try.prog G R ops n K (⟨some d, .load T x, ty, pos, aft, none⟩ :: rest) E M := fun h => e_loadA (i := i) hT hn hs hx hm hl hd hX h
theorem Qf {b : Nat} {o : Nat} {f : Nat} {sz : Nat} {fs : Array Field} {fd : Field} (o' : Nat) (hT : Try.prog.underlying T = some (.struct fs) := by exact Tu rfl) (hf : fs[f]? = some fd := by rfl) (hs : (Try.prog.info? fd.type).map (·.size) = some (sz + 1) := by exact Tz rfl) (hx : rd E x = some (.pointer (some ⟨b, o, none⟩)) := by rfl) (ho : o + fd.offset = o' := by rfl) (hd : Nat.blt d n = true := by rfl) : (OpsE Try.prog G R ops n K rest ((d, .pointer (some ⟨b, o', none⟩)) :: E) M) → OpsE Try.prog G R ops n K (⟨some d, .fieldAddr T x f, ty, pos, aft, none⟩ :: rest) E M := fun h => e_fld o' hT hf hs hx ho hd h
theorem Qh {v : Value} (i : Nat) (hx : rd E x = some v := by rfl) (hd : Nat.blt d n = true := by rfl) : (∀ r, OpsE Try.prog G R ops n K rest ((d, ptr r) :: E) ((i, some ⟨r, v.cells, T⟩) :: M)) → OpsE Try.prog G R ops n K (⟨some d, .box T x, ty, pos, aft, none⟩ :: rest) E M := fun h => e_box i hx hd h
theorem QH {z : Value} (i : Nat) (hz : (Try.prog.info? T).bind (·.zero) = some z := by exact Tb rfl) (hd : Nat.blt d n = true := by rfl) : (∀ r, OpsE Try.prog G R ops n K rest ((d, ptr r) :: E) ((i, some ⟨r, z.cells, T⟩) :: M)) → OpsE Try.prog G R ops n K (⟨some d, .alloc T, ty, pos, aft, none⟩ :: rest) E M := fun h => e_alloc i hz hd h
theorem QV {b : Nat} {o : Nat} {N : Nat} {v : Value} {ps : List Part} {t : TypeId} {td : TypeDesc} (k : Nat) (i : Nat) (hT : Try.prog.underlying T = some td := by exact Tu rfl) (hn : rowLike td = false := by rfl) (hx : rd E x = some (.pointer (some ⟨b, o, none⟩)) := by rfl) (hm : lkM M i = some ⟨b, cells N ps, t⟩ := by rfl) (hk : catAt ps k = some (o, pV v) := by rfl) (hN : o < N := by decide) (hd : Nat.blt d n = true := by rfl) (hX : ∃ js, okXL M i js R := by exact ⟨[], trivial⟩) : (OpsE Try.prog G R ops n K rest ((d, v) :: E) M) → OpsE Try.prog G R ops n K (⟨some d, .load T x, ty, pos, aft, none⟩ :: rest) E M := fun h => e_ldV1 (i := i) k hT hn hx hm hk hN hd hX h
theorem Q2 {p : Nat} (q : Nat) (hx : rd E x = some (ii p) := by rfl) (hy : rd E y = some (ii q) := by rfl) (hd : Nat.blt d n = true := by rfl) (hb : p + q < 9223372036854775808 := by omega) : (OpsE Try.prog G R ops n K rest ((d, ii (p + q)) :: E) M) → OpsE Try.prog G R ops n K (⟨some d, .binOp .add T x y T', ty, pos, aft, none⟩ :: rest) E M := fun h => e_add_i (q := q) hx hy hd hb h
theorem QY {fn : Go.Fn} {fs : Array Operand} {cs : Array Operand} {vf : List Value} {vc : List Value} (h1 : rdl E fs.toList = some vf := by rfl) (h2 : rdl E cs.toList = some vc := by rfl) (hd : Nat.blt d n = true := by rfl) : (OpsE Try.prog G R ops n K rest ((d, .func fn vf.toArray vc.toArray) :: E) M) → OpsE Try.prog G R ops n K (⟨some d, .makeFunc fn fs cs, ty, pos, aft, none⟩ :: rest) E M := fun h => e_func h1 h2 hd h
theorem QC {e : TypeId} {v : Value} {B : Mem} {z : Nat} {k : Nat} {xs : List Value} (hv : Shows B z v k xs) (hT : Try.prog.underlying T = some (.slice e) := by exact Tu rfl) (hx : rd E x = some v := by rfl) (hd : Nat.blt d n = true := by rfl) (hR : callOk R = true := by rfl) : (OpsE Try.prog G R ops n K rest ((d, ii k) :: E) M) → OpsE Try.prog G R ops n K (⟨some d, .call ⟨.builtin .len, #[x], #[T]⟩, ty, pos, aft, none⟩ :: rest) E M := fun h => e_lenV hv hT hx hd hR h
theorem Qat {l : List Oper} {s : Nat} {v : Value} {v' : Value} (hv : v = v' := by exact (congrArg Value.bool (decide_eq_true (by omega)))) : (OpsE Try.prog G R ops n K l ((s, v') :: E) M) → OpsE Try.prog G R ops n K l ((s, v) :: E) M := fun h => e_as hv h
theorem Qaf {l : List Oper} {s : Nat} {v : Value} {v' : Value} (hv : v = v' := by exact (congrArg Value.bool (decide_eq_false (by omega)))) : (OpsE Try.prog G R ops n K l ((s, v') :: E) M) → OpsE Try.prog G R ops n K l ((s, v) :: E) M := fun h => e_as hv h
theorem Qar {l : List Oper} {s : Nat} {v : Value} {v' : Value} (hv : v = v' := by exact (congrArg Value.bool (decide_eq_true rfl))) : (OpsE Try.prog G R ops n K l ((s, v') :: E) M) → OpsE Try.prog G R ops n K l ((s, v) :: E) M := fun h => e_as hv h
theorem Qct {c : Operand} {p : Code} {q : Code} (hc : rd E c = some (.bool true) := by rfl) : (SatE Try.prog G p n Q E M) → SatE Try.prog G (.cond c p q) n Q E M := fun h => e_condT hc h
theorem Qcf {c : Operand} {p : Code} {q : Code} (hc : rd E c = some (.bool false) := by rfl) : (SatE Try.prog G q n Q E M) → SatE Try.prog G (.cond c p q) n Q E M := fun h => e_condF hc h
theorem QzK {c : Code} (Ek : Env) (Mk : Mm) (I : Nat → Env → Mm → Prop) {E0 : Env} {M0 : Mm} {k : Nat} (h0 : I k E0 M0) (hs : sub (catE E0 Ek) E) (hl : subL (catL M0 Mk) M) (round : ∀ k E M, I k E M → SatE Try.prog G c n (thenE (fun E' M' => ∃ k' E'' M'', k' < k ∧ sub (catE E'' Ek) E' ∧ subL (catL M'' Mk) M' ∧ I k' E'' M'') Q) (catE E Ek) (catL M Mk)) : SatE Try.prog G (.loop c) n Q E M := e_loopK Ek Mk I E0 M0 k hs hl h0 round
theorem QzL {I : Nat → Env → Mm → Prop} {k k' : Nat} {Ek : Env} {Mk : Mm} {E' : Env} {M' : Mm} {E'' : Env} {M'' : Mm} (h : I k' E'' M'') (hs : sub (catE E'' Ek) E') (hl : subL (catL M'' Mk) M') (hk : k' < k) : ∃ k' E'' M'', k' < k ∧ sub (catE E'' Ek) E' ∧ subL (catL M'' Mk) M' ∧ I k' E'' M'' := ⟨_, _, _, hk, hs, hl, h⟩
theorem Qf1 {f : FuncId} {fn : Func} {c : Code} {vs : List Value} {v : Value} (hf : Try.prog.funcs[f]? = some fn) (h : SatE Try.prog G c n (End1 Try.prog fn v) (argE vs 0) []) (hb : fn.body = some c := by rfl) (hn : fn.ntmps = n := by rfl) (ha : vs.toArray.size ≤ n := by simp) : Fn Try.prog G f vs.toArray v := fn1 hf hb hn ha (argE vs 0) (argE_ok vs) h
theorem Qf2 {f : FuncId} {fn : Func} {c : Code} {vs : List Value} {v v' : Value} (hf : Try.prog.funcs[f]? = some fn) (h : SatE Try.prog G c n (End2 Try.prog fn v v') (argE vs 0) []) (hb : fn.body = some c := by rfl) (hn : fn.ntmps = n := by rfl) (ha : vs.toArray.size ≤ n := by simp) : Fn Try.prog G f vs.toArray (.tuple #[v, v']) := fn2 hf hb hn ha (argE vs 0) (argE_ok vs) h
theorem QfN {f : FuncId} {fn : Func} {c : Code} {vs : List Value} {e : TypeId} {z k : Nat} {xs : List Value} (hf : Try.prog.funcs[f]? = some fn) (h : SatE Try.prog G c n (EndN Try.prog e z k xs fn) (argE vs 0) []) (hb : fn.body = some c := by rfl) (hn : fn.ntmps = n := by rfl) (ha : vs.toArray.size ≤ n := by simp) : Fx Try.prog G [] f vs.toArray (fun v l1 nw => l1 = [] ∧ ∃ v', v = v' ∧ OwnS e z v' k xs nw) := fxN hf hb hn ha (argE vs 0) (argE_ok vs) h
abbrev Sh (G : Mem) (v : Value) (l : List Nat) : Prop := Shows G 1 v l.length (l.map by8)
abbrev By (l : List Nat) : Prop := ∀ b ∈ l, b < 256
abbrev L8 (n : Nat) (f : Nat → Nat) : Prop := ∀ j, j < n → f j < 256
end Go.Proofs.Ytnkelhmfpepehaa
namespace Go.Proofs.Ytnkelhmfpepehaa
open Go Go.RowKit
theorem pls24 (w : World) : (((#[.mk "Kind" 3 0 false "" "" 0, .mk "Id" 3 1 false "" "" 8, .mk "Other" 3 2 false "" "" 16, .mk "Args" 22 3 false "" "" 24] : Array Field).mapM fun f => do pure (f.offset, ← sizeOf f.type) : Sem (Array (Nat × Nat)))).run Try.prog w = .ok #[(0, 1), (1, 1), (2, 1), (3, 1)] w := places_run (l := [(0, 1), (1, 1), (2, 1), (3, 1)]) (by kernel_rfl) w
end Go.Proofs.Ytnkelhmfpepehaa
namespace Go.Proofs.Ytnkelhmfpepehaa
open Go Go.RowKit
variable {G : Mem}
set_option maxHeartbeats 400000 in
theorem atom_fn (i : Int) : Fn Try.prog G 20 #[iv i] (.agg (tC (atomT i) nilS)) := by
  refine Qf1 Try.func20 ?_
  refine Qs<|Qp<|(QH 0) fun r1=>Qn<|Qs<|Qp<|(Qm) ?_
  refine e_buildS (tC (atomT i) nilS) (Ub 24 rfl) (Uu 24 rfl) pls24 rfl (by kernel_rfl) rfl ?_
  refine e_storeA (i := 0) (Uz 24) rfl rfl (arrv_size _ _) (cells_one ⟨fun _ => rfl, fun _ => rfl, fun _ => rfl, fun _ => rfl, trivial⟩) rfl cells_sz (.inl rfl) ?_
  refine Qn<|Qr ?_
  exact ⟨_, rfl, .cell (i := 0) rfl rfl (Uu 24) rfl (Uz 24) (arrv_size _ _)⟩
set_option maxHeartbeats 8000000 in
theorem args_fn (f : Nat) (hf : f + 1 ≤ 4) (ra rb : Nat) (v : Value) (rs : List RawT) (hv : Shows G 4 v rs.length (rs.flatMap rawC)) (k i : Int) (nn : Nat) (hm : nn ≤ 3) (hrec : ∀ (v : Value) (rs : List RawT), Shows G 4 v rs.length (rs.flatMap rawC) → Fx Try.prog G [] 16 #[v, ii (4 - f)] (fun w l1 nw => l1 = [] ∧ TermIs G f rs w nw)) : Fx Try.prog ((⟨rb, arr .i64 1 (fun _ => 3 - f), 3⟩ : Blk) :: G) [(⟨ra, #[v], 31⟩ : Blk)] 33 #[iv k, iv i, ii nn, ptr ra, ptr rb] (fun w l1 nw => ∃ c', l1 = [⟨ra, c', 31⟩] ∧ ∃ u u', w = .tuple #[u, u'] ∧ ArgsIs G f nn k i rs u u' c' nw) := by
  refine fxWD2 (n := 34) Try.func33 rfl rfl (by simp) (argE [iv k, iv i, ii nn, ptr ra, ptr rb] 0) (argE_ok _) ?_
  refine Qs<|Qp<|(QH 1) fun r2=>(Qa)<|Qn<|Qs<|Qp<|(Qm)<|(Qm) ?_
  refine e_buildS (tC ⟨k, i, 0, []⟩ nilS) (Ub 24 rfl) (Uu 24 rfl) pls24 rfl (by kernel_rfl) rfl ?_
  refine (QH 2) fun r3=>?_
  refine e_storeA (i := 2) (Uz 24) rfl rfl (arrv_size _ _) (cells_one ⟨fun _ => rfl, fun _ => rfl, fun _ => rfl, fun _ => rfl, trivial⟩) rfl cells_sz (.inl rfl) ?_
  refine Qn<|Qs<|Qs<|Qp<|(Qm)<|(Qm)<|Qn<|Qb ?_
  refine e_loopB [(3, _), (4, _), (8, _), (9, _), (10, _), (15, _)] [(1, _)] (fun kk E m fz => ∃ (x : Nat) (v1 : Value) (q1 : List RawT) (az : List TT) (cs : List Value) (w : Value) (oz : Option Blk), kk = nn - x ∧ E = [(16, ii x)] ∧ m = [(0, (some ⟨ra, #[v1], 31⟩)), (2, (some ⟨r3, tC ⟨k, i, 0, []⟩ w, 24⟩)), (50, oz)] ∧ (x ≤ nn) ∧ (OwnS 24 4 w az.length cs (Option.toList oz)) ∧ (TO fz az cs) ∧ (Shows G 4 v1 q1.length (q1.flatMap rawC)) ∧ (tArgs (tOf f) nn rs = (az ++ (tArgs (tOf f) (nn - x) q1).1, (tArgs (tOf f) (nn - x) q1).2)) ∧ (az.length = x)) (k := nn - 0) (E0 := [(16, ii 0)]) (M0 := [(0, (some ⟨ra, #[v], 31⟩)), (2, (some ⟨r3, tC ⟨k, i, 0, []⟩ nilS, 24⟩)), (50, none)]) (fz := []) ⟨0, v, rs, [], [], nilS, none, rfl, rfl, rfl, by omega, (own_nil _ _), TO.nil, hv, (by simp), rfl⟩ ⟨rfl, rfl, rfl, rfl, rfl, rfl, rfl, trivial⟩ ⟨rfl, rfl, rfl, rfl, trivial⟩ (by repeat (first | exact bag_nil | exact bag_lab _ | apply bag_skip rfl)) ?_
  rintro kk E m fz ⟨x, v1, q1, az, cs, w, oz, rfl, rfl, rfl, hf0_0, hf0_1, hf0_2, hf0_3, hf0_4, hf0_5⟩
  simp only [catE, catL]
  refine Qs<|Qp<|(Ql)<|Qn<|Qs ?_
  refine e_cond rfl ?_ ?_
  · intro hc0
    have hc0 : x < nn := by have := of_decide_eq_true hc0; omega
    refine Qk<|Qs<|Qb<|Qs<|Qp<|(QH 3) fun r4=>Qn<|Qs<|QR ⟨[], 4, [], none, none⟩ ?_
    refine e_load1 (i := 0) (Uu 31) rfl rfl rfl (show _ = some _ from rfl) rfl ⟨[], trivial⟩ ?_
    refine e_load1g (i := 0) (Uu 3) rfl rfl rfl (arr_get (by omega)) rfl ?_
    refine (Q2 1) ?_
    refine e_as (congrArg ii (show 3 - f + 1 = 4 - f by omega)) ?_
    refine e_callD [(0, _), (1, _), (2, _), (3, _), (50, _)] (by repeat (first | exact bag_nil | exact bag_lab _ | apply bag_skip rfl)) ⟨rfl, rfl, rfl, rfl, rfl, trivial⟩ rfl rfl rfl (Un 16) (fun z hz => .inl (List.mem_cons_of_mem _ hz)) (hrec v1 q1 hf0_3) (fun m' => term_room 24 (by omega) hf0_3 m') rfl rfl fun v2_1 nw2_1 hD2_1 => ?_
    simp only [catL]
    obtain ⟨c8, ys8, v8, rfl, ht8, hv9⟩ := hD2_1
    refine (Qm)<|(Qx)<|(Qx) ?_
    refine e_storeA (i := 3) (Uz 24) rfl rfl (arrv_size _ _) (cells_one ⟨fun _ => rfl, fun _ => rfl, fun _ => rfl, fun _ => shows_oneC ht8.2.1, trivial⟩) rfl cells_sz (.inl rfl) ?_
    refine e_store1 (i := 0) (Uz 31) rfl rfl (shows_oneC hv9) rfl rfl (hid_none rfl (.inl rfl)) ?_
    refine Qn<|Qp<|(Qf 3)<|(QV 3 2)<|(QD 3) ?_
    refine e_buildSl 4 (tC (tOf f q1).1 c8) (Uu 22 rfl) (Uz 24 rfl) (Ub 24 rfl) (by decide) (by decide) rfl (fill_tC (by kernel_rfl)) rfl fun r5 => ?_
    refine e_append 50 hf0_1 (shows_new _ _ (by rfl)) rfl (seen1 4 rfl ⟨[], trivial⟩) (Uu 22) (Uz 24) (Uy 24) (Ub 24) (by rfl) rfl rfl (to_one ht8).ones (by simp only [maxLen]; omega) (by omega) rfl fun v2_2 oz2_2 ho2_2 => ?_
    refine (Qf 3) ?_
    refine e_stV (i := 2) 3 (Uz 22) rfl rfl (shows_oneC (OwnS.shows ho2_2)) rfl rfl (by decide) (.inl rfl) ?_
    refine Qn ?_
    have hown9 := own_app (L := az) (tOf f q1).1 ho2_2
    have hto9 : TO _ (az ++ [(tOf f q1).1]) (cs ++ (tC (tOf f q1).1 c8).toList) := (hf0_2.mono (fun z hz => List.mem_append_left _ hz)).app ((to_one ht8).mono (fun z hz => List.mem_append_right _ hz))
    refine Qp<|(Q2 1)<|(Qm)<|Qn ?_
    refine e_round (E'' := [(16, ii (x + 1))]) (M'' := [(0, (some ⟨ra, #[_], 31⟩)), (2, (some ⟨r3, tC ⟨k, i, 0, []⟩ _, 24⟩)), (50, _)]) (fz' := (fz ++ nw2_1)) ⟨x + 1, _, _, _, _, _, _, rfl, rfl, rfl, by omega, hown9, hto9, hv9, (args_next (g := tOf f) (m := nn) (x := x) (by omega) hf0_4), (by rw [List.length_append, hf0_5]; rfl)⟩ ⟨rfl, rfl, rfl, rfl, rfl, rfl, rfl, trivial⟩ ⟨rfl, rfl, rfl, rfl, trivial⟩ (by repeat (first | exact bag_nil | exact bag_lab _ | apply bag_skip rfl)) (by omega)
  · intro hc0
    have hc0 := of_decide_eq_false hc0
    have hz0 : x = nn := by omega
    refine Qe<|Qs<|(Qq ⟨[r2], 1, [], none, none⟩) ?_
    refine e_loadA (i := 2) (Uu 24) rfl (Uz 24) rfl rfl (arrv_size _ _) rfl ⟨[1], rfl, rfl, trivial⟩ ?_
    refine e_freeze 50 [(0, _), (1, _), (2, _)] rfl rfl (by repeat (first | exact bag_nil | exact bag_lab _ | apply bag_skip rfl)) ⟨rfl, rfl, rfl, trivial⟩ rfl rfl ?_
    simp only [catL]
    refine e_load1 (i := 0) (Uu 31) rfl rfl rfl (show _ = some _ from rfl) rfl ⟨[1], rfl, rfl, trivial⟩ ?_
    refine e_storeA (i := 1) (Uz 24) rfl rfl (arrv_size _ _) (cells_one ⟨fun _ => rfl, fun _ => rfl, fun _ => rfl, fun _ => shows_oneC hf0_1.shows, trivial⟩) rfl cells_sz (.inr (by simp)) ?_
    refine (Qa)<|Qn<|Qr ?_
    exact ⟨_, _, _, _, _, (fz ++ oz.toList), rfl, .cell (i := 1) rfl rfl (Uu 24) rfl (Uz 24) (arrv_size _ _), .tmp rfl, (by rw [ArgsIs, args_fin hz0 hf0_4]; exact ⟨rfl, w, cs, rfl, (hf0_2.tl hf0_1 (by simp only [maxLen]; omega)).mono (fun z hz => by rcases List.mem_append.1 hz with hz | hz; exact List.mem_append_right _ hz; exact List.mem_append_left _ hz), hf0_3⟩), ⟨0, rfl, rfl⟩, (by repeat (first | exact bag_nil | exact bag_lab _ | apply bag_skip rfl))⟩
end Go.Proofs.Ytnkelhmfpepehaa
namespace Go.Proofs.Ytnkelhmfpepehaa
open Go Go.RowKit
variable {G : Mem}
set_option maxHeartbeats 400000 in
theorem picked_fn (z : Int) (m : Nat) (hm : 0 < m) (hm2 : m < 4294967296) : Fn Try.prog G 19 #[.int .i64 z, ii m] (ii (pkn z m)) := by
  have htm := tmod_bd z hm
  refine Qf1 Try.func19 ?_
  refine Qs<|Qp<|(Qa)<|Qn<|Qs<|Qp<|(Qm)<|(Qm) ?_
  refine e_rem_z rfl rfl rfl (by omega) ?_
  refine (Qa)<|Qn<|Qs<|Qs<|Qp<|(Qm)<|(Ql)<|Qn ?_
  refine e_cond rfl ?_ ?_
  · intro hc0
    have hc0 := of_decide_eq_true hc0
    refine Qp<|(Qm)<|(Qm) ?_
    refine e_add_z rfl rfl rfl (by omega) (by omega) ?_
    refine e_as (congrArg (Value.int .i64) (pkn_neg hm hc0)) ?_
    refine (Qa)<|Qn<|Qs<|Qp<|(Qm)<|(Qa)<|Qn<|Qr ?_
    exact ⟨_, rfl, .tmp rfl⟩
  · intro hc0
    have hc0 := of_decide_eq_false hc0
    rw [ii, ← pkn_pos hm hc0]
    refine Qk<|Qs<|Qp<|(Qm)<|(Qa)<|Qn<|Qr ?_
    exact ⟨_, rfl, .tmp rfl⟩
set_option maxHeartbeats 400000 in
theorem some_fn (v : Value) (rs : List RawT) (m : Nat) (hv : Shows G 4 v rs.length (rs.flatMap rawC)) : Fn Try.prog G 17 #[v, ii m] (slPart 4 v 0 (min rs.length m)) := by
  refine Qf1 Try.func17 ?_
  refine Qs<|Qp<|(Qa)<|Qn<|Qs<|Qp<|(Qm)<|(Qm)<|(QC hv)<|(Qm) ?_
  refine e_min rfl rfl rfl rfl ?_
  refine e_sliceV 0 (min rs.length m) hv (Uu 31) (Uz 52) rfl rfl rfl rfl ⟨_, rfl⟩ (by omega) (by omega) rfl ?_
  refine (Qa)<|Qn<|Qr ?_
  exact ⟨_, rfl, .tmp rfl⟩
set_option maxHeartbeats 8000000 in
theorem of_node (f : Nat) (hf : f + 1 ≤ 4) (v : Value) (rs : List RawT) (hv : Shows G 4 v rs.length (rs.flatMap rawC)) (hrec : ∀ (G : Mem) (v : Value) (rs : List RawT), Shows G 4 v rs.length (rs.flatMap rawC) → Fx Try.prog G [] 16 #[v, ii (4 - f)] (fun w l1 nw => l1 = [] ∧ TermIs G f rs w nw)) : Fx Try.prog G [] 16 #[v, ii (3 - f)] (fun w l1 nw => l1 = [] ∧ TermIs G (f + 1) rs w nw) := by
  refine fxDV (n := 82) Try.func16 rfl rfl (by simp) (argE [v, ii (3 - f)] 0) (argE_ok _) ?_
  refine Qs<|Qp<|(Qh 0) fun r1=>(Qh 1) fun r2=>(QH 2) fun r3=>(Qa)<|Qn<|Qs<|Qs<|Qp ?_
  refine e_load1 (i := 0) (Uu 31) rfl rfl rfl (cell_one (shows_one hv)) rfl ⟨[], trivial⟩ ?_
  refine (QC hv)<|(Qc)<|Qn ?_
  refine e_cond rfl ?_ ?_
  · intro hc0
    have hrs : rs = [] := List.length_eq_zero_iff.1 (by have := of_decide_eq_true hc0; omega)
    refine Qs<|Qp ?_
    refine e_load1 (i := 1) (Uu 3) rfl rfl rfl (show _ = some _ from rfl) rfl ⟨[], trivial⟩ ?_
    refine e_call rfl (Un 20) (atom_fn _) rfl rfl ?_
    refine e_storeA (i := 2) (Uz 24) rfl rfl (arrv_size _ _) (cells_one ⟨fun _ => rfl, fun _ => rfl, fun _ => rfl, fun _ => rfl, trivial⟩) rfl cells_sz (.inl rfl) ?_
    refine (Qa)<|Qn<|Qr ?_
    exact ⟨_, _, _, _, [], rfl, .cell (i := 2) rfl rfl (Uu 24) rfl (Uz 24) (arrv_size _ _), .tmp rfl, (by first | exact t_nil hrs (by omega) | exact t_leaf h0 hv hkk (leaf_pub (by omega)) (by omega) | exact t_leaf h0 hv hkk (leaf_dh (by omega)) (by omega) | exact t_leaf h0 hv hkk (leaf_atom (by omega)) (by omega) | exact t_node h0 hkk (node_3 (by omega)) ht8 hv8 | exact t_node h0 hkk (node_4 (by omega)) ht8 hv8 | exact t_node h0 hkk (node_5 (by omega)) ht8 hv8 | exact t_node h0 hkk (node_6 (by omega)) ht8 hv8), (by repeat (first | exact bag_nil | exact bag_lab _ | apply bag_skip rfl))⟩
  · intro hc0
    have h0 : 0 < rs.length := by have := of_decide_eq_false hc0; omega
    have hv1 := raws_drop hv 1 (by omega)
    obtain ⟨kk, hkk⟩ : ∃ kk, kk = pkn rs[0].a 9 := ⟨_, rfl⟩
    refine Qk<|Qs<|(Qq ⟨[], 1, [], (some [r1]), (some (2, r1))⟩) ?_
    refine e_load1 (i := 0) (Uu 31) rfl rfl rfl (cell_one (shows_one hv)) rfl ⟨[], trivial, _, rfl, by simp⟩ ?_
    refine e_atV (j := 0) hv (Uu 31) (Uz 52) rfl rfl (by omega) rfl ?_
    refine e_loadVS hv seenG (Uu 52) rfl (Uz 52) rfl (by decide) (by rw [flatMap_len rawC_len]; omega) (flatMap_at rawC_len rs 0 h0) rfl ?_
    refine e_as (raw_cells rs[0]) ?_
    refine e_load1 (i := 0) (Uu 31) rfl rfl rfl (cell_one (shows_one hv)) rfl ⟨[], trivial, _, rfl, by simp⟩ ?_
    refine e_sliceV 1 rs.length hv (Uu 31) (Uz 52) rfl rfl rfl ⟨_, rfl⟩ rfl (by omega) (by omega) rfl ?_
    refine (QH 3) fun r4=>?_
    refine e_storeAY (i := 3) (Uz 52) rfl rfl (arrv_size _ _) (cells_one ⟨fun _ => rfl, fun _ => rfl, fun _ => rfl, fun _ => rfl, trivial⟩) rfl cells_sz rfl ⟨[0], rfl, rfl, trivial⟩ (y_off 0 rfl (by decide) rfl (by decide)) ?_
    refine e_store1 (i := 0) (Uz 31) rfl rfl (shows_oneC (raws_drop hv 1 (by omega))) rfl (by rw [shows_one hv]; rfl) (hid_var rfl rfl) ?_ (y_var rfl rfl)
    refine Qn<|Qs<|Qp<|(Qf 1)<|(QV 1 3) ?_
    refine e_as (show _ = iv rs[0].b from rfl) ?_
    refine e_call rfl (Un 19) (picked_fn rs[0].b 5 (by decide) (by decide)) rfl rfl ?_
    refine (Qa)<|Qn<|Qs<|Qp<|(QY)<|(Qa)<|Qn<|Qs<|Qp<|(Qf 0)<|(QV 0 3) ?_
    refine e_as (show _ = iv rs[0].a from rfl) ?_
    refine e_call rfl (Un 19) (picked_fn rs[0].a 9 (by decide) (by decide)) rfl rfl ?_
    refine e_as (congrArg ii hkk.symm) ?_
    refine (Qa)<|Qn<|Qs<|Qs<|Qp ?_
    refine e_load1 (i := 1) (Uu 3) rfl rfl rfl (show _ = some _ from rfl) rfl ⟨[], trivial⟩ ?_
    refine (QG)<|(Qaf)<|Qn<|(Qcf)<|Qk<|Qs<|Qs<|Qp<|(Qm)<|Qn<|Qb<|Qs<|Qp<|(Qc)<|(Qa)<|Qn ?_
    refine e_cond rfl ?_ ?_
    · intro hc2
      have hc2 := of_decide_eq_true hc2
      refine Qs<|(Qq ⟨[r3], 1, [], none, none⟩)<|(Qm) ?_
      refine e_buildS (tC (pubT (pkn rs[0].b 5)) nilS) (Ub 24 rfl) (Uu 24 rfl) pls24 rfl (by kernel_rfl) rfl ?_
      refine e_load1 (i := 0) (Uu 31) rfl rfl rfl (show _ = some _ from rfl) rfl ⟨[2], rfl, rfl, trivial⟩ ?_
      refine e_storeA (i := 2) (Uz 24) rfl rfl (arrv_size _ _) (cells_one ⟨fun _ => rfl, fun _ => rfl, fun _ => rfl, fun _ => rfl, trivial⟩) rfl cells_sz (.inr (by simp)) ?_
      refine (Qa)<|Qn<|Qr ?_
      exact ⟨_, _, _, _, [], rfl, .cell (i := 2) rfl rfl (Uu 24) rfl (Uz 24) (arrv_size _ _), .tmp rfl, (by first | exact t_nil hrs (by omega) | exact t_leaf h0 hv hkk (leaf_pub (by omega)) (by omega) | exact t_leaf h0 hv hkk (leaf_dh (by omega)) (by omega) | exact t_leaf h0 hv hkk (leaf_atom (by omega)) (by omega) | exact t_node h0 hkk (node_3 (by omega)) ht8 hv8 | exact t_node h0 hkk (node_4 (by omega)) ht8 hv8 | exact t_node h0 hkk (node_5 (by omega)) ht8 hv8 | exact t_node h0 hkk (node_6 (by omega)) ht8 hv8), (by repeat (first | exact bag_nil | exact bag_lab _ | apply bag_skip rfl))⟩
    · intro hc2
      have hc2 := of_decide_eq_false hc2
      refine Qs<|Qp<|(Qc)<|(Qa)<|Qn ?_
      refine e_cond rfl ?_ ?_
      · intro hc3
        have hc3 := of_decide_eq_true hc3
        refine Qs<|Qp<|(Qf 2)<|(QV 2 3) ?_
        refine e_as (show _ = iv rs[0].c from rfl) ?_
        refine e_call rfl (Un 19) (picked_fn rs[0].c 5 (by decide) (by decide)) rfl rfl ?_
        refine (Qa)<|Qn<|Qs<|(Qq ⟨[r3], 1, [], none, none⟩)<|(Qm)<|(Qm) ?_
        refine e_min rfl rfl rfl rfl ?_
        refine (Qm)<|(Qm) ?_
        refine e_max rfl rfl rfl rfl ?_
        refine e_buildS (tC ⟨3, ((min (pkn rs[0].b 5) (pkn rs[0].c 5) : Nat) : Int), ((max (pkn rs[0].b 5) (pkn rs[0].c 5) : Nat) : Int), []⟩ nilS) (Ub 24 rfl) (Uu 24 rfl) pls24 rfl (by kernel_rfl) rfl ?_
        refine e_load1 (i := 0) (Uu 31) rfl rfl rfl (show _ = some _ from rfl) rfl ⟨[2], rfl, rfl, trivial⟩ ?_
        refine e_storeA (i := 2) (Uz 24) rfl rfl (arrv_size _ _) (cells_one ⟨fun _ => rfl, fun _ => rfl, fun _ => rfl, fun _ => rfl, trivial⟩) rfl cells_sz (.inr (by simp)) ?_
        refine (Qa)<|Qn<|Qr ?_
        exact ⟨_, _, _, _, [], rfl, .cell (i := 2) rfl rfl (Uu 24) rfl (Uz 24) (arrv_size _ _), .tmp rfl, (by first | exact t_nil hrs (by omega) | exact t_leaf h0 hv hkk (leaf_pub (by omega)) (by omega) | exact t_leaf h0 hv hkk (leaf_dh (by omega)) (by omega) | exact t_leaf h0 hv hkk (leaf_atom (by omega)) (by omega) | exact t_node h0 hkk (node_3 (by omega)) ht8 hv8 | exact t_node h0 hkk (node_4 (by omega)) ht8 hv8 | exact t_node h0 hkk (node_5 (by omega)) ht8 hv8 | exact t_node h0 hkk (node_6 (by omega)) ht8 hv8), (by repeat (first | exact bag_nil | exact bag_lab _ | apply bag_skip rfl))⟩
      · intro hc3
        have hc3 := of_decide_eq_false hc3
        refine Qs<|Qp<|(Qc)<|(Qa)<|Qn ?_
        refine e_cond rfl ?_ ?_
        · intro hc4
          have hc4 := of_decide_eq_true hc4
          refine Qs<|QR ⟨[], 5, [], none, none⟩<|(Qm) ?_
          refine e_callWD 0 [(1, _), (2, _), (3, _)] (by repeat (first | exact bag_nil | exact bag_lab _ | apply bag_skip rfl)) (fun _ => ⟨rfl, rfl, rfl, trivial⟩) rfl rfl rfl rfl (Un 33) rfl (fun z hz => by rcases List.mem_cons.1 hz with rfl | hz; exact .inr ⟨1, by decide, rfl⟩; exact .inl hz) (args_fn (G := G) f hf r1 r2 _ (rs.drop 1) hv1 4 0 2 (by decide) (fun v rs hv => hrec G v rs hv)) (fun m' => args_room 24 (by omega) (by decide) 4 0 hv1 m') rfl rfl fun v6_1 c6_1 nw6_1 hD6_1 => ?_
          simp only [catL]
          obtain ⟨u8, u9, rfl, rfl, c8, ys8, rfl, ht8, hv8⟩ := hD6_1
          refine (Qx)<|(Qx) ?_
          refine e_storeA (i := 2) (Uz 24) rfl rfl (arrv_size _ _) (cells_one ⟨fun _ => rfl, fun _ => rfl, fun _ => rfl, fun _ => shows_oneC ht8.2.1, trivial⟩) rfl cells_sz (.inl rfl) ?_
          refine (Qa)<|Qn<|Qr ?_
          exact ⟨_, _, _, _, ([] ++ nw6_1), rfl, .cell (i := 2) rfl rfl (Uu 24) rfl (Uz 24) (arrv_size _ _), .tmp rfl, (by first | exact t_nil hrs (by omega) | exact t_leaf h0 hv hkk (leaf_pub (by omega)) (by omega) | exact t_leaf h0 hv hkk (leaf_dh (by omega)) (by omega) | exact t_leaf h0 hv hkk (leaf_atom (by omega)) (by omega) | exact t_node h0 hkk (node_3 (by omega)) ht8 hv8 | exact t_node h0 hkk (node_4 (by omega)) ht8 hv8 | exact t_node h0 hkk (node_5 (by omega)) ht8 hv8 | exact t_node h0 hkk (node_6 (by omega)) ht8 hv8), (by repeat (first | exact bag_nil | exact bag_lab _ | apply bag_skip rfl))⟩
        · intro hc4
          have hc4 := of_decide_eq_false hc4
          refine Qs<|Qp<|(Qc)<|(Qa)<|Qn ?_
          refine e_cond rfl ?_ ?_
          · intro hc5
            have hc5 := of_decide_eq_true hc5
            refine Qs<|QR ⟨[], 5, [], none, none⟩<|(Qm) ?_
            refine e_callWD 0 [(1, _), (2, _), (3, _)] (by repeat (first | exact bag_nil | exact bag_lab _ | apply bag_skip rfl)) (fun _ => ⟨rfl, rfl, rfl, trivial⟩) rfl rfl rfl rfl (Un 33) rfl (fun z hz => by rcases List.mem_cons.1 hz with rfl | hz; exact .inr ⟨1, by decide, rfl⟩; exact .inl hz) (args_fn (G := G) f hf r1 r2 _ (rs.drop 1) hv1 5 0 1 (by decide) (fun v rs hv => hrec G v rs hv)) (fun m' => args_room 24 (by omega) (by decide) 5 0 hv1 m') rfl rfl fun v7_1 c7_1 nw7_1 hD7_1 => ?_
            simp only [catL]
            obtain ⟨u8, u9, rfl, rfl, c8, ys8, rfl, ht8, hv8⟩ := hD7_1
            refine (Qx)<|(Qx) ?_
            refine e_storeA (i := 2) (Uz 24) rfl rfl (arrv_size _ _) (cells_one ⟨fun _ => rfl, fun _ => rfl, fun _ => rfl, fun _ => shows_oneC ht8.2.1, trivial⟩) rfl cells_sz (.inl rfl) ?_
            refine (Qa)<|Qn<|Qr ?_
            exact ⟨_, _, _, _, ([] ++ nw7_1), rfl, .cell (i := 2) rfl rfl (Uu 24) rfl (Uz 24) (arrv_size _ _), .tmp rfl, (by first | exact t_nil hrs (by omega) | exact t_leaf h0 hv hkk (leaf_pub (by omega)) (by omega) | exact t_leaf h0 hv hkk (leaf_dh (by omega)) (by omega) | exact t_leaf h0 hv hkk (leaf_atom (by omega)) (by omega) | exact t_node h0 hkk (node_3 (by omega)) ht8 hv8 | exact t_node h0 hkk (node_4 (by omega)) ht8 hv8 | exact t_node h0 hkk (node_5 (by omega)) ht8 hv8 | exact t_node h0 hkk (node_6 (by omega)) ht8 hv8), (by repeat (first | exact bag_nil | exact bag_lab _ | apply bag_skip rfl))⟩
          · intro hc5
            have hc5 := of_decide_eq_false hc5
            refine Qs<|Qp<|(Qc)<|(Qa)<|Qn ?_
            refine e_cond rfl ?_ ?_
            · intro hc6
              have hc6 := of_decide_eq_true hc6
              refine Qs<|QR ⟨[], 5, [], none, none⟩<|(Qm)<|(Qf 2)<|(QV 2 3) ?_
              refine e_as (show _ = iv rs[0].c from rfl) ?_
              refine e_call rfl (Un 19) (picked_fn rs[0].c 3 (by decide) (by decide)) rfl rfl ?_
              refine e_callWD 0 [(1, _), (2, _), (3, _)] (by repeat (first | exact bag_nil | exact bag_lab _ | apply bag_skip rfl)) (fun _ => ⟨rfl, rfl, rfl, trivial⟩) rfl rfl rfl rfl (Un 33) rfl (fun z hz => by rcases List.mem_cons.1 hz with rfl | hz; exact .inr ⟨1, by decide, rfl⟩; exact .inl hz) (args_fn (G := G) f hf r1 r2 _ (rs.drop 1) hv1 6 (pkn rs[0].c 3) 2 (by decide) (fun v rs hv => hrec G v rs hv)) (fun m' => args_room 24 (by omega) (by decide) 6 (pkn rs[0].c 3) hv1 m') rfl rfl fun v8_1 c8_1 nw8_1 hD8_1 => ?_
              simp only [catL]
              obtain ⟨u8, u9, rfl, rfl, c8, ys8, rfl, ht8, hv8⟩ := hD8_1
              refine (Qx)<|(Qx) ?_
              refine e_storeA (i := 2) (Uz 24) rfl rfl (arrv_size _ _) (cells_one ⟨fun _ => rfl, fun _ => rfl, fun _ => rfl, fun _ => shows_oneC ht8.2.1, trivial⟩) rfl cells_sz (.inl rfl) ?_
              refine (Qa)<|Qn<|Qr ?_
              exact ⟨_, _, _, _, ([] ++ nw8_1), rfl, .cell (i := 2) rfl rfl (Uu 24) rfl (Uz 24) (arrv_size _ _), .tmp rfl, (by first | exact t_nil hrs (by omega) | exact t_leaf h0 hv hkk (leaf_pub (by omega)) (by omega) | exact t_leaf h0 hv hkk (leaf_dh (by omega)) (by omega) | exact t_leaf h0 hv hkk (leaf_atom (by omega)) (by omega) | exact t_node h0 hkk (node_3 (by omega)) ht8 hv8 | exact t_node h0 hkk (node_4 (by omega)) ht8 hv8 | exact t_node h0 hkk (node_5 (by omega)) ht8 hv8 | exact t_node h0 hkk (node_6 (by omega)) ht8 hv8), (by repeat (first | exact bag_nil | exact bag_lab _ | apply bag_skip rfl))⟩
            · intro hc6
              have hc6 := of_decide_eq_false hc6
              refine Qs<|Qs<|Qp<|(Qc)<|(Qa)<|Qn ?_
              refine e_cond rfl ?_ ?_
              · intro hc7
                have hc7 := of_decide_eq_true hc7
                refine Qk ?_
                refine e_cond rfl ?_ ?_
                · intro hc8
                  have hc8 := of_decide_eq_true hc8
                  refine Qs<|QR ⟨[], 5, [], none, none⟩<|(Qm) ?_
                  refine e_callWD 0 [(1, _), (2, _), (3, _)] (by repeat (first | exact bag_nil | exact bag_lab _ | apply bag_skip rfl)) (fun _ => ⟨rfl, rfl, rfl, trivial⟩) rfl rfl rfl rfl (Un 33) rfl (fun z hz => by rcases List.mem_cons.1 hz with rfl | hz; exact .inr ⟨1, by decide, rfl⟩; exact .inl hz) (args_fn (G := G) f hf r1 r2 _ (rs.drop 1) hv1 7 0 3 (by decide) (fun v rs hv => hrec G v rs hv)) (fun m' => args_room 24 (by omega) (by decide) 7 0 hv1 m') rfl rfl fun v10_1 c10_1 nw10_1 hD10_1 => ?_
                  simp only [catL]
                  obtain ⟨u8, u9, rfl, rfl, c8, ys8, rfl, ht8, hv8⟩ := hD10_1
                  refine (Qx)<|(Qx) ?_
                  refine e_storeA (i := 2) (Uz 24) rfl rfl (arrv_size _ _) (cells_one ⟨fun _ => rfl, fun _ => rfl, fun _ => rfl, fun _ => shows_oneC ht8.2.1, trivial⟩) rfl cells_sz (.inl rfl) ?_
                  refine (Qa)<|Qn<|Qr ?_
                  exact ⟨_, _, _, _, ([] ++ nw10_1), rfl, .cell (i := 2) rfl rfl (Uu 24) rfl (Uz 24) (arrv_size _ _), .tmp rfl, (by first | exact t_nil hrs (by omega) | exact t_leaf h0 hv hkk (leaf_pub (by omega)) (by omega) | exact t_leaf h0 hv hkk (leaf_dh (by omega)) (by omega) | exact t_leaf h0 hv hkk (leaf_atom (by omega)) (by omega) | exact t_node h0 hkk (node_3 (by omega)) ht8 hv8 | exact t_node h0 hkk (node_4 (by omega)) ht8 hv8 | exact t_node h0 hkk (node_5 (by omega)) ht8 hv8 | exact t_node h0 hkk (node_6 (by omega)) ht8 hv8), (by repeat (first | exact bag_nil | exact bag_lab _ | apply bag_skip rfl))⟩
                · intro hc8
                  have hc8 := of_decide_eq_false hc8
                  refine Qk<|Qs<|(Qq ⟨[r3], 1, [], none, none⟩)<|(Qm) ?_
                  refine e_call rfl (Un 20) (atom_fn _) rfl rfl ?_
                  refine e_load1 (i := 0) (Uu 31) rfl rfl rfl (show _ = some _ from rfl) rfl ⟨[2], rfl, rfl, trivial⟩ ?_
                  refine e_storeA (i := 2) (Uz 24) rfl rfl (arrv_size _ _) (cells_one ⟨fun _ => rfl, fun _ => rfl, fun _ => rfl, fun _ => rfl, trivial⟩) rfl cells_sz (.inr (by simp)) ?_
                  refine (Qa)<|Qn<|Qr ?_
                  exact ⟨_, _, _, _, [], rfl, .cell (i := 2) rfl rfl (Uu 24) rfl (Uz 24) (arrv_size _ _), .tmp rfl, (by first | exact t_nil hrs (by omega) | exact t_leaf h0 hv hkk (leaf_pub (by omega)) (by omega) | exact t_leaf h0 hv hkk (leaf_dh (by omega)) (by omega) | exact t_leaf h0 hv hkk (leaf_atom (by omega)) (by omega) | exact t_node h0 hkk (node_3 (by omega)) ht8 hv8 | exact t_node h0 hkk (node_4 (by omega)) ht8 hv8 | exact t_node h0 hkk (node_5 (by omega)) ht8 hv8 | exact t_node h0 hkk (node_6 (by omega)) ht8 hv8), (by repeat (first | exact bag_nil | exact bag_lab _ | apply bag_skip rfl))⟩
              · intro hc7
                have hc7 := of_decide_eq_false hc7
                refine Qp<|(Qc)<|(Qa)<|Qn ?_
                refine e_cond rfl ?_ ?_
                · intro hc8
                  have hc8 := of_decide_eq_true hc8
                  refine Qs<|QR ⟨[], 5, [], none, none⟩<|(Qm) ?_
                  refine e_callWD 0 [(1, _), (2, _), (3, _)] (by repeat (first | exact bag_nil | exact bag_lab _ | apply bag_skip rfl)) (fun _ => ⟨rfl, rfl, rfl, trivial⟩) rfl rfl rfl rfl (Un 33) rfl (fun z hz => by rcases List.mem_cons.1 hz with rfl | hz; exact .inr ⟨1, by decide, rfl⟩; exact .inl hz) (args_fn (G := G) f hf r1 r2 _ (rs.drop 1) hv1 7 0 3 (by decide) (fun v rs hv => hrec G v rs hv)) (fun m' => args_room 24 (by omega) (by decide) 7 0 hv1 m') rfl rfl fun v10_1 c10_1 nw10_1 hD10_1 => ?_
                  simp only [catL]
                  obtain ⟨u8, u9, rfl, rfl, c8, ys8, rfl, ht8, hv8⟩ := hD10_1
                  refine (Qx)<|(Qx) ?_
                  refine e_storeA (i := 2) (Uz 24) rfl rfl (arrv_size _ _) (cells_one ⟨fun _ => rfl, fun _ => rfl, fun _ => rfl, fun _ => shows_oneC ht8.2.1, trivial⟩) rfl cells_sz (.inl rfl) ?_
                  refine (Qa)<|Qn<|Qr ?_
                  exact ⟨_, _, _, _, ([] ++ nw10_1), rfl, .cell (i := 2) rfl rfl (Uu 24) rfl (Uz 24) (arrv_size _ _), .tmp rfl, (by first | exact t_nil hrs (by omega) | exact t_leaf h0 hv hkk (leaf_pub (by omega)) (by omega) | exact t_leaf h0 hv hkk (leaf_dh (by omega)) (by omega) | exact t_leaf h0 hv hkk (leaf_atom (by omega)) (by omega) | exact t_node h0 hkk (node_3 (by omega)) ht8 hv8 | exact t_node h0 hkk (node_4 (by omega)) ht8 hv8 | exact t_node h0 hkk (node_5 (by omega)) ht8 hv8 | exact t_node h0 hkk (node_6 (by omega)) ht8 hv8), (by repeat (first | exact bag_nil | exact bag_lab _ | apply bag_skip rfl))⟩
                · intro hc8
                  have hc8 := of_decide_eq_false hc8
                  refine Qk<|Qs<|(Qq ⟨[r3], 1, [], none, none⟩)<|(Qm) ?_
                  refine e_call rfl (Un 20) (atom_fn _) rfl rfl ?_
                  refine e_load1 (i := 0) (Uu 31) rfl rfl rfl (show _ = some _ from rfl) rfl ⟨[2], rfl, rfl, trivial⟩ ?_
                  refine e_storeA (i := 2) (Uz 24) rfl rfl (arrv_size _ _) (cells_one ⟨fun _ => rfl, fun _ => rfl, fun _ => rfl, fun _ => rfl, trivial⟩) rfl cells_sz (.inr (by simp)) ?_
                  refine (Qa)<|Qn<|Qr ?_
                  exact ⟨_, _, _, _, [], rfl, .cell (i := 2) rfl rfl (Uu 24) rfl (Uz 24) (arrv_size _ _), .tmp rfl, (by first | exact t_nil hrs (by omega) | exact t_leaf h0 hv hkk (leaf_pub (by omega)) (by omega) | exact t_leaf h0 hv hkk (leaf_dh (by omega)) (by omega) | exact t_leaf h0 hv hkk (leaf_atom (by omega)) (by omega) | exact t_node h0 hkk (node_3 (by omega)) ht8 hv8 | exact t_node h0 hkk (node_4 (by omega)) ht8 hv8 | exact t_node h0 hkk (node_5 (by omega)) ht8 hv8 | exact t_node h0 hkk (node_6 (by omega)) ht8 hv8), (by repeat (first | exact bag_nil | exact bag_lab _ | apply bag_skip rfl))⟩
set_option maxHeartbeats 8000000 in
theorem of_leaf (v : Value) (rs : List RawT) (hv : Shows G 4 v rs.length (rs.flatMap rawC)) : Fx Try.prog G [] 16 #[v, ii 4] (fun w l1 nw => l1 = [] ∧ TermIs G 0 rs w nw) := by
  refine fxDV (n := 82) Try.func16 rfl rfl (by simp) (argE [v, ii 4] 0) (argE_ok _) ?_
  refine Qs<|Qp<|(Qh 0) fun r1=>(Qh 1) fun r2=>(QH 2) fun r3=>(Qa)<|Qn<|Qs<|Qs<|Qp ?_
  refine e_load1 (i := 0) (Uu 31) rfl rfl rfl (cell_one (shows_one hv)) rfl ⟨[], trivial⟩ ?_
  refine (QC hv)<|(Qc)<|Qn ?_
  refine e_cond rfl ?_ ?_
  · intro hc0
    have hrs : rs = [] := List.length_eq_zero_iff.1 (by have := of_decide_eq_true hc0; omega)
    refine Qs<|Qp ?_
    refine e_load1 (i := 1) (Uu 3) rfl rfl rfl (show _ = some _ from rfl) rfl ⟨[], trivial⟩ ?_
    refine e_call rfl (Un 20) (atom_fn _) rfl rfl ?_
    refine e_storeA (i := 2) (Uz 24) rfl rfl (arrv_size _ _) (cells_one ⟨fun _ => rfl, fun _ => rfl, fun _ => rfl, fun _ => rfl, trivial⟩) rfl cells_sz (.inl rfl) ?_
    refine (Qa)<|Qn<|Qr ?_
    exact ⟨_, _, _, _, [], rfl, .cell (i := 2) rfl rfl (Uu 24) rfl (Uz 24) (arrv_size _ _), .tmp rfl, (by first | exact t_nil hrs (by omega) | exact t_leaf0 h0 hv hkk hk2 (leaf_pub (by omega)) | exact t_leaf0 h0 hv hkk hk2 (leaf_dh (by omega)) | exact t_leaf0 h0 hv hkk hk2 (leaf_atom (by omega))), (by repeat (first | exact bag_nil | exact bag_lab _ | apply bag_skip rfl))⟩
  · intro hc0
    have h0 : 0 < rs.length := by have := of_decide_eq_false hc0; omega
    have hv1 := raws_drop hv 1 (by omega)
    obtain ⟨kk, hkk⟩ : ∃ kk, kk = pkn rs[0].a 9 := ⟨_, rfl⟩
    obtain ⟨k2, hk2⟩ : ∃ k2, k2 = pkn kk 3 := ⟨_, rfl⟩
    have hk3 : k2 < 3 := by rw [hk2]; exact pkn_lt _ (by decide)
    refine Qk<|Qs<|(Qq ⟨[], 1, [], (some [r1]), (some (2, r1))⟩) ?_
    refine e_load1 (i := 0) (Uu 31) rfl rfl rfl (cell_one (shows_one hv)) rfl ⟨[], trivial, _, rfl, by simp⟩ ?_
    refine e_atV (j := 0) hv (Uu 31) (Uz 52) rfl rfl (by omega) rfl ?_
    refine e_loadVS hv seenG (Uu 52) rfl (Uz 52) rfl (by decide) (by rw [flatMap_len rawC_len]; omega) (flatMap_at rawC_len rs 0 h0) rfl ?_
    refine e_as (raw_cells rs[0]) ?_
    refine e_load1 (i := 0) (Uu 31) rfl rfl rfl (cell_one (shows_one hv)) rfl ⟨[], trivial, _, rfl, by simp⟩ ?_
    refine e_sliceV 1 rs.length hv (Uu 31) (Uz 52) rfl rfl rfl ⟨_, rfl⟩ rfl (by omega) (by omega) rfl ?_
    refine (QH 3) fun r4=>?_
    refine e_storeAY (i := 3) (Uz 52) rfl rfl (arrv_size _ _) (cells_one ⟨fun _ => rfl, fun _ => rfl, fun _ => rfl, fun _ => rfl, trivial⟩) rfl cells_sz rfl ⟨[0], rfl, rfl, trivial⟩ (y_off 0 rfl (by decide) rfl (by decide)) ?_
    refine e_store1 (i := 0) (Uz 31) rfl rfl (shows_oneC (raws_drop hv 1 (by omega))) rfl (by rw [shows_one hv]; rfl) (hid_var rfl rfl) ?_ (y_var rfl rfl)
    refine Qn<|Qs<|Qp<|(Qf 1)<|(QV 1 3) ?_
    refine e_as (show _ = iv rs[0].b from rfl) ?_
    refine e_call rfl (Un 19) (picked_fn rs[0].b 5 (by decide) (by decide)) rfl rfl ?_
    refine (Qa)<|Qn<|Qs<|Qp<|(QY)<|(Qa)<|Qn<|Qs<|Qp<|(Qf 0)<|(QV 0 3) ?_
    refine e_as (show _ = iv rs[0].a from rfl) ?_
    refine e_call rfl (Un 19) (picked_fn rs[0].a 9 (by decide) (by decide)) rfl rfl ?_
    refine e_as (congrArg ii hkk.symm) ?_
    refine (Qa)<|Qn<|Qs<|Qs<|Qp ?_
    refine e_load1 (i := 1) (Uu 3) rfl rfl rfl (show _ = some _ from rfl) rfl ⟨[], trivial⟩ ?_
    refine (QG)<|(Qat)<|Qn<|(Qct)<|Qp<|(Qm) ?_
    refine e_call rfl (Un 19) (picked_fn _ 3 (by decide) (by decide)) rfl rfl ?_
    refine e_as (congrArg ii hk2.symm) ?_
    refine (Qa)<|Qn<|Qs<|Qs<|Qp<|(Qm)<|Qn<|Qb<|Qs<|Qp<|(Qc)<|(Qa)<|Qn ?_
    refine e_cond rfl ?_ ?_
    · intro hc2
      have hc2 := of_decide_eq_true hc2
      refine Qs<|(Qq ⟨[r3], 1, [], none, none⟩)<|(Qm) ?_
      refine e_buildS (tC (pubT (pkn rs[0].b 5)) nilS) (Ub 24 rfl) (Uu 24 rfl) pls24 rfl (by kernel_rfl) rfl ?_
      refine e_load1 (i := 0) (Uu 31) rfl rfl rfl (show _ = some _ from rfl) rfl ⟨[2], rfl, rfl, trivial⟩ ?_
      refine e_storeA (i := 2) (Uz 24) rfl rfl (arrv_size _ _) (cells_one ⟨fun _ => rfl, fun _ => rfl, fun _ => rfl, fun _ => rfl, trivial⟩) rfl cells_sz (.inr (by simp)) ?_
      refine (Qa)<|Qn<|Qr ?_
      exact ⟨_, _, _, _, [], rfl, .cell (i := 2) rfl rfl (Uu 24) rfl (Uz 24) (arrv_size _ _), .tmp rfl, (by first | exact t_nil hrs (by omega) | exact t_leaf0 h0 hv hkk hk2 (leaf_pub (by omega)) | exact t_leaf0 h0 hv hkk hk2 (leaf_dh (by omega)) | exact t_leaf0 h0 hv hkk hk2 (leaf_atom (by omega))), (by repeat (first | exact bag_nil | exact bag_lab _ | apply bag_skip rfl))⟩
    · intro hc2
      have hc2 := of_decide_eq_false hc2
      refine Qs<|Qp<|(Qc)<|(Qa)<|Qn ?_
      refine e_cond rfl ?_ ?_
      · intro hc3
        have hc3 := of_decide_eq_true hc3
        refine Qs<|Qp<|(Qf 2)<|(QV 2 3) ?_
        refine e_as (show _ = iv rs[0].c from rfl) ?_
        refine e_call rfl (Un 19) (picked_fn rs[0].c 5 (by decide) (by decide)) rfl rfl ?_
        refine (Qa)<|Qn<|Qs<|(Qq ⟨[r3], 1, [], none, none⟩)<|(Qm)<|(Qm) ?_
        refine e_min rfl rfl rfl rfl ?_
        refine (Qm)<|(Qm) ?_
        refine e_max rfl rfl rfl rfl ?_
        refine e_buildS (tC ⟨3, ((min (pkn rs[0].b 5) (pkn rs[0].c 5) : Nat) : Int), ((max (pkn rs[0].b 5) (pkn rs[0].c 5) : Nat) : Int), []⟩ nilS) (Ub 24 rfl) (Uu 24 rfl) pls24 rfl (by kernel_rfl) rfl ?_
        refine e_load1 (i := 0) (Uu 31) rfl rfl rfl (show _ = some _ from rfl) rfl ⟨[2], rfl, rfl, trivial⟩ ?_
        refine e_storeA (i := 2) (Uz 24) rfl rfl (arrv_size _ _) (cells_one ⟨fun _ => rfl, fun _ => rfl, fun _ => rfl, fun _ => rfl, trivial⟩) rfl cells_sz (.inr (by simp)) ?_
        refine (Qa)<|Qn<|Qr ?_
        exact ⟨_, _, _, _, [], rfl, .cell (i := 2) rfl rfl (Uu 24) rfl (Uz 24) (arrv_size _ _), .tmp rfl, (by first | exact t_nil hrs (by omega) | exact t_leaf0 h0 hv hkk hk2 (leaf_pub (by omega)) | exact t_leaf0 h0 hv hkk hk2 (leaf_dh (by omega)) | exact t_leaf0 h0 hv hkk hk2 (leaf_atom (by omega))), (by repeat (first | exact bag_nil | exact bag_lab _ | apply bag_skip rfl))⟩
      · intro hc3
        have hc3 := of_decide_eq_false hc3
        refine Qs<|Qp<|(Qc)<|(Qaf)<|(Qa)<|Qn<|(Qcf)<|Qs<|Qp<|(Qc)<|(Qaf)<|(Qa)<|Qn<|(Qcf)<|Qs<|Qp<|(Qc)<|(Qaf)<|(Qa)<|Qn<|(Qcf)<|Qs<|Qs<|Qp<|(Qc)<|(Qaf)<|(Qa)<|Qn<|(Qcf)<|Qp<|(Qc)<|(Qaf)<|(Qa)<|Qn<|(Qcf)<|Qk<|Qs<|(Qq ⟨[r3], 1, [], none, none⟩)<|(Qm) ?_
        refine e_call rfl (Un 20) (atom_fn _) rfl rfl ?_
        refine e_load1 (i := 0) (Uu 31) rfl rfl rfl (show _ = some _ from rfl) rfl ⟨[2], rfl, rfl, trivial⟩ ?_
        refine e_storeA (i := 2) (Uz 24) rfl rfl (arrv_size _ _) (cells_one ⟨fun _ => rfl, fun _ => rfl, fun _ => rfl, fun _ => rfl, trivial⟩) rfl cells_sz (.inr (by simp)) ?_
        refine (Qa)<|Qn<|Qr ?_
        exact ⟨_, _, _, _, [], rfl, .cell (i := 2) rfl rfl (Uu 24) rfl (Uz 24) (arrv_size _ _), .tmp rfl, (by first | exact t_nil hrs (by omega) | exact t_leaf0 h0 hv hkk hk2 (leaf_pub (by omega)) | exact t_leaf0 h0 hv hkk hk2 (leaf_dh (by omega)) | exact t_leaf0 h0 hv hkk hk2 (leaf_atom (by omega))), (by repeat (first | exact bag_nil | exact bag_lab _ | apply bag_skip rfl))⟩
end Go.Proofs.Ytnkelhmfpepehaa
namespace Go.Proofs.Ytnkelhmfpepehaa
open Go Go.RowKit
theorem of_fn : ∀ (f : Nat), f ≤ 4 → ∀ (G : Mem) (v : Value) (rs : List RawT), Shows G 4 v rs.length (rs.flatMap rawC) → Fx Try.prog G [] 16 #[v, ii (4 - f)] (fun w l1 nw => l1 = [] ∧ TermIs G f rs w nw)
  | 0, _, _, v, rs, hv => of_leaf v rs hv
  | f + 1, hf, G, v, rs, hv => by
    rw [show 4 - (f + 1) = 3 - f by omega]
    exact of_node f hf v rs hv (of_fn f (by omega))
variable {G : Mem}
set_option maxHeartbeats 8000000 in
theorem termsOf_fn (v : Value) (rs : List RawT) (hv : Shows G 4 v rs.length (rs.flatMap rawC)) (n : Nat) (hn : n ≤ 10) : Fx Try.prog G [] 15 #[v, ii n] (fun w l1 nw => l1 = [] ∧ ∃ xs, TL nw (tsOf 4 n (rs.take 24)) w xs) := by
  have hv24 := shows_some 24 hv
  obtain ⟨q0, hq0⟩ : ∃ q, q = rs.take 24 := ⟨_, rfl⟩
  rw [← hq0] at hv24
  rw [← hq0]
  have hql : q0.length ≤ 24 := by rw [hq0]; simp; omega
  refine fxD (n := 28) Try.func15 rfl rfl (by simp) (argE [v, ii n] 0) (argE_ok _) ?_
  refine Qs<|Qp<|(Qa)<|Qn<|Qs<|Qp<|(Qm) ?_
  refine e_call rfl (Un 17) (some_fn v rs 24 hv) rfl rfl ?_
  refine (Qa)<|Qn<|Qs<|Qp<|(Qa)<|Qn<|Qs<|Qb ?_
  refine e_loopB [(1, _), (4, _)] [] (fun kk E m fz => ∃ (v1 : Value) (q1 : List RawT) (az : List TT) (cs : List Value) (w : Value) (oz : Option Blk), kk = n - az.length ∧ E = [(0, v1), (5, w)] ∧ m = [(50, oz)] ∧ (OwnS 24 4 w az.length cs (Option.toList oz)) ∧ (TO fz az cs) ∧ (Shows G 4 v1 q1.length (q1.flatMap rawC)) ∧ (tsOf 4 n q0 = az ++ tsOf 4 (n - az.length) q1) ∧ (az.length ≤ n) ∧ (q1.length ≤ 24)) (k := n - [].length) (E0 := [(0, _), (5, nilS)]) (M0 := [(50, none)]) (fz := []) ⟨_, q0, [], [], nilS, none, rfl, rfl, rfl, (own_nil _ _), TO.nil, hv24, (by simp), (Nat.zero_le _), hql⟩ ⟨rfl, rfl, rfl, rfl, trivial⟩ ⟨rfl, trivial⟩ (by repeat (first | exact bag_nil | exact bag_lab _ | apply bag_skip rfl)) ?_
  rintro kk E m fz ⟨v1, q1, az, cs, w, oz, rfl, rfl, rfl, hf0_0, hf0_1, hf0_2, hf0_3, hf0_4, hf0_5⟩
  simp only [catE, catL]
  refine Qs<|Qs ?_
  rcases (by omega : q1.length = 0 ∨ 0 < q1.length) with hq0 | hq0
  · skip
    refine Qp<|(Qm)<|(QC hf0_2)<|(QG)<|(Qaf)<|(Qm)<|(Qo)<|(Qo)<|(Qo)<|(Qo)<|(QF)<|Qn<|(Qcf) ?_
    have hfin := ts_fin hf0_4 (.inl hq0) hf0_3
    refine Qe<|Qs<|Qp<|(Qm) ?_
    refine e_freeze 50 [] rfl rfl (by repeat (first | exact bag_nil | exact bag_lab _ | apply bag_skip rfl)) trivial rfl rfl ?_
    simp only [catL]
    refine (Qa)<|Qn<|Qr ?_
    exact ⟨_, _, (fz ++ oz.toList), rfl, .tmp rfl, (by rw [hfin]; exact ⟨cs, (hf0_1.tl hf0_0 (by simp only [maxLen]; omega)).mono (fun z hz => by rcases List.mem_append.1 hz with hz | hz; exact List.mem_append_right _ hz; exact List.mem_append_left _ hz)⟩), (by repeat (first | exact bag_nil | exact bag_lab _ | apply bag_skip rfl))⟩
  · skip
    refine Qp<|(Qm)<|(QC hf0_2)<|(QG)<|(Qat)<|(Qm)<|(Qy)<|(Qm)<|(Qy)<|(QC hf0_0.shows)<|(Qy)<|(Qm)<|(Qy)<|(Ql)<|(QT)<|Qn ?_
    refine e_cond rfl ?_ ?_
    · intro hc0
      have hlt := of_decide_eq_true hc0
      refine Qk<|Qb<|Qs<|Qp<|(QH 0) fun r1=>Qn<|Qs<|QR ⟨[], 4, [], none, none⟩<|(Qm) ?_
      refine e_callD [(0, _), (50, _)] (by repeat (first | exact bag_nil | exact bag_lab _ | apply bag_skip rfl)) ⟨rfl, rfl, trivial⟩ rfl rfl rfl (Un 16) seenG (of_fn 4 (by decide) G v1 q1 hf0_2) (fun m' => term_room 24 (by decide) hf0_2 m') rfl rfl fun v3_1 nw3_1 hD3_1 => ?_
      simp only [catL]
      obtain ⟨c8, ys8, v8, rfl, ht8, hv9⟩ := hD3_1
      refine (Qm)<|(Qx)<|(Qx) ?_
      refine e_storeA (i := 0) (Uz 24) rfl rfl (arrv_size _ _) (cells_one ⟨fun _ => rfl, fun _ => rfl, fun _ => rfl, fun _ => shows_oneC ht8.2.1, trivial⟩) rfl cells_sz (.inl rfl) ?_
      refine (Qa)<|Qn<|Qp<|(Qm)<|(QD 0) ?_
      refine e_buildSl 1 (tC (tOf 4 q1).1 c8) (Uu 22 rfl) (Uz 24 rfl) (Ub 24 rfl) (by decide) (by decide) rfl (fill_tC (by kernel_rfl)) rfl fun r2 => ?_
      refine e_append 50 hf0_0 (shows_new _ _ (by rfl)) rfl (seen1 1 rfl ⟨[], trivial⟩) (Uu 22) (Uz 24) (Uy 24) (Ub 24) (by rfl) rfl rfl (to_one ht8).ones (by simp only [maxLen]; omega) (by omega) rfl fun v3_2 oz3_2 ho3_2 => ?_
      refine (Qa)<|Qn ?_
      have hown9 := own_app (L := az) (tOf 4 q1).1 ho3_2
      have hto9 : TO _ (az ++ [(tOf 4 q1).1]) (cs ++ (tC (tOf 4 q1).1 c8).toList) := (hf0_1.mono (fun z hz => List.mem_append_left _ hz)).app ((to_one ht8).mono (fun z hz => List.mem_append_right _ hz))
      have hml9 : (az ++ [(tOf 4 q1).1]).length = az.length + 1 := by simp
      refine e_round (E'' := [(0, _), (5, _)]) (M'' := [(50, _)]) (fz' := (fz ++ nw3_1)) ⟨_, _, _, _, _, _, rfl, rfl, rfl, hown9, hto9, hv9, (ts_next hq0 (by omega) hf0_3), (by rw [List.length_append, List.length_singleton]; omega), (by have := (of_good 4 (by decide) q1).1; omega)⟩ ⟨rfl, rfl, rfl, rfl, trivial⟩ ⟨rfl, trivial⟩ (by repeat (first | exact bag_nil | exact bag_lab _ | apply bag_skip rfl)) (by omega)
    · intro hc0
      have hfin := ts_fin hf0_4 (.inr (by have := of_decide_eq_false hc0; omega)) hf0_3
      refine Qe<|Qs<|Qp<|(Qm) ?_
      refine e_freeze 50 [] rfl rfl (by repeat (first | exact bag_nil | exact bag_lab _ | apply bag_skip rfl)) trivial rfl rfl ?_
      simp only [catL]
      refine (Qa)<|Qn<|Qr ?_
      exact ⟨_, _, (fz ++ oz.toList), rfl, .tmp rfl, (by rw [hfin]; exact ⟨cs, (hf0_1.tl hf0_0 (by simp only [maxLen]; omega)).mono (fun z hz => by rcases List.mem_append.1 hz with hz | hz; exact List.mem_append_right _ hz; exact List.mem_append_left _ hz)⟩), (by repeat (first | exact bag_nil | exact bag_lab _ | apply bag_skip rfl))⟩
end Go.Proofs.Ytnkelhmfpepehaa
