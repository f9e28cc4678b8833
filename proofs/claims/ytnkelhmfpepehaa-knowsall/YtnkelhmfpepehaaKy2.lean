import Derived.Test.YtnkelhmfpepehaaKy1
import Derived.ScopeJumps
import Derived.ProofKit
import Derived.OpenShut
import Derived.Carry
import Derived.SizedLaws
import Derived.Lib.Bytealg
namespace Go.Proofs.Ytnkelhmfpepehaa
open Go Go.RowKit
def lab : Nat → Mem → Mm
  | _, [] => []
  | k, x :: l => (k, some x) :: lab (k + 1) l
theorem lab_lk : ∀ (nw : Mem) (k i : Nat), lkM (lab k nw) i = if k ≤ i then nw[i - k]? else none
  | [], k, i => by simp [lab, lkM]
  | x :: l, k, i => by
    rw [lab, lkM_cons]
    by_cases h : k = i
    · subst h; simp
    · rw [if_neg h, lab_lk l (k + 1) i]
      by_cases h2 : k ≤ i
      · rw [if_pos (by omega), if_pos h2, show i - k = (i - (k + 1)) + 1 by omega, List.getElem?_cons_succ]
      · rw [if_neg (by omega), if_neg h2]
def Bag (fz : Mem) (M : Mm) : Prop := ∀ i, 1000 ≤ i → lkM M i = fz[i - 1000]?
theorem bag_lab (fz : Mem) : Bag fz (lab 1000 fz) := fun i hi => by rw [lab_lk, if_pos hi]
theorem bag_nil : Bag [] [] := fun i _ => by simp [lkM]
theorem bag_skip {fz : Mem} {M : Mm} {i : Nat} {x : Option Blk} (hi : Nat.blt i 1000 = true) (h : Bag fz M) : Bag fz ((i, x) :: M) := fun j hj => by
  have : i < 1000 := by simpa using hi
  rw [lkM_cons, if_neg (by omega)]; exact h j hj
theorem bag_sub {fz : Mem} {M : Mm} (h : Bag fz M) : subL (lab 1000 fz) M := by
  have key : ∀ (l : Mem) (k : Nat), 1000 ≤ k → (∀ j x, l[j]? = some x → lkM M (k + j) = some x) → subL (lab k l) M := by
    intro l
    induction l with
    | nil => intro k _ _; exact trivial
    | cons x l ih =>
      intro k hk hl
      refine ⟨by simpa using hl 0 x rfl, ih (k + 1) (by omega) fun j y hy => ?_⟩
      have := hl (j + 1) y (by simpa using hy)
      rw [show k + 1 + j = k + (j + 1) by omega]; exact this
  exact key fz 1000 (Nat.le_refl _) fun j x hx => by rw [h (1000 + j) (by omega), show 1000 + j - 1000 = j by omega]; exact hx
theorem subL_cat {A B M : Mm} (h1 : subL A M) (h2 : subL B M) : subL (catL A B) M := by
  induction A with
  | nil => exact h2
  | cons x A ih => exact ⟨h1.1, ih h1.2⟩
theorem cat_lk {T : Mm} : ∀ {L : Mm} {i : Nat} {x : Blk}, lkM (catL L T) i = some x → lkM L i = some x ∨ lkM T i = some x
  | [], _, _, h => .inr h
  | (s, v) :: L, i, x, h => by
    rw [catL, lkM_cons] at h
    rw [lkM_cons]
    by_cases e : s = i
    · rw [if_pos e] at h ⊢; exact .inl h
    · rw [if_neg e] at h ⊢; exact cat_lk h
def small : Mm → Bool
  | [] => true
  | (i, _) :: L => Nat.blt i 1000 && small L
theorem small_lk : ∀ {L : Mm} {i : Nat} {x : Blk}, small L = true → lkM L i = some x → i < 1000
  | [], _, _, _, h => by simp [lkM] at h
  | (s, v) :: L, i, x, hs, h => by
    rw [small, Bool.and_eq_true] at hs
    have : s < 1000 := by simpa using hs.1
    rw [lkM_cons] at h
    by_cases e : s = i
    · omega
    · rw [if_neg e] at h; exact small_lk hs.2 h
theorem FitsM.bag {M L : Mm} {m m' fz nw : Mem} (hM : FitsM M m) (hb : Bag fz M) (hL : subL L M) (hs : small L = true) (hm : ∀ x ∈ m, x ∈ m') (hn : ∀ x ∈ nw, x ∈ m') (hnd : (nw.map (·.b)).Nodup) (hap : ∀ x ∈ nw, ∀ i y, (1000 ≤ i ∨ ∃ z, lkM L i = some z) → lkM M i = some y → y.b ≠ x.b) : FitsM (catL L (lab 1000 (fz ++ nw))) m' := by
  have look : ∀ i x, lkM (catL L (lab 1000 (fz ++ nw))) i = some x → (lkM M i = some x ∧ (1000 ≤ i ∨ ∃ z, lkM L i = some z) ∧ (1000 ≤ i → i < 1000 + fz.length)) ∨ (1000 + fz.length ≤ i ∧ nw[i - 1000 - fz.length]? = some x) := fun i x h => by
    rcases cat_lk h with h | h
    · have h1 := small_lk hs h
      exact .inl ⟨subL_lk hL i x h, .inr ⟨x, h⟩, fun h2 => by omega⟩
    · rw [lab_lk] at h
      by_cases hi : 1000 ≤ i
      · rw [if_pos hi] at h
        by_cases hl : i - 1000 < fz.length
        · rw [List.getElem?_append_left hl] at h
          exact .inl ⟨by rw [hb i hi]; exact h, .inl hi, fun _ => by omega⟩
        · rw [List.getElem?_append_right (by omega)] at h
          exact .inr ⟨by omega, h⟩
      · rw [if_neg hi] at h; cases h
  refine ⟨fun i x h => ?_, fun i j x y hx hy hne => ?_⟩
  · rcases look i x h with ⟨h1, _⟩ | ⟨_, h1⟩
    · exact hm x (hM.has i x h1)
    · exact hn x (List.mem_of_getElem? h1)
  · rcases look i x hx with ⟨h1, g1, _⟩ | ⟨h0, h1⟩
    · rcases look j y hy with ⟨h2, _, _⟩ | ⟨_, h2⟩
      · exact hM.apart i j x y h1 h2 hne
      · exact hap y (List.mem_of_getElem? h2) i x g1 h1
    · rcases look j y hy with ⟨h2, g2, _⟩ | ⟨h3, h2⟩
      · exact fun e => hap x (List.mem_of_getElem? h1) j y g2 h2 e.symm
      · intro e
        have l1 := (List.getElem?_eq_some_iff.1 h1).1
        have l2 := (List.getElem?_eq_some_iff.1 h2).1
        have q1 : (nw.map (·.b))[i - 1000 - fz.length]? = some x.b := by rw [List.getElem?_map, h1]; rfl
        have q2 : (nw.map (·.b))[j - 1000 - fz.length]? = some x.b := by rw [List.getElem?_map, h2, e]; rfl
        have := (List.getElem?_inj (by simpa using l1) hnd).1 (q1.trans q2.symm)
        omega
section
variable {P : Program} {G : Mem} {R : Reg} {ops : Array Oper} {n : Nat} {K : Env → Mm → Prop} {Q : Exit → Env → Mm → Prop} {rest : List Oper} {E : Env} {M : Mm} {d : Nat} {ty : TypeId} {pos : String} {aft : Array Edge}
variable {T T' : TypeId} {x y : Operand}
theorem okXL_none {i : Nat} (hX : R.X = []) (hL : R.L = none := by rfl) : okXL M i [] R := by
  unfold okXL
  rw [hL]
  show okX M i [] R.X
  rw [hX]
  trivial
theorem seen_bag {fz : Mem} (hb : Bag fz M) (hX : R.X = []) (hL : R.L = none := by rfl) : SeenE G R M fz := fun z hz => by
  obtain ⟨j, hj⟩ := List.getElem?_of_mem hz
  exact .inr ⟨1000 + j, by rw [hb _ (by omega), show 1000 + j - 1000 = j by omega]; exact hj, [], okXL_none hX hL⟩
theorem seen_cons {z : Blk} (i : Nat) (hi : lkM M i = some z) (hX : R.X = [] := by rfl) (hL : R.L = none := by rfl) : SeenE G R M (z :: G) := fun q hq => by
  rcases List.mem_cons.1 hq with rfl | h
  · exact .inr ⟨i, hi, [], okXL_none hX hL⟩
  · exact .inl h
theorem e_callD (L : Mm) {fz : Mem} {fo : Operand} {f : FuncId} {args : Array Operand} {tys : Array TypeId} {vs cap : List Value} {g' : Mem} {S : Value → Mem → Prop} (hb : Bag fz M) (hL : subL L M) (hs : small L = true) (hf : rd E fo = some (.func (.func f) #[] cap.toArray)) (hargs : rdl E args.toList = some vs) (he : enters P f = true) (hg : SeenE G R M g')
    (hF : Fx P g' [] f (vs ++ cap).toArray (fun v l1 nw => l1 = [] ∧ S v nw)) (hS : ∀ m' : Mem, ∃ v nw, S v nw ∧ FreshM m' nw) (hd : Nat.blt d n = true) (hR : callMk R = true)
    (h : ∀ v nw, S v nw → OpsE P G R ops n K rest ((d, v) :: E) (catL L (lab 1000 (fz ++ nw)))) : OpsE P G R ops n K (⟨some d, .call ⟨.value fo, args, tys⟩, ty, pos, aft, none⟩ :: rest) E M :=
  fun _ m ha hM => by
    refine st_callN hR (S := S) (ha.rd hf) (ha.args hargs) he (by simpa using hF) hS (fun w hG hv q hq => (hg.seen hM).rin hG hv hq) ?_
    intro v nw hSv hfr
    exact h v nw hSv _ _ (ha.put hd _) (hM.bag hb hL hs (fun x hx => List.mem_append_left _ hx) (fun x hx => List.mem_append_right _ hx) hfr.1 fun x hx i y _ hy => hfr.2 x hx y (hM.has i y hy))
theorem FitsM.freeze {L : Mm} {m fz : Mem} (hM : FitsM M m) (i : Nat) {oz : Option Blk} (hi : lkM M i = oz) (h1 : Nat.blt i 1000 = true) (hb : Bag fz M) (hL : subL L M) (hs : small L = true) (hn : lkM L i = none) : FitsM (catL L (lab 1000 (fz ++ oz.toList))) m := by
  have h1' : i < 1000 := by simpa using h1
  cases oz with
  | none => exact hM.bag hb hL hs (fun _ h => h) (fun x hx => by simp at hx) (by simp) (fun x hx => by simp at hx)
  | some z =>
    refine hM.bag hb hL hs (fun _ h => h) (fun x hx => ?_) (by simp) fun x hx j y hj hy => ?_
    · simp at hx; subst hx; exact hM.has i x hi
    · simp at hx; subst hx
      refine hM.apart j i y x hy hi fun e => ?_
      subst e
      rcases hj with hj | ⟨q, hq⟩
      · omega
      · rw [hn] at hq; cases hq
theorem e_freeze (i : Nat) (L : Mm) {l : List Oper} {fz : Mem} {oz : Option Blk} (hi : lkM M i = oz) (h1 : Nat.blt i 1000 = true) (hb : Bag fz M) (hL : subL L M) (hs : small L = true) (hn : lkM L i = none) (h : OpsE P G R ops n K l E (catL L (lab 1000 (fz ++ oz.toList)))) : OpsE P G R ops n K l E M :=
  fun _ _ ha hM => h _ _ ha (hM.freeze i hi h1 hb hL hs hn)
theorem e_loopB {c : Code} (Ek : Env) (Mk : Mm) (I : Nat → Env → Mm → Mem → Prop) {E0 : Env} {M0 : Mm} {fz : Mem} {k : Nat} (h0 : I k E0 M0 fz) (hs : sub (catE E0 Ek) E) (hl : subL (catL M0 Mk) M) (hb : Bag fz M)
    (round : ∀ k E M fz, I k E M fz → SatE P G c n (thenE (fun E' M' => ∃ k' E'' M'' fz', k' < k ∧ sub (catE E'' Ek) E' ∧ subL (catL M'' Mk) M' ∧ Bag fz' M' ∧ I k' E'' M'' fz') Q) (catE E Ek) (catL (catL M Mk) (lab 1000 fz))) : SatE P G (.loop c) n Q E M :=
  e_loop (fun k E M => ∃ E1 M1 fz, E = catE E1 Ek ∧ M = catL (catL M1 Mk) (lab 1000 fz) ∧ I k E1 M1 fz) (catE E0 Ek) (catL (catL M0 Mk) (lab 1000 fz)) k hs (subL_cat hl (bag_sub hb)) ⟨_, _, _, rfl, rfl, h0⟩ fun k E M ⟨E1, M1, fz, e1, e2, hI⟩ => by
    subst e1 e2
    intro a m ha hM
    refine sat_mono (round k E1 M1 fz hI a m ha hM) fun e a' m' ⟨E', M', h1, h2, h3⟩ => ⟨E', M', h1, h2, ?_⟩
    cases e with
    | normal =>
      obtain ⟨k', E'', M'', fz', q1, q2, q3, q5, q4⟩ := h3
      exact ⟨k', _, _, q1, q2, subL_cat q3 (bag_sub q5), _, _, _, rfl, rfl, q4⟩
    | _ => exact h3
theorem e_round {Ek : Env} {Mk : Mm} {I : Nat → Env → Mm → Mem → Prop} {k k' : Nat} {E' E'' : Env} {M' M'' : Mm} {fz' : Mem} (h : I k' E'' M'' fz') (hs : sub (catE E'' Ek) E') (hl : subL (catL M'' Mk) M') (hb : Bag fz' M') (hk : k' < k) : ∃ k' E'' M'' fz', k' < k ∧ sub (catE E'' Ek) E' ∧ subL (catL M'' Mk) M' ∧ Bag fz' M' ∧ I k' E'' M'' fz' := ⟨_, _, _, _, hk, hs, hl, hb, h⟩
end
section
variable {P : Program} {G : Mem} {R : Reg} {ops : Array Oper} {n : Nat} {K : Env → Mm → Prop} {Q : Exit → Env → Mm → Prop} {E : Env} {M : Mm}
theorem sub_cat {A B F : Env} (h1 : sub A F) (h2 : sub B F) : sub (catE A B) F := by
  induction A with
  | nil => exact h2
  | cons x A ih => exact ⟨h1.1, ih h1.2⟩
theorem e_join (Fk Fn : Env) (Nk : Mm) {l : List Oper} (_hk : sub Fk E) (_hn : subL Nk M) (h : OpsE P G R ops n (fun E' M' => sub Fk E' ∧ sub Fn E' ∧ subL Nk M') l E M) (hK : K (catE Fn Fk) Nk) : OpsE P G R ops n K l E M :=
  fun a m ha hM => opsM_mono (fun _ _ ⟨_, _, h1, h2, h3, h4, h5⟩ => ⟨_, _, h1.sub (sub_cat h4 h3), h2.sub h5, hK⟩) l (h a m ha hM)
def joinQ (Fk Fn : Env) (Nk : Mm) (Q : Exit → Env → Mm → Prop) : Exit → Env → Mm → Prop
  | .normal, E', M' => sub Fk E' ∧ sub Fn E' ∧ subL Nk M'
  | e, E', M' => Q e E' M'
theorem s_join (Fk Fn : Env) (Nk : Mm) {c : Code} (_hk : sub Fk E) (_hn : subL Nk M) (h : SatE P G c n (joinQ Fk Fn Nk Q) E M) (hK : Q .normal (catE Fn Fk) Nk) : SatE P G c n Q E M :=
  fun a m ha hM => sat_mono (h a m ha hM) fun e _ _ ⟨E', M', h1, h2, h3⟩ => by
    cases e with
    | normal => exact ⟨_, _, h1.sub (sub_cat h3.2.1 h3.1), h2.sub h3.2.2, hK⟩
    | _ => exact ⟨E', M', h1, h2, h3⟩
theorem e_case {l : List Oper} {s : Nat} {b : Bool} (ht : b = true → OpsE P G R ops n K l ((s, .bool true) :: E) M) (hf : b = false → OpsE P G R ops n K l ((s, .bool false) :: E) M) : OpsE P G R ops n K l ((s, .bool b) :: E) M := by
  cases b with
  | true => exact ht rfl
  | false => exact hf rfl
theorem cell_one {v : Value} (h : v.cells = #[v]) : v.cells[0]? = some v := by rw [h]; rfl
theorem bool_fin {b b' : Bool} (h : b = b') : some (Value.bool b) = some (Value.bool b') := by rw [h]
end
theorem own_none {e : TypeId} {z r : Nat} : OwnS e z (.slice (some ⟨r, 0, none⟩) 0 0) 0 [] [⟨r, #[], e⟩] := .inr ⟨r, 0, #[], rfl, rfl, Nat.le_refl _, by decide, by simp, by simp, by simp⟩
theorem st_buildSl0 {P : Program} {G : Mem} {R : Reg} {ops : Array Oper} {K : Act → Mem → Prop} {rest : List Oper} {a : Act} {m : Mem} {d : Option Tmp} {ty T : TypeId} {pos : String} {aft : Array Edge} {z : Nat} {e : TypeId} (hT : P.underlying T = some (.slice e)) (hs : (P.info? e).map (·.size) = some z)
    (h : ∀ r, (∀ x ∈ m, x.b ≠ r) → opsM P G R ops K rest (a.put d (.slice (some ⟨r, 0, none⟩) 0 0)) (m ++ [⟨r, #[], e⟩])) : opsM P G R ops K (⟨d, .buildSlice T 0 #[], ty, pos, aft, none⟩ :: rest) a m :=
  .inr ⟨rfl, #[], e, fun r => .slice (some ⟨r, 0, none⟩) 0 0, fun w => by
    cases hi : P.info? e with
    | none => simp [hi] at hs
    | some j =>
      simp only [execOp, Instr.buildSlice, zeroValue, typeInfo, underlying, program, sizeOf, newRow, newObj]
      simp [Sem.run, hT, hi, Instr.fill]
      congr 2
      apply Array.ext
      · simp
      · intro i h1 h2
        simp at h2, h⟩
theorem e_buildSl0 {P : Program} {G : Mem} {R : Reg} {ops : Array Oper} {n : Nat} {K : Env → Mm → Prop} {rest : List Oper} {E : Env} {M : Mm} {d : Nat} {ty T : TypeId} {pos : String} {aft : Array Edge} (i : Nat) {z : Nat} {e : TypeId} (hT : P.underlying T = some (.slice e)) (hs : (P.info? e).map (·.size) = some z) (hd : Nat.blt d n = true)
    (h : ∀ r, OpsE P G R ops n K rest ((d, .slice (some ⟨r, 0, none⟩) 0 0) :: E) ((i, some ⟨r, #[], e⟩) :: M)) : OpsE P G R ops n K (⟨some d, .buildSlice T 0 #[], ty, pos, aft, none⟩ :: rest) E M :=
  fun _ _ ha hM => st_buildSl0 hT hs fun r hr => h r _ _ (ha.put hd _) (hM.alloc i ⟨r, #[], e⟩ hr)
section
variable {P : Program} {G : Mem} {n : Nat}
theorem FitsM.bag_in {M : Mm} {m fz : Mem} (hM : FitsM M m) (hb : Bag fz M) : (fz.map (·.b)).Nodup ∧ ∀ x ∈ fz, x ∈ m := by
  have at_ : ∀ j x, fz[j]? = some x → lkM M (1000 + j) = some x := fun j x hx => by rw [hb _ (by omega), show 1000 + j - 1000 = j by omega]; exact hx
  refine ⟨?_, fun x hx => by
    obtain ⟨j, hj⟩ := List.getElem?_of_mem hx
    exact hM.has _ x (at_ j x hj)⟩
  unfold List.Nodup
  rw [List.pairwise_iff_getElem]
  intro i j hi hj hij e
  have hi' : i < fz.length := by simpa using hi
  have hj' : j < fz.length := by simpa using hj
  have h1 : fz[i]? = some fz[i] := List.getElem?_eq_getElem hi'
  have h2 : fz[j]? = some fz[j] := List.getElem?_eq_getElem hj'
  exact hM.apart _ _ _ _ (at_ i _ h1) (at_ j _ h2) (by omega) (by simpa using e)
def EndD (P : Program) (S : Value → Mem → Prop) (fn : Func) : Exit → Env → Mm → Prop
  | .normal, E, M | .ret, E, M => ∃ r v fz, fn.results = #[r] ∧ Res P E M r v ∧ S v fz ∧ Bag fz M
  | _, _, _ => False
theorem fxD {f : FuncId} {fn : Func} {c : Code} {args : Array Value} {S : Value → Mem → Prop} (hf : P.funcs[f]? = some fn) (hb : fn.body = some c) (hn : fn.ntmps = n) (ha : args.size ≤ n) (E : Env) (hE : ∀ t v, lk E t = some v → args[t]? = some v)
    (h : SatE P G c n (EndD P S fn) E []) : Fx P G [] f args (fun v l1 nw => l1 = [] ∧ S v nw) :=
  fx_of hf hb (sat_mono (h _ [] ⟨by simp [hn]; omega, rfl, fun t v ht => by
    have := hE t v ht
    have hlt := (Array.getElem?_eq_some_iff.1 this).1
    rw [Array.getElem?_append_left hlt]; exact this⟩ (FitsM.nil _)) fun e' a m ⟨E', M', h1, h0, h2⟩ => by
      have key : (∃ r v fz, fn.results = #[r] ∧ Res P E' M' r v ∧ S v fz ∧ Bag fz M') → a.defers = [] ∧ ∃ v l1 nw, (l1 = [] ∧ S v nw) ∧ (nw.map (·.b)).Nodup ∧ (∀ x ∈ nw, x.b ∉ ([] : Mem).map (·.b)) ∧ (∀ x ∈ l1 ++ nw, x ∈ m) ∧ ∀ w, MemIn m w → (results fn a.tmps).run P w = .ok v w := fun ⟨r, v, fz, hr, hR, ho, hb⟩ =>
        ⟨h1.defers, v, [], fz, ⟨rfl, ho⟩, (h0.bag_in hb).1, by simp, fun x hx => (h0.bag_in hb).2 x (by simpa using hx), fun w hw => by
          have := res_run h1 h0 hw hR
          rw [results_eq, hr, mapM1]
          simp [this]⟩
      cases e' <;> first | exact key h2 | exact h2.elim)
end
end Go.Proofs.Ytnkelhmfpepehaa
namespace Go.Proofs.Ytnkelhmfpepehaa
open Go Go.RowKit
section
variable {P : Program} {G : Mem} {R : Reg} {ops : Array Oper} {K : Act → Mem → Prop} {rest : List Oper} {a : Act} {m : Mem} {d : Option Tmp} {ty : TypeId} {pos : String} {aft : Array Edge}
variable {T T' : TypeId} {x : Operand}
end
section
variable {P : Program} {G : Mem} {R : Reg} {ops : Array Oper} {n : Nat} {K : Env → Mm → Prop} {rest : List Oper} {E : Env} {M : Mm} {d : Nat} {ty : TypeId} {pos : String} {aft : Array Edge}
variable {T T' : TypeId} {x : Operand}
end
section
variable {P : Program} {G : Mem} {R : Reg} {ops : Array Oper} {n : Nat} {K : Env → Mm → Prop} {rest : List Oper} {E : Env} {M : Mm} {d : Nat} {ty : TypeId} {pos : String} {aft : Array Edge}
variable {T T' : TypeId} {x y : Operand}
end
theorem Fn.more {P : Program} {G G' : Mem} {f : FuncId} {args : Array Value} {v : Value} (h : Fn P G f args v) (hG : ∀ x ∈ G, x ∈ G') : Fn P G' f args v := fun w hw => h w (fun x hx => hw x (hG x hx))
end Go.Proofs.Ytnkelhmfpepehaa
namespace Go.Proofs.Ytnkelhmfpepehaa
open Go Go.RowKit
section
variable {P : Program} {G : Mem} {R : Reg} {ops : Array Oper} {K : Act → Mem → Prop} {rest : List Oper} {a : Act} {m : Mem} {d : Option Tmp} {ty : TypeId} {pos : String} {aft : Array Edge}
variable {T T' : TypeId} {x y : Operand}
end
section
variable {P : Program} {G : Mem} {R : Reg} {ops : Array Oper} {n : Nat} {K : Env → Mm → Prop} {rest : List Oper} {E : Env} {M : Mm} {d : Nat} {ty : TypeId} {pos : String} {aft : Array Edge}
variable {T T' : TypeId} {x y : Operand}
end
end Go.Proofs.Ytnkelhmfpepehaa
namespace Go.Proofs.Ytnkelhmfpepehaa
open Go Go.RowKit
section
variable {P : Program} {G : Mem} {R : Reg} {ops : Array Oper} {K : Act → Mem → Prop} {rest : List Oper} {a : Act} {m : Mem} {d : Option Tmp} {ty T T' : TypeId} {pos : String} {aft : Array Edge} {x y : Operand}
theorem st_max {k k' : IntKind} {p q : Nat} (hR : callOk R = true) (hx : a.eval x = .int k (p : Int)) (hy : a.eval y = .int k' (q : Int)) (h : opsM P G R ops K rest (a.put d (.int k ((max p q : Nat) : Int))) m) :
    opsM P G R ops K (⟨d, .call ⟨.builtin .max, #[x, y], #[T, T']⟩, ty, pos, aft, none⟩ :: rest) a m :=
  st_value rfl hR (fun w => by
    have e : (if p < q then (q : Int) else p) = ((max p q : Nat) : Int) := by split <;> omega
    have : (Builtin.max_ #[T, T'] ty #[.int k (p : Int), .int k' (q : Int)]).run P w = .ok (.int k ((max p q : Nat) : Int)) w := by simp [Builtin.max_, Builtin.max2, e]
    simp only [execOp, resolve, invoke, builtin, Sem.run_bind, Sem.run_pure, Result.andThen_ok, List.map_toArray, List.map_cons, List.map_nil, hx, hy, this]) h
end
section
variable {P : Program} {G : Mem} {R : Reg} {ops : Array Oper} {n : Nat} {K : Env → Mm → Prop} {rest : List Oper} {E : Env} {M : Mm} {d : Nat} {ty : TypeId} {pos : String} {aft : Array Edge}
variable {T T' : TypeId} {x y : Operand}
theorem e_max {k k' : IntKind} {p q : Nat} (hx : rd E x = some (.int k (p : Int))) (hy : rd E y = some (.int k' (q : Int))) (hd : Nat.blt d n = true) (hR : callOk R = true) (h : OpsE P G R ops n K rest ((d, .int k ((max p q : Nat) : Int)) :: E) M) :
    OpsE P G R ops n K (⟨some d, .call ⟨.builtin .max, #[x, y], #[T, T']⟩, ty, pos, aft, none⟩ :: rest) E M := fun _ _ ha hM => st_max hR (ha.rd hx) (ha.rd hy) (h _ _ (ha.put hd _) hM)
end
end Go.Proofs.Ytnkelhmfpepehaa
namespace Go.Proofs.Ytnkelhmfpepehaa
open Go Go.RowKit
section
variable {P : Program} {G : Mem} {R : Reg} {ops : Array Oper} {K : Act → Mem → Prop} {rest : List Oper} {a : Act} {m : Mem} {d : Option Tmp} {ty T T' : TypeId} {pos : String} {aft : Array Edge} {x y : Operand}
end
section
variable {P : Program} {G : Mem} {R : Reg} {ops : Array Oper} {K : Act → Mem → Prop} {rest : List Oper} {a : Act} {m : Mem} {d : Option Tmp} {ty T T' : TypeId} {pos : String} {aft : Array Edge} {x y : Operand}
end
def Two (b : Nat) (t : TypeId) (oz : Option Blk) (S : Value → Array Value → Option Blk → Prop) : Value → Mem → Mem → Prop := fun v l1 nw =>
  ∃ c' oz', S v c' oz' ∧ ((l1 = ⟨b, c', t⟩ :: oz'.toList ∧ nw = [] ∧ oz'.toList.map (·.b) = oz.toList.map (·.b)) ∨ ∃ lo, l1 = ⟨b, c', t⟩ :: lo ∧ lo.map (·.b) = oz.toList.map (·.b) ∧ nw = oz'.toList)
section
variable {P : Program} {G : Mem} {R : Reg} {ops : Array Oper} {n : Nat} {K : Env → Mm → Prop} {rest : List Oper} {E : Env} {M : Mm} {d : Nat} {ty T T' : TypeId} {pos : String} {aft : Array Edge} {x y : Operand}
end
section
variable {P : Program} {G : Mem} {n : Nat}
theorem FitsM.single (x : Blk) : FitsM [(0, some x)] [x] := ⟨fun i y hy => by
    rw [lkM_cons] at hy
    split at hy
    · cases hy; simp
    · simp [lkM] at hy, fun i j y z hy hz hne => by
    rw [lkM_cons] at hy hz
    split at hy
    · split at hz
      · rename_i e1 e2; exact absurd (e1.symm.trans e2) hne
      · simp [lkM] at hz
    · simp [lkM] at hy⟩
def TwoEnd (b : Nat) (t : TypeId) (oz : Option Blk) (c' : Array Value) (oz' : Option Blk) (M : Mm) : Prop :=
  lkM M 0 = some ⟨b, c', t⟩ ∧ ((lkM M 1 = oz' ∧ oz'.toList.map (·.b) = oz.toList.map (·.b)) ∨ ∃ k lo, k ≠ 0 ∧ k ≠ 1 ∧ lkM M k = oz' ∧ lkM M 1 = lo ∧ lo.toList.map (·.b) = oz.toList.map (·.b))
theorem FitsM.two {x : Blk} {oz : Option Blk} (h : ∀ z, oz = some z → z.b ≠ x.b) : FitsM [(1, oz), (0, some x)] (x :: oz.toList) :=
  (FitsM.single x).change 1 (fun j y _ hy => by rw [lkM_cons] at hy; split at hy; cases hy; simp; simp [lkM] at hy) fun z hz => ⟨by subst hz; simp, fun j y _ hy => by
    rw [lkM_cons] at hy
    split at hy
    · cases hy; exact fun e => h z hz e.symm
    · simp [lkM] at hy⟩
theorem TwoEnd.post {b : Nat} {t : TypeId} {c0 c' : Array Value} {oz oz' : Option Blk} {M : Mm} {m : Mem} {S : Value → Array Value → Option Blk → Prop} {v : Value} (hM : FitsM M m) (hS : S v c' oz') (h : TwoEnd b t oz c' oz' M) :
    ∃ l1 nw, Two b t oz S v l1 nw ∧ (nw.map (·.b)).Nodup ∧ (∀ x ∈ nw, x.b ∉ (⟨b, c0, t⟩ :: oz.toList).map (·.b)) ∧ ∀ x ∈ l1 ++ nw, x ∈ m := by
  obtain ⟨h0, ⟨h1, hid⟩ | ⟨k, lo, k0, k1, hk, h1, hid⟩⟩ := h
  · refine ⟨⟨b, c', t⟩ :: oz'.toList, [], ⟨c', oz', hS, .inl ⟨rfl, rfl, hid⟩⟩, by simp, by simp, fun x hx => ?_⟩
    rw [List.append_nil] at hx
    rcases List.mem_cons.1 hx with rfl | hx
    · exact hM.has 0 _ h0
    · exact hM.has 1 x (h1.trans (by simpa using hx))
  · refine ⟨⟨b, c', t⟩ :: lo.toList, oz'.toList, ⟨c', oz', hS, .inr ⟨_, rfl, hid, rfl⟩⟩, ?_, fun x hx => ?_, fun x hx => ?_⟩
    · cases oz' <;> simp
    · have e : oz' = some x := by simpa using hx
      have n0 := hM.apart k 0 x _ (hk.trans e) h0 k0
      rw [List.map_cons, ← hid]
      cases lo with
      | none => simpa using n0
      | some q => simpa using ⟨n0, hM.apart k 1 x q (hk.trans e) h1 k1⟩
    · rcases List.mem_append.1 hx with hx | hx
      · rcases List.mem_cons.1 hx with rfl | hx
        · exact hM.has 0 _ h0
        · exact hM.has 1 x (h1.trans (by simpa using hx))
      · exact hM.has k x (hk.trans (by simpa using hx))
end
end Go.Proofs.Ytnkelhmfpepehaa
namespace Go.Proofs.Ytnkelhmfpepehaa
open Go Go.RowKit
section
variable {P : Program} {G : Mem}
def Again (P : Program) (G : Mem) (c B : Code) (Q : Exit → Act → Mem → Prop) (a : Act) (m : Mem) : Prop :=
  ∀ (B0 : Nat) (L : List Nat) (w0 w : World), B0 ≤ w0.heap.size → Holds G B0 L w0 m w → ∀ (b : Frame) (k : List Item) (cs : List Frame), ∃ e a' w', (∃ m', Q e a' m' ∧ Holds G B0 L w0 m' w') ∧ Arrives P (lone (b.at a (.code (.seq .skip B) :: .inScope c :: k)) cs w) b k cs e a' w'
def jumpM (l : Nat) (J : Act → Mem → Prop) (Q : Exit → Act → Mem → Prop) : Exit → Act → Mem → Prop
  | .goto l', a, m => l' = l ∧ J a m
  | e, a, m => Q e a m
theorem sat_scope {c B : Code} {l : Nat} {Q : Exit → Act → Mem → Prop} {a : Act} {m : Mem} (hf : findLabel c l = some (.seq .skip B)) (h : Sat P G c (jumpM l (Again P G c B Q) Q) a m) : Sat P G (.scope c) Q a m := by
  intro B0 L w0 w hB hw b k cs
  have hg : gotoIn l (.inScope c :: k) = some (.code (.seq .skip B) :: .inScope c :: k) := by simp [gotoIn, hf]
  obtain ⟨e, a₁, w₁, ⟨m1, hq, hw1⟩, harr⟩ := h B0 L w0 w hB hw b (.inScope c :: k) cs
  cases e with
  | normal => exact ⟨.normal, a₁, w₁, ⟨m1, hq, hw1⟩, .head step_scope (Steps.trans harr (.one step_inScope))⟩
  | exit id => exact ⟨.exit id, a₁, w₁, ⟨m1, hq, hw1⟩, fun k' hk => .head step_scope (harr k' (by simp [exitTo, hk]))⟩
  | goto l' =>
    obtain ⟨rfl, hJ'⟩ := hq
    obtain ⟨e₂, a₂, w₂, hq₂, harr₂⟩ := hJ' B0 L w0 w₁ hB hw1 b k cs
    exact ⟨e₂, a₂, w₂, hq₂, .of_steps (.head step_scope (harr _ hg)) harr₂⟩
  | ret => exact ⟨_, a₁, w₁, ⟨m1, hq, hw1⟩, .of_steps (.one step_scope) harr⟩
  | panic ch => exact ⟨_, a₁, w₁, ⟨m1, hq, hw1⟩, .of_steps (.one step_scope) harr⟩
  | outgrown => exact ⟨_, a₁, w₁, ⟨m1, hq, hw1⟩, .of_steps (.one step_scope) harr⟩
theorem again_of {c B : Code} {l : Nat} {Q : Exit → Act → Mem → Prop} (hf : findLabel c l = some (.seq .skip B)) (I : Nat → Act → Mem → Prop) (round : ∀ n a m, I n a m → Sat P G B (jumpM l (fun a' m' => ∃ n', n' < n ∧ I n' a' m') Q) a m) : ∀ n a m, I n a m → Again P G c B Q a m := by
  intro n
  induction n using Nat.strongRecOn with
  | _ n ih =>
    intro a m hI B0 L w0 w hB hw b k cs
    have hg : gotoIn l (.inScope c :: k) = some (.code (.seq .skip B) :: .inScope c :: k) := by simp [gotoIn, hf]
    have hs : Sat P G (.seq .skip B) (jumpM l (fun a' m' => ∃ n', n' < n ∧ I n' a' m') Q) a m := sat_seq (sat_skip (round n a m hI))
    obtain ⟨e, a₁, w₁, ⟨m1, hq, hw1⟩, harr⟩ := hs B0 L w0 w hB hw b (.inScope c :: k) cs
    cases e with
    | normal => exact ⟨.normal, a₁, w₁, ⟨m1, hq, hw1⟩, Steps.trans harr (.one step_inScope)⟩
    | exit id => exact ⟨.exit id, a₁, w₁, ⟨m1, hq, hw1⟩, fun k' hk => harr k' (by simp [exitTo, hk])⟩
    | goto l' =>
      obtain ⟨rfl, n', hn', hI'⟩ := hq
      obtain ⟨e₂, a₂, w₂, hq₂, harr₂⟩ := ih n' hn' a₁ m1 hI' B0 L w0 w₁ hB hw1 b k cs
      exact ⟨e₂, a₂, w₂, hq₂, .of_steps (harr _ hg) harr₂⟩
    | ret => exact ⟨_, a₁, w₁, ⟨m1, hq, hw1⟩, harr⟩
    | panic ch => exact ⟨_, a₁, w₁, ⟨m1, hq, hw1⟩, harr⟩
    | outgrown => exact ⟨_, a₁, w₁, ⟨m1, hq, hw1⟩, harr⟩
theorem sat_label {l : Nat} {Q : Exit → Act → Mem → Prop} {a : Act} {m : Mem} (h : Q .normal a m) : Sat P G (.label l) Q a m := fun _ _ _ _ _ hw => wp_label ⟨m, h, hw⟩
theorem sat_goto {l : Nat} {Q : Exit → Act → Mem → Prop} {a : Act} {m : Mem} (h : Q (.goto l) a m) : Sat P G (.goto l) Q a m := fun _ _ _ _ _ hw => wp_goto ⟨m, h, hw⟩
end
section
variable {P : Program} {G : Mem} {n : Nat} {Q : Exit → Env → Mm → Prop} {E : Env} {M : Mm}
def jumpE (l : Nat) (J : Env → Mm → Prop) (Q : Exit → Env → Mm → Prop) : Exit → Env → Mm → Prop
  | .goto l', a, m => l' = l ∧ J a m
  | e, a, m => Q e a m
def AgainE (P : Program) (G : Mem) (c B : Code) (n : Nat) (Q : Exit → Env → Mm → Prop) (E : Env) (M : Mm) : Prop := ∀ a m, Fits n E a → FitsM M m → Again P G c B (EQ n Q) a m
theorem e_goto {l : Nat} (h : Q (.goto l) E M) : SatE P G (.goto l) n Q E M := fun _ _ ha hM => sat_goto ⟨E, M, ha, hM, h⟩
theorem e_scope {c B : Code} {l : Nat} (hf : findLabel c l = some (.seq .skip B)) (h : SatE P G c n (jumpE l (AgainE P G c B n Q) Q) E M) : SatE P G (.scope c) n Q E M := fun a m ha hM =>
  sat_scope hf (sat_mono (h a m ha hM) fun e a' m' ⟨E', M', h1, h0, h2⟩ => by
    cases e with
    | goto l' => exact ⟨h2.1, h2.2 a' m' h1 h0⟩
    | _ => exact ⟨E', M', h1, h0, h2⟩)
theorem e_mark {c B : Code} {l : Nat} (hf : findLabel c l = some (.seq .skip B)) (I : Nat → Env → Mm → Prop) (E0 : Env) (M0 : Mm) (k : Nat) (hs : sub E0 E) (hl : subL M0 M) (h0 : I k E0 M0)
    (round : ∀ k E M, I k E M → SatE P G B n (jumpE l (fun E' M' => ∃ k' E'' M'', k' < k ∧ sub E'' E' ∧ subL M'' M' ∧ I k' E'' M'') Q) E M) : SatE P G (.seq (.label l) B) n (jumpE l (AgainE P G c B n Q) Q) E M := by
  have key : ∀ k a m, (∃ E M, Fits n E a ∧ FitsM M m ∧ I k E M) → Again P G c B (EQ n Q) a m := again_of hf (fun k a m => ∃ E M, Fits n E a ∧ FitsM M m ∧ I k E M) fun k a m ⟨E1, M1, hE, hM, hI⟩ =>
    sat_mono (round k E1 M1 hI a m hE hM) fun e a' m' ⟨E', M', h1, h0, h2⟩ => by
      cases e with
      | goto l' =>
        obtain ⟨e1, k', E'', M'', h3, h4, h6, h5⟩ := h2
        exact ⟨e1, k', h3, E'', M'', h1.sub h4, h0.sub h6, h5⟩
      | _ => exact ⟨E', M', h1, h0, h2⟩
  intro a m ha hM
  refine sat_seq (sat_label ?_)
  refine sat_mono (round k E0 M0 h0 a m (ha.sub hs) (hM.sub hl)) fun e a' m' ⟨E', M', h1, h0, h2⟩ => ⟨E', M', h1, h0, ?_⟩
  cases e with
  | goto l' =>
    obtain ⟨e1, k', E'', M'', h3, h4, h6, h5⟩ := h2
    exact ⟨e1, fun a1 m1 g1 g2 => key k' a1 m1 ⟨E'', M'', g1.sub h4, g2.sub h6, h5⟩⟩
  | _ => exact h2
theorem e_markK {c B : Code} {l : Nat} (hf : findLabel c l = some (.seq .skip B)) (Ek : Env) (Mk : Mm) (I : Nat → Env → Mm → Prop) (E0 : Env) (M0 : Mm) (k : Nat) (hs : sub (catE E0 Ek) E) (hl : subL (catL M0 Mk) M) (h0 : I k E0 M0)
    (round : ∀ k E M, I k E M → SatE P G B n (jumpE l (fun E' M' => ∃ k' E'' M'', k' < k ∧ sub (catE E'' Ek) E' ∧ subL (catL M'' Mk) M' ∧ I k' E'' M'') Q) (catE E Ek) (catL M Mk)) : SatE P G (.seq (.label l) B) n (jumpE l (AgainE P G c B n Q) Q) E M :=
  e_mark hf (fun k E M => ∃ E1 M1, E = catE E1 Ek ∧ M = catL M1 Mk ∧ I k E1 M1) (catE E0 Ek) (catL M0 Mk) k hs hl ⟨_, _, rfl, rfl, h0⟩ fun k E M ⟨E1, M1, e1, e2, hI⟩ => by
    subst e1 e2
    intro a m ha hM
    refine sat_mono (round k E1 M1 hI a m ha hM) fun e a' m' ⟨E', M', h1, h2, h3⟩ => ⟨E', M', h1, h2, ?_⟩
    cases e with
    | goto l' =>
      obtain ⟨e1, k', E'', M'', q1, q2, q3, q4⟩ := h3
      exact ⟨e1, k', _, _, q1, q2, q3, _, _, rfl, rfl, q4⟩
    | _ => exact h3
end
section
variable {P : Program} {G : Mem} {R : Reg} {ops : Array Oper} {n : Nat} {K : Env → Mm → Prop} {rest : List Oper} {E : Env} {M : Mm} {d : Nat} {ty : TypeId} {pos : String} {aft : Array Edge}
variable {T T' : TypeId} {x y : Operand}
theorem e_store1 {b i : Nat} {c : Array Value} {t : TypeId} {v : Value} (hs : (P.info? T).map (·.size) = some 1) (hx : rd E x = some (.pointer (some ⟨b, 0, none⟩))) (hy : rd E y = some v) (hv : v.oneCell' = true) (hm : lkM M i = some ⟨b, c, t⟩) (hc : c.size = 1) (hX : hid R ⟨none, .store T x y, ty, pos, aft, none⟩ b)
    (h : OpsE P G R ops n K rest E ((i, some ⟨b, #[v], t⟩) :: M)) (hYk : yOk R ⟨none, .store T x y, ty, pos, aft, none⟩ b := by first | exact yOk_none rfl _ _ | exact yOk_none (by assumption) _ _) : OpsE P G R ops n K (⟨none, .store T x y, ty, pos, aft, none⟩ :: rest) E M := fun _ _ ha hM => by
  obtain ⟨j, hj⟩ := hM.at hm
  have e : c.setIfInBounds 0 v = #[v] := by
    obtain ⟨q, rfl⟩ : ∃ q, c = #[q] := by
      rcases c with ⟨_ | ⟨p, _ | ⟨q, l⟩⟩⟩
      · simp at hc
      · exact ⟨p, rfl⟩
      · simp at hc
    rfl
  refine st_store1Y hs (ha.rd hx) (ha.rd hy) hv hj hX (by omega) ?_ hYk
  rw [e]
  exact h _ _ ha (hM.store hm hj _)
end
theorem hid_var {R : Reg} {o : Oper} {t b : Nat} (hY : R.Y = some (t, b)) (ht : addrT o = some t) : hid R o b := by
  unfold hid isY; rw [hY]; dsimp only; rw [ht]; exact .inl (by simp)
theorem hid_off {R : Reg} {o : Oper} {b : Nat} (hX : R.X = []) (h : offL R.L b) : hid R o b := by
  unfold hid
  cases R.Y with
  | none => exact .inl hX
  | some q => exact .inr ⟨.inl hX, h⟩
theorem y_var {R : Reg} {o : Oper} {t b : Nat} (hY : R.Y = some (t, b)) (ht : addrT o = some t) : yOk R o b := by
  unfold yOk; rw [hY]; dsimp only; rw [if_pos ht]
theorem y_none {R : Reg} (hY : R.Y = none) {o : Oper} {M : Mm} {i : Nat} : ∀ b : Blk, lkM M i = some b → ∀ m, FitsM M m → yOk R o b.b := fun b _ _ _ => yOk_none hY o b.b
theorem y_off {R : Reg} {o : Oper} {M : Mm} {i t : Nat} (j : Nat) {z : Blk} (hj : lkM M j = some z) (hij : i ≠ j) (hY : R.Y = some (t, z.b)) (ht : addrT o ≠ some t) : ∀ b : Blk, lkM M i = some b → ∀ m, FitsM M m → yOk R o b.b := fun b hb m hM => by
  unfold yOk; rw [hY]; dsimp only; rw [if_neg ht]
  exact hM.apart i j b z hb hj hij
section
variable {P : Program} {G : Mem} {R : Reg} {ops : Array Oper} {n : Nat} {K : Env → Mm → Prop} {rest : List Oper} {E : Env} {M : Mm} {d : Nat} {ty : TypeId} {pos : String} {aft : Array Edge}
variable {T T' : TypeId} {x y : Operand}
theorem e_storeAY {b i l : Nat} {c c' : Array Value} {t : TypeId} (hs : (P.info? T).map (·.size) = some l) (hx : rd E x = some (.pointer (some ⟨b, 0, none⟩))) (hy : rd E y = some (.agg c')) (hl : c'.size = l)
    (hv : ∀ v ∈ c', v.oneCell' = true) (hm : lkM M i = some ⟨b, c, t⟩) (ho : c'.size = c.size) (hX : R.X = []) (hoff : OffL M i R.L) (hYk : ∀ b : Blk, lkM M i = some b → ∀ m, FitsM M m → yOk R ⟨none, .store T x y, ty, pos, aft, none⟩ b.b) (h : OpsE P G R ops n K rest E ((i, some ⟨b, c', t⟩) :: M)) : OpsE P G R ops n K (⟨none, .store T x y, ty, pos, aft, none⟩ :: rest) E M :=
  fun _ _ ha hM => by
    obtain ⟨j, hj⟩ := hM.at hm
    exact st_storeAY (hl ▸ hs) (ha.rd hx) (ha.rd hy) hv hj (hid_off hX (hoff.off hM hm ⟨b, c, t⟩ (by simp))) ho (h _ _ ha (hM.store hm hj _)) (hYk _ hm _ hM)
end
end Go.Proofs.Ytnkelhmfpepehaa
namespace Go.Proofs.Ytnkelhmfpepehaa
open Go Go.RowKit
abbrev iv (z : Int) : Value := .int .i64 z
end Go.Proofs.Ytnkelhmfpepehaa
namespace Go.Proofs.Ytnkelhmfpepehaa
open Go.ChangeShapes Go.WideShapes Go.ChangeAt Go.RowKit
section
variable {H : Type} {enc : TypeId × Value → H} {P : Program} {n : Nat} {t e : TypeId} {k : IntKind}
end
end Go.Proofs.Ytnkelhmfpepehaa
namespace Go.Proofs.Ytnkelhmfpepehaa
open Go Go.ChangeShapes Go.WideShapes Go.ChangeAt Go.RowKit
section
variable {H : Type} {enc : TypeId × Value → H} {P : Program} {t e : TypeId}
theorem row_of_cell {w : World} {b o : Nat} {u : Value} (h : w.cell? ⟨b, o, none⟩ = some u) : ∃ cs et fr, w.heap[b]? = some (.cells cs et fr) := by
  unfold World.cell? at h
  cases hb : w.heap[b]? with
  | none => simp [hb] at h
  | some ob => cases ob with
    | cells cs t fr => exact ⟨cs, t, fr, rfl⟩
    | _ => simp [hb] at h
theorem str_list (s : ByteArray) : ∃ l : List Nat, (∀ x ∈ l, x < 256) ∧ s = bstr l := by
  refine ⟨s.data.toList.map UInt8.toNat, fun x hx => ?_, ?_⟩
  · obtain ⟨b, _, rfl⟩ := List.mem_map.1 hx
    exact b.toNat_lt
  · unfold bstr
    rw [List.map_map]
    have : s.data.toList.map (UInt8.ofNat ∘ UInt8.toNat) = s.data.toList := by
      conv => rhs; rw [← List.map_id s.data.toList]
      exact List.map_congr_left fun b _ => by simp
    rw [this]
end
end Go.Proofs.Ytnkelhmfpepehaa
namespace Go.Proofs.Ytnkelhmfpepehaa
open Go Go.ChangeShapes Go.WideShapes Go.ChangeAt Go.RowKit
section
variable {P : Program} {t : TypeId}
end
end Go.Proofs.Ytnkelhmfpepehaa
namespace Go.Proofs.Ytnkelhmfpepehaa
open Go Go.ChangeShapes Go.WideShapes Go.ChangeAt Go.RowKit
section
variable {H : Type} {enc : TypeId × Value → H} {P : Program} {t e : TypeId}
end
end Go.Proofs.Ytnkelhmfpepehaa
namespace Go.Proofs.Ytnkelhmfpepehaa
open Go Go.ChangeShapes Go.WideShapes Go.ChangeAt Go.RowKit
abbrev Dat := Nat
def repN (P : Program) (G : Mem) : Nat → TypeId → List Value → Prop
  | 0, _, _ => False
  | d + 1, t, cs => match P.underlying t with
    | some (.int k) => ∃ z, cs = [.int k z] ∧ (Lit.int k z).wf = true
    | some .bool => ∃ b, cs = [.bool b]
    | some .string => ∃ l : List Nat, cs = [sv l] ∧ (∀ b ∈ l, b < 256) ∧ l.length ≤ maxLen
    | some (.struct fs) => cs.length = P.cellsOf t ∧ ∀ (i : Nat) f, fs[i]? = some f → repN P G d f.type ((cs.drop f.offset).take (P.cellsOf f.type))
    | some (.array n e) => cs.length = P.cellsOf t ∧ ∀ i, i < n → repN P G d e ((cs.drop (i * P.cellsOf e)).take (P.cellsOf e))
    | some (.slice e) => ∃ v xs n, cs = [v] ∧ n ≤ maxLen ∧ Shows G (P.cellsOf e) v n xs ∧ ∀ i, i < n → repN P G d e ((xs.drop (i * P.cellsOf e)).take (P.cellsOf e))
    | _ => False
abbrev Rep (P : Program) (G : Mem) (t : TypeId) (cs : List Value) (d : Dat) : Prop := repN P G d t cs
section
variable {P : Program} {G : Mem}
theorem repN_mono {G' : Mem} (hs : ∀ x ∈ G, x ∈ G') : ∀ (d : Nat) {t : TypeId} {cs : List Value}, repN P G d t cs → repN P G' d t cs
  | 0, _, _, h => h
  | d + 1, t, cs, h => by
    unfold repN at h ⊢
    cases hu : P.underlying t with
    | none => rw [hu] at h; exact h
    | some td =>
      rw [hu] at h
      cases td with
      | struct fs => exact ⟨h.1, fun i f hf => repN_mono hs d (h.2 i f hf)⟩
      | array n e => exact ⟨h.1, fun i hi => repN_mono hs d (h.2 i hi)⟩
      | slice e =>
        obtain ⟨v, xs, n, h1, h2, h3, h4⟩ := h
        exact ⟨v, xs, n, h1, h2, h3.mono hs, fun i hi => repN_mono hs d (h4 i hi)⟩
      | _ => exact h
def closedT (P : Program) (L : List TypeId) : Bool := L.all fun t => match P.underlying t with
  | some (.int _) | some .bool | some .string => true
  | some (.struct fs) => fs.all fun f => L.contains f.type
  | some (.array _ e) => L.contains e
  | some (.slice e) => L.contains e && decide (0 < P.cellsOf e)
  | _ => false
theorem closed_at {L : List TypeId} (h : closedT P L = true) {t : TypeId} (ht : t ∈ L) : (match P.underlying t with
  | some (.int _) | some .bool | some .string => true
  | some (.struct fs) => fs.all fun f => L.contains f.type
  | some (.array _ e) => L.contains e
  | some (.slice e) => L.contains e && decide (0 < P.cellsOf e)
  | _ => false) = true := (List.all_eq_true.1 h) t ht
theorem rep_all {W : World} {n d : Nat} (T : Nat → TypeId) (C : Nat → List Value) (h : ∀ i, i < n → ∃ G, repN P G d (T i) (C i) ∧ MemR G W) : ∃ G : Mem, MemR G W ∧ ∀ i, i < n → repN P G d (T i) (C i) := by
  induction n with
  | zero => exact ⟨[], by simp [MemR], fun i hi => absurd hi (Nat.not_lt_zero i)⟩
  | succ n ih =>
    obtain ⟨G, h2, h3⟩ := ih fun i hi => h i (by omega)
    obtain ⟨G', h4, h5⟩ := h n (by omega)
    refine ⟨G ++ G', fun x hx => (List.mem_append.1 hx).elim (h2 x) (h5 x), fun i hi => ?_⟩
    by_cases hin : i < n
    · exact repN_mono (fun x hx => List.mem_append_left _ hx) d (h3 i hin)
    · obtain rfl : i = n := by omega
      exact repN_mono (fun x hx => List.mem_append_right _ hx) d h4
variable {H : Type} {enc : TypeId × Value → H}
theorem rep_trod {W : World} {base : Nat} {s : Nat → Bool} {held : Bool} {L : List TypeId} (hL : closedT P L = true) : ∀ (fuel : Nat) (t : TypeId) (cs : List Value) (x : DataW H × List MemPlace), t ∈ L → DataW.trod enc P W base s held fuel t cs = some x → ∃ G, repN P G fuel t cs ∧ MemR G W := by
  intro fuel
  induction fuel with
  | zero => intro t cs x _ h; simp [DataW.trod] at h
  | succ m ih =>
    intro t cs x ht h
    have hc := closed_at hL ht
    cases hu : P.underlying t with
    | none => rw [hu] at hc; cases hc
    | some td =>
      rw [hu] at hc
      cases td with
      | int k =>
        obtain ⟨z, rfl, _, hw⟩ := DataW.trod_int hu h
        exact ⟨[], by unfold repN; rw [hu]; exact ⟨z, rfl, hw⟩, by simp [MemR]⟩
      | bool =>
        obtain ⟨b, rfl, _⟩ := DataW.trod_bool hu h
        exact ⟨[], by unfold repN; rw [hu]; exact ⟨b, rfl⟩, by simp [MemR]⟩
      | string =>
        obtain ⟨b, rfl, _, hm⟩ := DataW.trod_string hu h
        obtain ⟨l, hl, rfl⟩ := str_list b
        exact ⟨[], by unfold repN; rw [hu]; exact ⟨l, rfl, hl, by rw [← bstr_size]; exact hm⟩, by simp [MemR]⟩
      | struct fs =>
        obtain ⟨xs, m', e1, _, hlen, hn, hel⟩ := DataW.trod_struct hu h
        have e1 : m = m' := by omega
        subst e1
        obtain ⟨G, h2, h3⟩ := rep_all (P := P) (W := W) (n := fs.size) (d := m) (fun i => (fs[i]?.map (·.type)).getD 0) (fun i => match fs[i]? with
          | some f => (cs.drop f.offset).take (P.cellsOf f.type)
          | none => []) fun i hi => by
            have hf : fs[i]? = some fs[i] := Array.getElem?_eq_getElem hi
            have := hel i fs[i] hf
            rw [List.getElem?_eq_getElem (by omega)] at this
            have hmem : fs[i].type ∈ L := by
              have := (Array.all_eq_true.1 hc) i hi
              simpa using this
            simp only [hf, Option.map_some, Option.getD_some]
            exact ih _ _ _ hmem this
        refine ⟨G, ?_, h2⟩
        unfold repN
        rw [hu]
        refine ⟨hlen, fun i f hf => ?_⟩
        have := h3 i (Array.getElem?_eq_some_iff.1 hf).1
        simp only [hf, Option.map_some, Option.getD_some] at this
        exact this
      | array n e =>
        obtain ⟨xs, m', e1, _, hlen, hn, hel⟩ := DataW.trod_array hu h
        have e1 : m = m' := by omega
        subst e1
        have hmem : e ∈ L := by simpa using hc
        obtain ⟨G, h2, h3⟩ := rep_all (P := P) (W := W) (n := n) (d := m) (fun _ => e) (fun i => (cs.drop (i * P.cellsOf e)).take (P.cellsOf e)) fun i hi => by
          have := hel i hi
          rw [List.getElem?_eq_getElem (by omega)] at this
          exact ih _ _ _ hmem this
        refine ⟨G, ?_, h2⟩
        unfold repN
        rw [hu]
        exact ⟨hlen, h3⟩
      | slice e =>
        have hc : (L.contains e && decide (0 < P.cellsOf e)) = true := hc
        rw [Bool.and_eq_true, decide_eq_true_eq] at hc
        have hmem : e ∈ L := by simpa using hc.1
        have hz := hc.2
        rcases DataW.trod_slice hu h with ⟨rfl, _⟩ | ⟨a, len, cap, elems, rest, m', e1, rfl, _, hb, hl, hm, hlen, hel, _, _⟩
        · exact ⟨[], by unfold repN; rw [hu]; exact ⟨_, [], 0, rfl, by simp [maxLen], .inl ⟨rfl, rfl, none, 0, rfl, fun _ => rfl⟩, fun i hi => absurd hi (Nat.not_lt_zero i)⟩, by simp [MemR]⟩
        have e1 : m = m' := by omega
        subst e1
        obtain ⟨z, hze⟩ : ∃ z, z = P.cellsOf e := ⟨_, rfl⟩
        rw [← hze] at hz hel
        have hE : ∀ i, i < len → ∃ ci y, W.cells? base (a.add (i * z)) z = some ci ∧ DataW.trod enc P W base s held m e ci = some y := fun i hi => by
          have := hel i hi
          rw [List.getElem?_eq_getElem (by omega)] at this
          cases hcc : W.cells? base (a.add (i * z)) z with
          | none => rw [hcc] at this; cases this
          | some ci => rw [hcc] at this; exact ⟨ci, _, rfl, this⟩
        by_cases h0 : len = 0
        · subst h0
          exact ⟨[], by unfold repN; rw [hu]; exact ⟨_, [], 0, rfl, by simp [maxLen], .inl ⟨rfl, rfl, some a, cap, rfl, fun h => by cases h⟩, fun i hi => absurd hi (Nat.not_lt_zero i)⟩, by simp [MemR]⟩
        obtain ⟨c0, y0, hc0, _⟩ := hE 0 (by omega)
        obtain ⟨b, off, spot⟩ := a
        have hg0 := (World.cells?_some hc0).2.2 0 hz
        have hl0 := (World.cells?_some hc0).2.1
        rw [List.getElem?_eq_getElem (by omega)] at hg0
        have hspot : spot = none := by simpa [Addr.add] using World.cell?_spot hg0
        subst hspot
        obtain ⟨cs0, et, fr, hbk⟩ := row_of_cell (b := b) (o := off) (by simpa [Addr.add] using hg0)
        have hcl : ∀ o, W.cell? ⟨b, o, none⟩ = cs0[o]? := fun o => by simp [World.cell?, hbk]
        have hadd : ∀ i r, (Addr.add (Addr.add ⟨b, off, none⟩ (i * z)) r) = ⟨b, off + (i * z + r), none⟩ := fun i r => by
          rw [Go.WideShapes.add_plain, Go.WideShapes.add_plain, Nat.add_assoc]
        have hcell : ∀ i, i < len → ∀ ci, W.cells? base (Addr.add ⟨b, off, none⟩ (i * z)) z = some ci → ∀ r, r < z → cs0[off + (i * z + r)]? = ci[r]? := fun i _ ci hci r hr => by
          rw [← hcl, ← hadd i r]
          exact (World.cells?_some hci).2.2 r hr
        have hbound : off + len * z ≤ cs0.size := by
          obtain ⟨ci, y, hci, _⟩ := hE (len - 1) (by omega)
          have h1 := hcell (len - 1) (by omega) ci hci (z - 1) (by omega)
          rw [List.getElem?_eq_getElem (by have := (World.cells?_some hci).2.1; omega)] at h1
          have h2 := (Array.getElem?_eq_some_iff.1 h1).1
          have h3 : (len - 1) * z + z = len * z := by rw [← Nat.succ_mul]; congr 1; omega
          omega
        obtain ⟨xs, hxs⟩ : ∃ xs, xs = (cs0.toList.drop off).take (len * z) := ⟨_, rfl⟩
        have hxl : xs.length = len * z := by rw [hxs]; simp; omega
        have hxj : ∀ j, j < len * z → xs[j]? = cs0[off + j]? := fun j hj => by rw [hxs, List.getElem?_take_of_lt hj, List.getElem?_drop]; simp
        obtain ⟨G, h2, h3⟩ := rep_all (P := P) (W := W) (n := len) (d := m) (fun _ => e) (fun i => (xs.drop (i * z)).take z) fun i hi => by
          obtain ⟨ci, y, hci, hy⟩ := hE i hi
          have hcl2 := (World.cells?_some hci).2.1
          have hle : i * z + z ≤ len * z := by rw [← Nat.succ_mul]; exact Nat.mul_le_mul_right _ hi
          have : (xs.drop (i * z)).take z = ci := by
            apply List.ext_getElem?
            intro r
            by_cases hr : r < z
            · rw [List.getElem?_take_of_lt hr, List.getElem?_drop, hxj _ (by omega)]
              exact hcell i hi ci hci r hr
            · rw [List.getElem?_eq_none (by rw [List.length_take]; omega), List.getElem?_eq_none (by omega)]
          rw [this]
          exact ih _ _ _ hmem hy
        refine ⟨⟨b, cs0, et⟩ :: G, ?_, fun x hx => ?_⟩
        · unfold repN
          rw [hu]
          refine ⟨_, xs, len, rfl, by omega, .inr ⟨b, off, cap, cs0, et, rfl, by omega, List.mem_cons_self, by rw [← hze]; exact hxl, by rw [← hze]; exact hbound, fun j u hj => ?_⟩, fun i hi => ?_⟩
          · rw [← hxj j (by rw [← hxl]; exact (List.getElem?_eq_some_iff.1 hj).1)]; exact hj
          · rw [← hze]
            exact repN_mono (fun x hx => List.mem_cons_of_mem _ hx) m (h3 i hi)
        · rcases List.mem_cons.1 hx with rfl | hx
          · exact ⟨(Array.getElem?_eq_some_iff.1 hbk).1, fun o _ => hcl o⟩
          · exact h2 x hx
      | _ => cases hc
theorem rep_open {W : World} {base : Nat} {s : Nat → Bool} {held : Bool} {t : TypeId} {v : Value} {d : DataW H} {ps : List MemPlace} (L : List TypeId) (hL : closedT P L = true) (ht : t ∈ L) (hd : DataW.Trod enc P W base s held t v d ps) : ∃ x G, Rep P G t v.cells.toList x ∧ MemR G W := by
  obtain ⟨fuel, hf⟩ := hd
  exact ⟨fuel, rep_trod hL fuel t _ _ ht hf⟩
end
end Go.Proofs.Ytnkelhmfpepehaa
namespace Go.Proofs.Ytnkelhmfpepehaa
open Go Go.ChangeShapes Go.WideShapes Go.ChangeAt Go.RowKit
structure RawT where
  a : Int
  b : Int
  c : Int
  t : List Nat
abbrev rawC (r : RawT) : List Value := [.int .i64 r.a, .int .i64 r.b, .int .i64 r.c, sv r.t]
def rawOk (r : RawT) : Prop := (∀ x ∈ r.t, x < 256) ∧ r.t.length ≤ maxLen
section
variable {P : Program} {G : Mem}
theorem rep_int {t : TypeId} {cs : List Value} {d : Dat} {k : IntKind} (hu : P.underlying t = some (.int k)) (h : Rep P G t cs d) : ∃ z, cs = [.int k z] ∧ (Lit.int k z).wf = true := by
  cases d with
  | zero => exact h.elim
  | succ d => unfold Rep repN at h; rw [hu] at h; exact h
theorem rep_str {t : TypeId} {cs : List Value} {d : Dat} (hu : P.underlying t = some .string) (h : Rep P G t cs d) : ∃ l : List Nat, cs = [sv l] ∧ (∀ b ∈ l, b < 256) ∧ l.length ≤ maxLen := by
  cases d with
  | zero => exact h.elim
  | succ d => unfold Rep repN at h; rw [hu] at h; exact h
theorem rep_struct {t : TypeId} {cs : List Value} {d : Dat} {fs : Array Field} (hu : P.underlying t = some (.struct fs)) (h : Rep P G t cs d) : ∃ d', cs.length = P.cellsOf t ∧ ∀ (i : Nat) f, fs[i]? = some f → Rep P G f.type ((cs.drop f.offset).take (P.cellsOf f.type)) d' := by
  cases d with
  | zero => exact h.elim
  | succ d => unfold Rep repN at h; rw [hu] at h; exact ⟨d, h⟩
theorem rep_slice {t e : TypeId} {cs : List Value} {d : Dat} (hu : P.underlying t = some (.slice e)) (h : Rep P G t cs d) : ∃ d' v xs n, cs = [v] ∧ n ≤ maxLen ∧ Shows G (P.cellsOf e) v n xs ∧ ∀ i, i < n → Rep P G e ((xs.drop (i * P.cellsOf e)).take (P.cellsOf e)) d' := by
  cases d with
  | zero => exact h.elim
  | succ d => unfold Rep repN at h; rw [hu] at h; exact ⟨d, h⟩
theorem rep_raw {t : TypeId} {cs : List Value} {d : Dat} {f0 f1 f2 f3 : Field} (ht : P.underlying t = some (.struct #[f0, f1, f2, f3])) (hc : P.cellsOf t = 4)
    (o0 : f0.offset = 0) (o1 : f1.offset = 1) (o2 : f2.offset = 2) (o3 : f3.offset = 3) (u0 : P.underlying f0.type = some (.int .i64)) (u1 : P.underlying f1.type = some (.int .i64)) (u2 : P.underlying f2.type = some (.int .i64)) (u3 : P.underlying f3.type = some .string)
    (c0 : P.cellsOf f0.type = 1) (c1 : P.cellsOf f1.type = 1) (c2 : P.cellsOf f2.type = 1) (c3 : P.cellsOf f3.type = 1) (h : Rep P G t cs d) : ∃ r : RawT, cs = rawC r ∧ rawOk r := by
  obtain ⟨d', hl, he⟩ := rep_struct ht h
  rw [hc] at hl
  match cs, hl with
  | [w0, w1, w2, w3], _ =>
    have e0 := he 0 f0 rfl
    have e1 := he 1 f1 rfl
    have e2 := he 2 f2 rfl
    have e3 := he 3 f3 rfl
    rw [o0, c0] at e0
    rw [o1, c1] at e1
    rw [o2, c2] at e2
    rw [o3, c3] at e3
    obtain ⟨za, h0, _⟩ := rep_int u0 e0
    obtain ⟨zb, h1, _⟩ := rep_int u1 e1
    obtain ⟨zc, h2, _⟩ := rep_int u2 e2
    obtain ⟨tx, h3, hb, hm⟩ := rep_str u3 e3
    simp at h0 h1 h2 h3
    exact ⟨⟨za, zb, zc, tx⟩, by rw [h0, h1, h2, h3], hb, hm⟩
theorem rep_elems {α : Type} {e : TypeId} {z n : Nat} {d : Dat} (C : α → List Value) (Q : α → Prop) {xs : List Value} (hx : xs.length = n * z) (hE : ∀ cs d, Rep P G e cs d → ∃ x, cs = C x ∧ Q x)
    (he : ∀ i, i < n → Rep P G e ((xs.drop (i * z)).take z) d) : ∃ rs : List α, rs.length = n ∧ xs = rs.flatMap C ∧ ∀ r ∈ rs, Q r := by
  induction n generalizing xs with
  | zero => exact ⟨[], rfl, by simpa using hx, by simp⟩
  | succ m ih =>
    have h0 := he 0 (by omega)
    rw [Nat.zero_mul, List.drop_zero] at h0
    obtain ⟨r, hr, hq⟩ := hE _ _ h0
    obtain ⟨rs, h1, h2, h3⟩ := ih (xs := xs.drop z) (by rw [List.length_drop, hx, Nat.succ_mul]; omega) fun i hi => by
      have := he (i + 1) (by omega)
      rw [List.drop_drop, show z + i * z = (i + 1) * z by rw [Nat.succ_mul]; omega]
      exact this
    refine ⟨r :: rs, by simp [h1], ?_, fun x hx' => ?_⟩
    · rw [List.flatMap_cons, ← h2, ← hr, List.take_append_drop]
    · rcases List.mem_cons.1 hx' with rfl | hx'
      · exact hq
      · exact h3 x hx'
end
abbrev rawK (r : RawT) : Array Value := cells 4 [pV (.int .i64 r.a), pV (.int .i64 r.b), pV (.int .i64 r.c), pV (sv r.t)]
theorem rawC_len (r : RawT) : (rawC r).length = 4 := rfl
theorem raw_cells (r : RawT) : Value.agg (rawC r).toArray = Value.agg (rawK r) := rfl
theorem shows_some {G : Mem} {v : Value} {rs : List RawT} (m : Nat) (h : Shows G 4 v rs.length (rs.flatMap rawC)) : Shows G 4 (slPart 4 v 0 (min rs.length m)) (rs.take m).length ((rs.take m).flatMap rawC) := by
  have := h.part (i := 0) (j := min rs.length m) (by omega) (by omega)
  rw [Nat.zero_mul, List.drop_zero, Nat.sub_zero] at this
  have e1 : (rs.take m).length = min rs.length m := by rw [List.length_take, Nat.min_comm]
  have e2 : (rs.flatMap rawC).take (min rs.length m * 4) = (rs.take m).flatMap rawC := by
    rw [flatMap_take rawC_len]
    congr 1
    rcases Nat.le_total rs.length m with hm | hm
    · rw [Nat.min_eq_left hm, List.take_length, List.take_of_length_le hm]
    · rw [Nat.min_eq_right hm]
  rw [e1, ← e2]
  exact this
theorem open_raws {P : Program} {G : Mem} {t e : TypeId} {v : Value} {d : Dat} {f0 f1 f2 f3 : Field} (hu : P.underlying t = some (.slice e)) (ht : P.underlying e = some (.struct #[f0, f1, f2, f3])) (hc : P.cellsOf e = 4)
    (o0 : f0.offset = 0) (o1 : f1.offset = 1) (o2 : f2.offset = 2) (o3 : f3.offset = 3) (u0 : P.underlying f0.type = some (.int .i64)) (u1 : P.underlying f1.type = some (.int .i64)) (u2 : P.underlying f2.type = some (.int .i64)) (u3 : P.underlying f3.type = some .string)
    (c0 : P.cellsOf f0.type = 1) (c1 : P.cellsOf f1.type = 1) (c2 : P.cellsOf f2.type = 1) (c3 : P.cellsOf f3.type = 1) (h : Rep P G t [v] d) : ∃ rs : List RawT, Shows G 4 v rs.length (rs.flatMap rawC) ∧ (∀ r ∈ rs, rawOk r) ∧ rs.length ≤ maxLen := by
  obtain ⟨d', v', xs, n, h1, hm, hv, he⟩ := rep_slice hu h
  obtain rfl : v = v' := by simpa using h1
  rw [hc] at hv he
  obtain ⟨rs, h2, h3, h4⟩ := rep_elems (n := n) rawC rawOk hv.len (fun cs d hd => rep_raw ht hc o0 o1 o2 o3 u0 u1 u2 u3 c0 c1 c2 c3 hd) he
  exact ⟨rs, by rw [h2, ← h3]; exact hv, h4, by omega⟩
section
variable {P : Program} {H : Type} {enc : TypeId × Value → H}
theorem val_cell {W : World} {b0 : Nat} {t : TypeId} {v : Value} {td : TypeDesc} (ht : P.underlying t = some td) (hn : rowLike td = false) (hval : Value.okWide P W .any b0 t v) : Cell.okWide P W .any b0 t v := by
  unfold Value.okWide at hval
  rw [ht] at hval
  cases td <;> simp_all [rowLike]
theorem rep_open1 {W : World} {b0 base : Nat} {s : Nat → Bool} {held : Bool} {t e : TypeId} {v : Value} {d : DataW H} {ps : List MemPlace} (L : List TypeId) (hL : closedT P L = true) (htL : t ∈ L) (ht : P.underlying t = some (.slice e)) (hval : Value.okWide P W .any b0 t v) (hd : DataW.Trod enc P W base s held t v d ps) : ∃ x G, Rep P G t [v] x ∧ MemR G W := by
  obtain ⟨x, G, h1, h2⟩ := rep_open L hL htL hd
  have hc : v.cells.toList = [v] := by
    have := val_cell ht rfl hval
    unfold Cell.okWide at this
    rw [ht] at this
    unfold Cell.ok at this
    rw [ht] at this
    cases v <;> simp_all [Value.cells]
  rw [hc] at h1
  exact ⟨x, G, h1, h2⟩
end
end Go.Proofs.Ytnkelhmfpepehaa
namespace Go.Proofs.Ytnkelhmfpepehaa
open Go Go.ChangeShapes Go.WideShapes Go.ChangeAt Go.RowKit
section
variable {P : Program} {G : Mem}
end
section
variable {P : Program} {H : Type} {enc : TypeId × Value → H}
end
end Go.Proofs.Ytnkelhmfpepehaa
namespace Go.Proofs.Ytnkelhmfpepehaa
open Go Go.RowKit
end Go.Proofs.Ytnkelhmfpepehaa
namespace Go.Proofs.Ytnkelhmfpepehaa
open Go Go.RowKit
end Go.Proofs.Ytnkelhmfpepehaa
namespace Go.Proofs.Ytnkelhmfpepehaa
open Go Go.RowKit
end Go.Proofs.Ytnkelhmfpepehaa
namespace Go.Proofs.Ytnkelhmfpepehaa
open Go Go.RowKit
theorem or_true2 {p q : Prop} [Decidable p] [Decidable q] (h : (decide p || decide q) = true) : p ∨ q := by
  rw [Bool.or_eq_true, decide_eq_true_iff, decide_eq_true_iff] at h; exact h
theorem or_false2 {p q : Prop} [Decidable p] [Decidable q] (h : (decide p || decide q) = false) : ¬ (p ∨ q) := fun x => by
  rw [Bool.or_eq_false_iff, decide_eq_false_iff_not, decide_eq_false_iff_not] at h
  exact x.elim h.1 h.2
theorem shows_oneC {B : Mem} {z n : Nat} {v : Value} {xs : List Value} (h : Shows B z v n xs) : v.oneCell' = true := by
  rcases h with ⟨_, _, oa, c, rfl, _⟩ | ⟨b, o, c, cs, t, rfl, _⟩ <;> rfl
end Go.Proofs.Ytnkelhmfpepehaa
namespace Go.Proofs.Ytnkelhmfpepehaa
open Go Go.RowKit
end Go.Proofs.Ytnkelhmfpepehaa
namespace Go.Proofs.Ytnkelhmfpepehaa
open Go Go.ChangeShapes Go.WideShapes Go.ChangeAt Go.RowKit
structure TT where
  kind : Int
  id : Int
  other : Int
  args : List TT
theorem TT.ind {p : TT → Prop} (h : ∀ t : TT, (∀ a ∈ t.args, p a) → p t) (t : TT) : p t :=
  TT.rec (motive_1 := p) (motive_2 := fun l => ∀ a ∈ l, p a) (fun k i o l hl => h ⟨k, i, o, l⟩ hl) (by simp) (fun a l h1 h2 b hb => by rcases List.mem_cons.1 hb with rfl | hb; exact h1; exact h2 b hb) t
def TT.nodes : TT → Nat
  | ⟨_, _, _, l⟩ => 1 + (l.map TT.nodes).sum
abbrev nodesL (l : List TT) : Nat := (l.map TT.nodes).sum
theorem TT.nodes_eq (t : TT) : t.nodes = 1 + nodesL t.args := by cases t; rw [TT.nodes]
def mx : List Nat → Nat
  | [] => 0
  | x :: l => max x (mx l)
def TT.deep : TT → Nat
  | ⟨_, _, _, l⟩ => 1 + mx (l.map TT.deep)
abbrev deepL (l : List TT) : Nat := mx (l.map TT.deep)
theorem TT.deep_eq (t : TT) : t.deep = 1 + deepL t.args := by cases t; rw [TT.deep]
theorem mx_le {l : List Nat} {n : Nat} : mx l ≤ n ↔ ∀ x ∈ l, x ≤ n := by
  induction l with
  | nil => simp [mx]
  | cons x l ih => rw [mx, Nat.max_le, ih]; simp
theorem deepL_le {l : List TT} {n : Nat} : deepL l ≤ n ↔ ∀ t ∈ l, t.deep ≤ n := by
  unfold deepL; rw [mx_le]; simp
def TV (G : Mem) : TT → Value → Prop
  | ⟨k, i, o, l⟩, v => ∃ c xs, v = .agg #[iv k, iv i, iv o, c] ∧ l.length ≤ maxLen ∧ Shows G 4 c l.length xs ∧ ∀ a, a ∈ l → ∀ j, l[j]? = some a → TV G a (.agg ((xs.drop (j * 4)).take 4).toArray)
abbrev tC (t : TT) (c : Value) : Array Value := cells 4 [pV (iv t.kind), pV (iv t.id), pV (iv t.other), pV c]
def TL (G : Mem) (l : List TT) (c : Value) (xs : List Value) : Prop := l.length ≤ maxLen ∧ Shows G 4 c l.length xs ∧ ∀ j (h : j < l.length), TV G l[j] (.agg ((xs.drop (j * 4)).take 4).toArray)
theorem TV_iff {G : Mem} {t : TT} {v : Value} : TV G t v ↔ ∃ c xs, v = .agg #[iv t.kind, iv t.id, iv t.other, c] ∧ TL G t.args c xs := by
  cases t
  rw [TV]
  constructor
  · rintro ⟨c, xs, e, h1, h2, h3⟩
    exact ⟨c, xs, e, h1, h2, fun j hj => h3 _ (List.getElem_mem hj) j (List.getElem?_eq_getElem hj)⟩
  · rintro ⟨c, xs, e, h1, h2, h3⟩
    refine ⟨c, xs, e, h1, h2, fun a _ j hj => ?_⟩
    obtain ⟨hj', rfl⟩ := List.getElem?_eq_some_iff.1 hj
    exact h3 j hj'
theorem TV.mono {G G' : Mem} (hs : ∀ x ∈ G, x ∈ G') {t : TT} : ∀ {v : Value}, TV G t v → TV G' t v := by
  refine TT.ind (p := fun t => ∀ {v : Value}, TV G t v → TV G' t v) (fun t ih v h => ?_) t
  obtain ⟨c, xs, e, h1, h2, h3⟩ := TV_iff.1 h
  exact TV_iff.2 ⟨c, xs, e, h1, h2.mono hs, fun j hj => ih _ (List.getElem_mem hj) (h3 j hj)⟩
theorem TL.mono {G G' : Mem} (hs : ∀ x ∈ G, x ∈ G') {l : List TT} {c : Value} {xs : List Value} (h : TL G l c xs) : TL G' l c xs :=
  ⟨h.1, h.2.1.mono hs, fun j hj => (h.2.2 j hj).mono hs⟩
theorem TL.at {G : Mem} {l : List TT} {c : Value} {xs : List Value} (h : TL G l c xs) {j : Nat} (hj : j < l.length) : ∃ c' ys, (xs.drop (j * 4)).take 4 = [iv l[j].kind, iv l[j].id, iv l[j].other, c'] ∧ TL G l[j].args c' ys := by
  obtain ⟨c', ys, e, hl⟩ := TV_iff.1 (h.2.2 j hj)
  refine ⟨c', ys, ?_, hl⟩
  have := congrArg (fun v => match v with | .agg a => a.toList | _ => []) e
  simpa using this
theorem tl_nil {G : Mem} : TL G [] nilS [] := ⟨by simp [maxLen], .inl ⟨rfl, rfl, none, 0, rfl, fun _ => rfl⟩, fun j hj => absurd hj (Nat.not_lt_zero j)⟩
def roomL (l : List TT) (r d : Nat) : Int := if nodesL l ≤ r ∧ deepL l ≤ d then ((r - nodesL l : Nat) : Int) else -1
theorem nodesL_take {l : List TT} {i : Nat} (h : i < l.length) : nodesL (l.take (i + 1)) = nodesL (l.take i) + l[i].nodes := by
  unfold nodesL
  rw [List.take_succ_eq_append_getElem h, List.map_append, List.sum_append]
  simp
theorem nodesL_le (l : List TT) (i : Nat) : nodesL (l.take i) ≤ nodesL l := by
  have : nodesL l = nodesL (l.take i) + nodesL (l.drop i) := by
    unfold nodesL; rw [← List.sum_append, ← List.map_append, List.take_append_drop]
  omega
theorem room_full {l : List TT} {r d i : Nat} (hi : i < l.length) (h : nodesL (l.take i) = r ∨ d = 0) : roomL l r d = -1 := by
  unfold roomL
  rw [if_neg]
  rintro ⟨h1, h2⟩
  have hn := nodesL_take hi
  have hl := nodesL_le l (i + 1)
  have hd := deepL_le.1 h2 l[i] (List.getElem_mem hi)
  have e1 := l[i].nodes_eq
  have e2 := l[i].deep_eq
  omega
theorem room_bad {l : List TT} {r d i : Nat} (hi : i < l.length) (hr : nodesL (l.take i) < r) (hd : 0 < d) (h : roomL l[i].args (r - nodesL (l.take i) - 1) (d - 1) < 0) : roomL l r d = -1 := by
  unfold roomL at h ⊢
  rw [if_neg]
  rintro ⟨h1, h2⟩
  have hn := nodesL_take hi
  have hl := nodesL_le l (i + 1)
  have hd := deepL_le.1 h2 l[i] (List.getElem_mem hi)
  have e1 := l[i].nodes_eq
  have e2 := l[i].deep_eq
  rw [if_pos ⟨by omega, by omega⟩] at h
  omega
theorem room_next {l : List TT} {r d i : Nat} (hi : i < l.length) (hr : nodesL (l.take i) < r) (hd : 0 < d) (h : ¬ roomL l[i].args (r - nodesL (l.take i) - 1) (d - 1) < 0) :
    roomL l[i].args (r - nodesL (l.take i) - 1) (d - 1) = ((r - nodesL (l.take (i + 1)) : Nat) : Int) ∧ nodesL (l.take (i + 1)) ≤ r ∧ l[i].deep ≤ d := by
  have hn := nodesL_take hi
  have e1 := l[i].nodes_eq
  have e2 := l[i].deep_eq
  unfold roomL at h ⊢
  by_cases hc : nodesL l[i].args ≤ r - nodesL (l.take i) - 1 ∧ deepL l[i].args ≤ d - 1
  · rw [if_pos hc]
    exact ⟨by congr 1; omega, by omega, by omega⟩
  · rw [if_neg hc] at h; omega
theorem room_end {l : List TT} {r d : Nat} (h1 : nodesL (l.take l.length) ≤ r) (h2 : ∀ j (h : j < l.length), l[j].deep ≤ d) : roomL l r d = ((r - nodesL (l.take l.length) : Nat) : Int) := by
  unfold roomL
  rw [List.take_length] at h1 ⊢
  rw [if_pos ⟨h1, deepL_le.2 fun t ht => by obtain ⟨j, hj, rfl⟩ := List.mem_iff_getElem.1 ht; exact h2 j hj⟩]
def fitsL (l : List TT) : Bool := decide (nodesL l ≤ 300) && decide (deepL l ≤ 40)
theorem room_fits (l : List TT) : decide ((0 : Int) ≤ roomL l 300 40) = fitsL l := by
  unfold roomL fitsL
  by_cases h : nodesL l ≤ 300 ∧ deepL l ≤ 40
  · rw [if_pos h, decide_eq_true h.1, decide_eq_true h.2]; simp
  · rw [if_neg h]
    by_cases h1 : nodesL l ≤ 300
    · rw [decide_eq_false (fun h2 => h ⟨h1, h2⟩)]; simp
    · rw [decide_eq_false h1]; simp
def wdt (k : Int) : Nat := if k = 5 then 1 else if k = 4 ∨ k = 6 then 2 else if k = 7 then 3 else 0
def numB (k i o : Int) : Bool := if k = 3 then decide (0 ≤ i) && decide (i ≤ o) else if k = 1 ∨ k = 2 ∨ k = 6 then decide (0 ≤ i) && decide (o = 0) else decide (i = 0) && decide (o = 0)
theorem wdt_ways (k : Int) : (k = 5 ∧ wdt k = 1) ∨ (k ≠ 5 ∧ (k = 4 ∨ k = 6) ∧ wdt k = 2) ∨ (k = 7 ∧ wdt k = 3) ∨ ((k ≠ 5 ∧ k ≠ 4 ∧ k ≠ 6 ∧ k ≠ 7) ∧ wdt k = 0) := by
  unfold wdt; repeat' split
  all_goals omega
theorem num_ways (k i o : Int) : (k = 3 ∧ numB k i o = (decide (0 ≤ i) && decide (i ≤ o))) ∨ ((k = 1 ∨ k = 2 ∨ k = 6) ∧ numB k i o = (decide (0 ≤ i) && decide (o = 0))) ∨ ((k ≠ 3 ∧ k ≠ 1 ∧ k ≠ 2 ∧ k ≠ 6) ∧ numB k i o = (decide (i = 0) && decide (o = 0))) := by
  unfold numB; repeat' split
  · exact .inl ⟨by assumption, rfl⟩
  · exact .inr (.inl ⟨by assumption, rfl⟩)
  · exact .inr (.inr ⟨by omega, rfl⟩)
def fst1 : List Nat → Nat
  | [] => 0
  | x :: l => if x = 0 then fst1 l else x
def TT.form : TT → Nat
  | ⟨k, i, o, l⟩ => if k < 1 ∨ 7 < k then 2 else if l.length ≠ wdt k ∨ numB k i o = false then 3 else fst1 (l.map TT.form)
abbrev formL (l : List TT) : Nat := fst1 (l.map TT.form)
theorem form_eq (t : TT) : t.form = if t.kind < 1 ∨ 7 < t.kind then 2 else if t.args.length ≠ wdt t.kind ∨ numB t.kind t.id t.other = false then 3 else formL t.args := by cases t; rw [TT.form]
theorem fst1_at : ∀ {l : List Nat} {i : Nat} (hi : i < l.length), (∀ j (h : j < i), l[j] = 0) → l[i] ≠ 0 → fst1 l = l[i]
  | x :: l, 0, _, _, h => by rw [fst1, if_neg (show ¬ x = 0 from h)]; rfl
  | x :: l, i + 1, hi, h0, h => by
    rw [fst1, if_pos (show x = 0 from h0 0 (by omega))]
    exact fst1_at (by simpa using hi) (fun j hj => h0 (j + 1) (by omega)) h
theorem fst1_none : ∀ {l : List Nat}, (∀ j (h : j < l.length), l[j] = 0) → fst1 l = 0
  | [], _ => rfl
  | x :: l, h => by rw [fst1, if_pos (show x = 0 from h 0 (by simp))]; exact fst1_none fun j hj => h (j + 1) (by simpa using hj)
theorem formL_at {l : List TT} {i : Nat} (hi : i < l.length) (h0 : ∀ j (h : j < i), (l[j]'(by omega)).form = 0) (h : l[i].form ≠ 0) : formL l = l[i].form := by
  unfold formL
  rw [fst1_at (i := i) (by simpa using hi) (fun j hj => by simpa using h0 j hj) (by simpa using h)]; simp
theorem formL_none {l : List TT} (h : ∀ j (h : j < l.length), l[j].form = 0) : formL l = 0 := fst1_none fun j hj => by simpa using h j (by simpa using hj)
def allB : List (TT → Bool) → List TT → Bool
  | [], [] => true
  | f :: l, u :: m => f u && allB l m
  | _, _ => false
def TT.eqb : TT → TT → Bool
  | ⟨k, i, o, l⟩, u => decide (k = u.kind) && decide (i = u.id) && decide (o = u.other) && allB (l.map fun a => fun x => a.eqb x) u.args
theorem allB_iff : ∀ {l m : List TT}, (∀ a ∈ l, ∀ u : TT, a.eqb u = true ↔ a = u) → (allB (l.map fun a => fun x => a.eqb x) m = true ↔ l = m)
  | [], [], _ => by simp [allB]
  | [], _ :: _, _ => by simp [allB]
  | _ :: _, [], _ => by simp [allB]
  | a :: l, b :: m, h => by
    rw [List.map_cons, allB, Bool.and_eq_true, h a (by simp), allB_iff fun x hx => h x (by simp [hx]), List.cons.injEq]
theorem eqb_iff (t : TT) : ∀ u : TT, t.eqb u = true ↔ t = u := by
  refine TT.ind (p := fun t => ∀ u, t.eqb u = true ↔ t = u) (fun t ih u => ?_) t
  obtain ⟨k, i, o, l⟩ := t
  rw [TT.eqb]
  simp only [Bool.and_eq_true, decide_eq_true_eq]
  rw [allB_iff ih]
  cases u
  simp only [TT.mk.injEq, and_assoc]
theorem eqb_self (t : TT) : t.eqb t = true := (eqb_iff t t).2 rfl
def eqbL (l m : List TT) : Bool := decide (l.length = m.length) && (List.range l.length).all (fun j => (l.getD j ⟨0, 0, 0, []⟩).eqb (m.getD j ⟨0, 0, 0, []⟩))
theorem eqbL_iff (l m : List TT) : eqbL l m = true ↔ l = m := by
  unfold eqbL
  simp only [Bool.and_eq_true, decide_eq_true_eq, List.all_eq_true, List.mem_range]
  constructor
  · rintro ⟨h1, h2⟩
    refine List.ext_getElem h1 fun j hj hj' => ?_
    have := h2 j hj
    rw [List.getD_eq_getElem?_getD, List.getElem?_eq_getElem hj, List.getD_eq_getElem?_getD, List.getElem?_eq_getElem hj'] at this
    exact (eqb_iff _ _).1 this
  · rintro rfl
    exact ⟨rfl, fun j _ => eqb_self _⟩
theorem eqbL_all {l m : List TT} (h : l.length = m.length) (h2 : ∀ j (h1 : j < l.length) (h2 : j < m.length), l[j].eqb m[j] = true) : eqbL l m = true :=
  (eqbL_iff l m).2 (List.ext_getElem h fun j h1 h3 => (eqb_iff _ _).1 (h2 j h1 h3))
theorem eqbL_len {l m : List TT} (h : l.length ≠ m.length) : eqbL l m = false := by
  cases e : eqbL l m with
  | false => rfl
  | true => exact absurd (congrArg List.length ((eqbL_iff l m).1 e)) h
theorem eqbL_at {l m : List TT} {j : Nat} (h1 : j < l.length) (h2 : j < m.length) (h : l[j].eqb m[j] = false) : eqbL l m = false := by
  cases e : eqbL l m with
  | false => rfl
  | true =>
    have := (eqbL_iff l m).1 e
    subst this
    rw [eqb_self] at h; cases h
theorem eqb_parts (t u : TT) : t.eqb u = (decide (t.kind = u.kind) && decide (t.id = u.id) && decide (t.other = u.other) && eqbL t.args u.args) := by
  cases e : t.eqb u with
  | true =>
    have := (eqb_iff t u).1 e
    subst this
    rw [(eqbL_iff _ _).2 rfl]; simp
  | false =>
    by_cases h1 : t.kind = u.kind
    · by_cases h2 : t.id = u.id
      · by_cases h3 : t.other = u.other
        · cases h4 : eqbL t.args u.args with
          | false => simp
          | true =>
            have := (eqbL_iff _ _).1 h4
            have : t = u := by cases t; cases u; simp only [TT.mk.injEq] at *; exact ⟨h1, h2, h3, this⟩
            subst this
            rw [eqb_self] at e; cases e
        · rw [decide_eq_false h3]; simp
      · rw [decide_eq_false h2]; simp
    · rw [decide_eq_false h1]; simp
theorem fill_tC {Z : Array Value} (hZ : Z.size = 4) {t : TT} {c : Value} : Instr.fill (fun i => some (i * 4, 4)) Z [(0, .agg (tC t c))] = some (tC t c) := by
  obtain ⟨p, q, r, s, rfl⟩ : ∃ p q r s, Z = #[p, q, r, s] := by
    rcases Z with ⟨_ | ⟨p, _ | ⟨q, _ | ⟨r, _ | ⟨s, _ | ⟨s2, l⟩⟩⟩⟩⟩⟩
    · simp at hZ
    · simp at hZ
    · simp at hZ
    · simp at hZ
    · exact ⟨p, q, r, s, rfl⟩
    · simp at hZ
  rfl
def chkT (t : TT) : Nat := if fitsL [t] = true then t.form else 1
theorem tl_one {G : Mem} {t : TT} {c : Value} {xs : List Value} {r : Nat} {ty : TypeId} (hT : TL G t.args c xs) (hm : (⟨r, tC t c, ty⟩ : Blk) ∈ G) : TL G [t] (.slice (some ⟨r, 0, none⟩) 1 1) [iv t.kind, iv t.id, iv t.other, c] :=
  ⟨by simp [maxLen], .inr ⟨r, 0, 1, _, ty, rfl, by simp, hm, rfl, by rw [arrv_size]; simp, fun j u hu => by
    rw [Nat.zero_add, ← hu]
    match j, hu with
    | 0, _ => rfl
    | 1, _ => rfl
    | 2, _ => rfl
    | 3, _ => rfl⟩, fun j hj => by
    have : j = 0 := by simpa using hj
    subst this
    exact TV_iff.2 ⟨c, xs, rfl, hT⟩⟩
section
variable {P : Program} {H : Type} {enc : TypeId × Value → H}
end
end Go.Proofs.Ytnkelhmfpepehaa
namespace Go.Proofs.Ytnkelhmfpepehaa
open Go Go.RowKit
section
variable {P : Program} {G : Mem} {R : Reg} {ops : Array Oper} {K : Act → Mem → Prop} {rest : List Oper} {a : Act} {m : Mem} {d : Option Tmp} {ty : TypeId} {pos : String} {aft : Array Edge}
variable {T T' : TypeId} {x y : Operand}
theorem st_storeG {b o i : Nat} {c c' : Array Value} {t : TypeId} (hs : (P.info? T).map (·.size) = some c'.size) (hx : a.eval x = .pointer (some ⟨b, o, none⟩)) (hy : a.eval y = .agg c')
    (hv : ∀ v ∈ c', v.oneCell' = true) (hm : m[i]? = some ⟨b, c, t⟩) (hX : hid R ⟨d, .store T x y, ty, pos, aft, none⟩ b) (ho : o + c'.size ≤ c.size) (h : opsM P G R ops K rest (a.put d undef) (m.set i ⟨b, (c.toList.take o ++ c'.toList ++ c.toList.drop (o + c'.size)).toArray, t⟩)) (hYk : yOk R ⟨d, .store T x y, ty, pos, aft, none⟩ b) : opsM P G R ops K (⟨d, .store T x y, ty, pos, aft, none⟩ :: rest) a m :=
  store_atY hm hX (c.toList.take o ++ c'.toList ++ c.toList.drop (o + c'.size)).toArray (by simp; omega) (fun w hin => by
    have hst := run_storeCells_in (P := P) b o t c'.toList 0 c w hin (by simpa using ho) (fun v h => hv v (by simpa using h))
    have hl : c'.toList.length = c'.size := by simp
    rw [hl, Nat.add_zero, setRow_blk (t := t)] at hst
    cases hi : P.info? T with
    | none => simp [hi] at hs
    | some j =>
      have hsz : j.size = c'.size := by simpa [hi] using hs
      simp only [execOp, Instr.storeAt, hx, hy, Instr.sureAddr, storeVar, sizeOf, typeInfo]
      simp [hi, hsz, Value.cells, hst]) h hYk
end
section
variable {P : Program} {G : Mem} {R : Reg} {ops : Array Oper} {n : Nat} {K : Env → Mm → Prop} {rest : List Oper} {E : Env} {M : Mm} {d : Nat} {ty : TypeId} {pos : String} {aft : Array Edge}
variable {T T' : TypeId} {x y : Operand}
theorem e_stOwnS {i k j z : Nat} {e : TypeId} {v : Value} {c : Array Value} {xs : List Value} {oz : Option Blk} (hown : OwnS e z v k xs oz.toList) (hs : (P.info? T).map (·.size) = some z) (hx : rd E x = some (slAddr v (j * z))) (hy : rd E y = some (.agg c)) (hc : c.size = z) (hw : ∀ u ∈ c, u.oneCell' = true) (hi : lkM M i = oz) (hj : j < k) (hX : R.X = [])
    (h : ∀ oz' : Option Blk, OwnS e z v k (xs.take (j * z) ++ c.toList ++ xs.drop (j * z + z)) oz'.toList → OpsE P G R ops n K rest E ((i, oz') :: M)) (hYk : ∀ b : Blk, lkM M i = some b → ∀ m, FitsM M m → yOk R ⟨none, .store T x y, ty, pos, aft, none⟩ b.b := by first | exact y_none rfl | exact y_none (by assumption)) (hoff : OffL M i R.L := by first | exact trivial | assumption) : OpsE P G R ops n K (⟨none, .store T x y, ty, pos, aft, none⟩ :: rest) E M :=
  fun _ m ha hM => by
    rcases hown with ⟨_, h0, _, _⟩ | ⟨r, cap, cs, rfl, hl, hcp, hm, hz, hxl, ht⟩
    · omega
    · have hoz : oz = some ⟨r, cs, e⟩ := by
        cases oz with
        | none => simp at hl
        | some z => simp at hl; rw [hl]
      subst hoz
      obtain ⟨q, hq⟩ := hM.at hi
      have hm1 : j * z + z ≤ k * z := by rw [← Nat.succ_mul]; exact Nat.mul_le_mul_right _ hj
      have hm2 : k * z ≤ cap * z := Nat.mul_le_mul_right _ hcp
      have hx' : rd E x = some (.pointer (some ⟨r, j * z, none⟩)) := by
        rw [hx]; simp [slAddr]
      have hlen : xs.length = k * z := hxl
      have hck : c.toList.length = z := by simpa using hc
      refine st_storeG (hc ▸ hs) (ha.rd hx') (ha.rd hy) hw hq (hid_off hX (hoff.off hM hi ⟨r, cs, e⟩ (by simp))) (by omega) ?_ (hYk _ hi _ hM)
      refine h (some ⟨r, _, e⟩) (.inr ⟨r, cap, _, rfl, rfl, hcp, hm, ?_, ?_, ?_⟩) _ _ ha (hM.store hi hq _)
      · simp; omega
      · simp; omega
      · have e1 : (cs.toList.take (j * z) ++ c.toList ++ cs.toList.drop (j * z + c.size)).toArray.toList = cs.toList.take (j * z) ++ c.toList ++ cs.toList.drop (j * z + z) := by rw [hc]
        rw [e1]
        have lc : cs.toList.length = cs.size := by simp
        have l1 : (cs.toList.take (j * z)).length = j * z := by rw [List.length_take, lc]; omega
        have l2 : (xs.take (j * z)).length = j * z := by rw [List.length_take]; omega
        have l3 : (cs.toList.take (j * z) ++ c.toList).length = j * z + z := by rw [List.length_append, l1, hck]
        have l4 : (xs.take (j * z) ++ c.toList).length = j * z + z := by rw [List.length_append, l2, hck]
        apply List.ext_getElem?
        intro p
        by_cases hp : p < k * z
        · rw [List.getElem?_take_of_lt hp]
          by_cases h1 : p < j * z
          · rw [List.getElem?_append_left (by rw [l3]; omega), List.getElem?_append_left (by rw [l1]; omega), List.getElem?_append_left (by rw [l4]; omega), List.getElem?_append_left (by rw [l2]; omega), List.getElem?_take_of_lt h1, List.getElem?_take_of_lt h1, ← ht, List.getElem?_take_of_lt hp]
          · by_cases h2 : p < j * z + z
            · rw [List.getElem?_append_left (l₁ := cs.toList.take (j * z) ++ c.toList) (by rw [l3]; omega), List.getElem?_append_right (l₁ := cs.toList.take (j * z)) (by rw [l1]; omega), List.getElem?_append_left (l₁ := xs.take (j * z) ++ c.toList) (by rw [l4]; omega), List.getElem?_append_right (l₁ := xs.take (j * z)) (by rw [l2]; omega), l1, l2]
            · rw [List.getElem?_append_right (l₁ := cs.toList.take (j * z) ++ c.toList) (by rw [l3]; omega), List.getElem?_append_right (l₁ := xs.take (j * z) ++ c.toList) (by rw [l4]; omega), List.getElem?_drop, List.getElem?_drop, l3, l4, ← ht, List.getElem?_take_of_lt (by omega)]
        · rw [List.getElem?_eq_none (by rw [List.length_take]; omega), List.getElem?_eq_none (by rw [List.length_append, l4, List.length_drop]; omega)]
theorem own_fill {e : TypeId} {z : Nat} {v : Value} {xs zs cs : List Value} {k : Nat} {l : Mem} (hx : xs.length = k * z) (hz : zs.length = z) (ho : OwnS e z v (k + 1) ((xs ++ zs).take (k * z) ++ cs ++ (xs ++ zs).drop (k * z + z)) l) : OwnS e z v (k + 1) (xs ++ cs) l := by
  have e1 : (xs ++ zs).take (k * z) = xs := by rw [← hx]; exact List.take_left
  have e2 : (xs ++ zs).drop (k * z + z) = [] := List.drop_eq_nil_of_le (by rw [List.length_append]; omega)
  rw [e1, e2, List.append_nil] at ho
  exact ho
end
theorem swap_mem {α : Type} {a b : α} {l : List α} : ∀ z ∈ a :: b :: l, z ∈ b :: a :: l := fun z hz => by
  simp only [List.mem_cons] at hz ⊢
  rcases hz with h | h | h
  · exact .inr (.inl h)
  · exact .inl h
  · exact .inr (.inr h)
theorem own_app {α : Type} {e : TypeId} {z : Nat} {v : Value} {L : List α} (x : α) {xs : List Value} {l : Mem} (h : OwnS e z v (L.length + 1) xs l) : OwnS e z v (L ++ [x]).length xs l := by
  rw [List.length_append]; exact h
def TO (G : Mem) (L : List TT) (xs : List Value) : Prop := xs.length = L.length * 4 ∧ ∀ j (h : j < L.length), TV G L[j] (.agg ((xs.drop (j * 4)).take 4).toArray)
theorem TL.to {G : Mem} {L : List TT} {c : Value} {xs : List Value} (h : TL G L c xs) : TO G L xs := ⟨h.2.1.len, h.2.2⟩
theorem TO.nil {G : Mem} : TO G [] [] := ⟨rfl, fun j h => absurd h (Nat.not_lt_zero j)⟩
theorem TO.mono {G G' : Mem} (hs : ∀ x ∈ G, x ∈ G') {L : List TT} {xs : List Value} (h : TO G L xs) : TO G' L xs := ⟨h.1, fun j hj => (h.2 j hj).mono hs⟩
theorem TO.app {G : Mem} {L L' : List TT} {xs ys : List Value} (h : TO G L xs) (h' : TO G L' ys) : TO G (L ++ L') (xs ++ ys) := by
  refine ⟨by rw [List.length_append, List.length_append, h.1, h'.1, Nat.add_mul], fun j hj => ?_⟩
  by_cases hl : j < L.length
  · have e : ((xs ++ ys).drop (j * 4)).take 4 = (xs.drop (j * 4)).take 4 := by
      rw [List.drop_append_of_le_length (by rw [h.1]; omega), List.take_append_of_le_length (by rw [List.length_drop, h.1]; omega)]
    rw [e, List.getElem_append_left hl]; exact h.2 j hl
  · have e : ((xs ++ ys).drop (j * 4)).take 4 = (ys.drop ((j - L.length) * 4)).take 4 := by
      rw [List.drop_append, List.drop_eq_nil_of_le (by rw [h.1]; omega), List.nil_append, h.1]
      congr 2; omega
    rw [e, List.getElem_append_right (by omega)]
    exact h'.2 (j - L.length) (by rw [List.length_append] at hj; omega)
theorem to_one {G : Mem} {t : TT} {c : Value} {ys : List Value} (h : TL G t.args c ys) : TO G [t] (tC t c).toList := ⟨rfl, fun j hj => by
  have : j = 0 := by simpa using hj
  subst this
  exact TV_iff.2 ⟨c, ys, rfl, h⟩⟩
theorem TO.tl {G : Mem} {e : TypeId} {L : List TT} {v : Value} {xs : List Value} {l : Mem} (h : TO G L xs) (ho : OwnS e 4 v L.length xs l) (hn : L.length ≤ maxLen) : TL (l ++ G) L v xs :=
  ⟨hn, ho.shows.mono fun _ hx => List.mem_append_left _ hx, fun j hj => (h.2 j hj).mono fun _ hx => List.mem_append_right _ hx⟩
theorem TO.ones {G : Mem} {L : List TT} {xs : List Value} (h : TO G L xs) : ∀ u ∈ xs, u.oneCell' = true := fun u hu => by
  obtain ⟨p, hp, rfl⟩ := List.mem_iff_getElem.1 hu
  have hj : p / 4 < L.length := by rw [h.1] at hp; omega
  obtain ⟨c', ys, e, hl⟩ := TV_iff.1 (h.2 (p / 4) hj)
  have e2 : (xs.drop (p / 4 * 4)).take 4 = [iv L[p / 4].kind, iv L[p / 4].id, iv L[p / 4].other, c'] := by
    have := congrArg (fun v => match v with | .agg a => a.toList | _ => []) e
    simpa using this
  have hg : ((xs.drop (p / 4 * 4)).take 4)[p % 4]? = some xs[p] := by
    rw [List.getElem?_take_of_lt (by omega), List.getElem?_drop, show p / 4 * 4 + p % 4 = p by omega, List.getElem?_eq_getElem hp]
  rw [e2] at hg
  have hm : xs[p] ∈ [iv L[p / 4].kind, iv L[p / 4].id, iv L[p / 4].other, c'] := List.mem_of_getElem? hg
  simp only [List.mem_cons, List.not_mem_nil, or_false] at hm
  rcases hm with h1 | h1 | h1 | h1
  · rw [h1]; rfl
  · rw [h1]; rfl
  · rw [h1]; rfl
  · rw [h1]; exact shows_oneC hl.2.1
theorem TL.drop2 {G : Mem} {l : List TT} {c : Value} {xs : List Value} (h : TL G l c xs) (h2 : 2 ≤ l.length) : TL G (l.drop 2) (slPart 4 c 2 l.length) (xs.drop 8) := by
  have hs := h.2.1.part (i := 2) (j := l.length) h2 (Nat.le_refl _)
  have hx := h.2.1.len
  have e : (xs.drop (2 * 4)).take ((l.length - 2) * 4) = xs.drop 8 := List.take_of_length_le (by rw [List.length_drop]; omega)
  rw [e] at hs
  refine ⟨by have := h.1; rw [List.length_drop]; omega, by rw [List.length_drop]; exact hs, fun j hj => ?_⟩
  have hj2 : 2 + j < l.length := by rw [List.length_drop] at hj; omega
  have := h.2.2 (2 + j) hj2
  rw [List.getElem_drop, List.drop_drop]
  rw [show 8 + j * 4 = (2 + j) * 4 by omega]; exact this
end Go.Proofs.Ytnkelhmfpepehaa
namespace Go.Proofs.Ytnkelhmfpepehaa
open Go Go.RowKit
abbrev atomT (i : Int) : TT := ⟨1, i, 0, []⟩
abbrev pubT (i : Int) : TT := ⟨2, i, 0, []⟩
def agB (hs : TT → Bool) (a b : Int) : Bool := hs (atomT a) && (hs (pubT b) || hs (atomT b))
def TT.canB (hs : TT → Bool) : TT → Bool
  | ⟨k, i, o, l⟩ => hs ⟨k, i, o, l⟩ || (if k = 1 then false else if k = 2 then hs (atomT i) else if k = 3 then agB hs i o || agB hs o i else (l.map fun a => a.canB hs).all fun b => b)
theorem canB_eq (hs : TT → Bool) (t : TT) : t.canB hs = (hs t || (if t.kind = 1 then false else if t.kind = 2 then hs (atomT t.id) else if t.kind = 3 then agB hs t.id t.other || agB hs t.other t.id else (t.args.map fun a => a.canB hs).all fun b => b)) := by cases t; rw [TT.canB]
def agP (S : TT → Prop) (a b : Int) : Prop := S (atomT a) ∧ (S (pubT b) ∨ S (atomT b))
def TT.canP (S : TT → Prop) : TT → Prop
  | ⟨k, i, o, l⟩ => S ⟨k, i, o, l⟩ ∨ (if k = 1 then False else if k = 2 then S (atomT i) else if k = 3 then agP S i o ∨ agP S o i else ∀ a, a ∈ l → a.canP S)
theorem canP_eq {S : TT → Prop} {t : TT} : t.canP S ↔ (S t ∨ (if t.kind = 1 then False else if t.kind = 2 then S (atomT t.id) else if t.kind = 3 then agP S t.id t.other ∨ agP S t.other t.id else ∀ a, a ∈ t.args → a.canP S)) := by cases t; rw [TT.canP]
theorem canP_ways {S : TT → Prop} {t : TT} : t.canP S ↔ (S t ∨ (t.kind = 2 ∧ S (atomT t.id)) ∨ (t.kind = 3 ∧ (agP S t.id t.other ∨ agP S t.other t.id)) ∨ ((t.kind ≠ 1 ∧ t.kind ≠ 2 ∧ t.kind ≠ 3) ∧ ∀ a, a ∈ t.args → a.canP S)) := by
  rw [canP_eq]
  refine or_congr Iff.rfl ?_
  by_cases h1 : t.kind = 1
  · rw [if_pos h1]; simp [h1]
  rw [if_neg h1]
  by_cases h2 : t.kind = 2
  · rw [if_pos h2]; simp [h2]
  rw [if_neg h2]
  by_cases h3 : t.kind = 3
  · rw [if_pos h3]; simp [h3]
  rw [if_neg h3]; simp [h1, h2, h3]
theorem agB_iff {hs : TT → Bool} {S : TT → Prop} (h : ∀ x, hs x = true ↔ S x) (a b : Int) : agB hs a b = true ↔ agP S a b := by
  unfold agB agP; rw [Bool.and_eq_true, Bool.or_eq_true, h, h, h]
theorem canB_iff {hs : TT → Bool} {S : TT → Prop} (h : ∀ x, hs x = true ↔ S x) (t : TT) : t.canB hs = true ↔ t.canP S := by
  refine TT.ind (p := fun t => t.canB hs = true ↔ t.canP S) (fun t ih => ?_) t
  rw [canB_eq, canP_eq, Bool.or_eq_true, h]
  refine or_congr Iff.rfl ?_
  by_cases h1 : t.kind = 1
  · rw [if_pos h1, if_pos h1]; simp
  rw [if_neg h1, if_neg h1]
  by_cases h2 : t.kind = 2
  · rw [if_pos h2, if_pos h2, h]
  rw [if_neg h2, if_neg h2]
  by_cases h3 : t.kind = 3
  · rw [if_pos h3, if_pos h3, Bool.or_eq_true, agB_iff h, agB_iff h]
  rw [if_neg h3, if_neg h3, List.all_eq_true]
  constructor
  · intro g a ha
    exact (ih a ha).1 (g _ (List.mem_map_of_mem ha))
  · intro g b hb
    obtain ⟨a, ha, rfl⟩ := List.mem_map.1 hb
    exact (ih a ha).2 (g a ha)
theorem agP_mono {S S' : TT → Prop} (h : ∀ x, S x → S' x) {a b : Int} (g : agP S a b) : agP S' a b := ⟨h _ g.1, g.2.imp (h _) (h _)⟩
theorem canP_mono {S S' : TT → Prop} (h : ∀ x, S x → S' x) {t : TT} : t.canP S → t.canP S' := by
  refine TT.ind (p := fun t => t.canP S → t.canP S') (fun t ih g => ?_) t
  rw [canP_ways] at g ⊢
  rcases g with g | ⟨e, g⟩ | ⟨e, g⟩ | ⟨e, g⟩
  · exact .inl (h _ g)
  · exact .inr (.inl ⟨e, h _ g⟩)
  · exact .inr (.inr (.inl ⟨e, g.imp (agP_mono h) (agP_mono h)⟩))
  · exact .inr (.inr (.inr ⟨e, fun a ha => ih a ha (g a ha)⟩))
theorem canP_atom {S : TT → Prop} {i : Int} : (atomT i).canP S ↔ S (atomT i) := by
  rw [canP_eq, if_pos rfl]; simp
theorem canP_pub {S : TT → Prop} {i : Int} : (pubT i).canP S ↔ S (pubT i) ∨ S (atomT i) := by
  rw [canP_eq, if_neg (show ¬ (2 : Int) = 1 by decide), if_pos rfl]
theorem agP_idem {S : TT → Prop} {a b : Int} (g : agP (fun x => x.canP S) a b) : agP S a b := by
  obtain ⟨h1, h2⟩ := g
  refine ⟨canP_atom.1 h1, ?_⟩
  rcases h2 with h2 | h2
  · exact canP_pub.1 h2
  · exact .inr (canP_atom.1 h2)
theorem canP_idem {S : TT → Prop} {t : TT} : t.canP (fun x => x.canP S) → t.canP S := by
  refine TT.ind (p := fun t => t.canP (fun x => x.canP S) → t.canP S) (fun t ih g => ?_) t
  rw [canP_ways] at g
  rcases g with g | ⟨e, g⟩ | ⟨e, g⟩ | ⟨e, g⟩
  · exact g
  · exact canP_ways.2 (.inr (.inl ⟨e, canP_atom.1 g⟩))
  · exact canP_ways.2 (.inr (.inr (.inl ⟨e, g.imp agP_idem agP_idem⟩)))
  · exact canP_ways.2 (.inr (.inr (.inr ⟨e, fun a ha => ih a ha (g a ha)⟩)))
def prT (t : TT) : List TT := if t.kind = 4 then t.args else if t.kind = 7 then t.args.drop 2 else []
def keyT (t : TT) : TT := t.args.getD 0 (atomT 0)
theorem prT_in {t x : TT} (h : x ∈ prT t) : x ∈ t.args := by
  unfold prT at h
  split at h
  · exact h
  split at h
  · exact List.mem_of_mem_drop h
  · cases h
def opP (S : TT → Prop) (t : TT) : Prop := t.kind = 7 → (keyT t).canP S
def opB (hs : TT → Bool) (t : TT) : Bool := decide (t.kind ≠ 7) || (keyT t).canB hs
theorem opB_iff {hs : TT → Bool} {S : TT → Prop} (h : ∀ x, hs x = true ↔ S x) (t : TT) : opB hs t = true ↔ opP S t := by
  unfold opB opP
  rw [Bool.or_eq_true, decide_eq_true_eq, canB_iff h]
  by_cases g : t.kind = 7
  · simp [g]
  · simp [g]
theorem opP_mono {S S' : TT → Prop} (h : ∀ x, S x → S' x) {t : TT} (g : opP S t) : opP S' t := fun e => canP_mono h (g e)
def ClosedP (S : TT → Prop) : Prop := ∀ y, S y → opP S y → ∀ x ∈ prT y, S x
def HasP (l : List TT) (x : TT) : Prop := ∀ S : TT → Prop, (∀ y ∈ l, S y) → ClosedP S → S x
theorem has_in {l : List TT} {x : TT} (h : x ∈ l) : HasP l x := fun _ h1 _ => h1 x h
theorem has_closed (l : List TT) : ClosedP (HasP l) := fun y hy ho x hx S h1 h2 => h2 y (hy S h1 h2) (opP_mono (fun _ hz => hz S h1 h2) ho) x hx
theorem has_mono {l m : List TT} (h : ∀ x ∈ l, x ∈ m) {x : TT} (g : HasP l x) : HasP m x := fun S h1 h2 => g S (fun y hy => h1 y (h y hy)) h2
def KN (l : List TT) (t : TT) : Prop := t.canP (HasP l)
theorem KN_more {l m : List TT} (h : ∀ x ∈ l, x ∈ m) {t : TT} (g : KN l t) : KN m t := canP_mono (fun _ => has_mono h) g
theorem KN_args {l : List TT} {t : TT} (g : KN l t) (ho : opP (KN l) t) {x : TT} (hx : x ∈ prT t) : KN l x := by
  have g0 := g
  unfold KN at g
  rw [canP_eq] at g
  rcases g with g | g
  · exact canP_eq.2 (.inl (has_closed l t g (fun e => canP_idem (ho e)) x hx))
  · have hk : t.kind = 4 ∨ t.kind = 7 := by
      unfold prT at hx
      by_cases h4 : t.kind = 4
      · exact .inl h4
      · by_cases h7 : t.kind = 7
        · exact .inr h7
        · rw [if_neg h4, if_neg h7] at hx; cases hx
    rw [if_neg (by omega), if_neg (by omega), if_neg (by omega)] at g
    exact g x (prT_in hx)
theorem KN_closed (l : List TT) : ClosedP (KN l) := fun _ g ho _ hx => KN_args g ho hx
theorem KN_all {a : List TT} {t u : TT} (g : KN a t) : KN (a ++ [t]) u ↔ KN a u := by
  refine ⟨fun h => ?_, KN_more fun x hx => List.mem_append_left _ hx⟩
  have h1 : ∀ x, HasP (a ++ [t]) x → KN a x := fun x hx => hx (KN a) (fun y hy => by
    rcases List.mem_append.1 hy with hy | hy
    · exact canP_eq.2 (.inl (has_in hy))
    · rw [List.mem_singleton.1 hy]; exact g) (KN_closed a)
  exact canP_idem (canP_mono h1 h)
theorem KN_pair {a : List TT} {t u : TT} : KN a ⟨4, 0, 0, [t, u]⟩ ↔ KN a t ∧ KN a u := by
  constructor
  · intro h
    have ho : opP (KN a) ⟨4, 0, 0, [t, u]⟩ := fun e => by cases e
    exact ⟨KN_args h ho (by simp [prT]), KN_args h ho (by simp [prT])⟩
  · rintro ⟨h1, h2⟩
    refine canP_eq.2 (.inr ?_)
    rw [if_neg (show ¬ (4 : Int) = 1 by decide), if_neg (show ¬ (4 : Int) = 2 by decide), if_neg (show ¬ (4 : Int) = 3 by decide)]
    intro x hx
    rcases List.mem_cons.1 hx with rfl | hx
    · exact h1
    · rw [List.mem_singleton.1 hx]; exact h2
theorem KN_dh {a : List TT} {m n : Int} (h1 : KN a (atomT m)) (h2 : KN a (pubT n)) : KN a ⟨3, min m n, max m n, []⟩ := by
  have g : agP (HasP a) m n := ⟨canP_atom.1 h1, canP_pub.1 h2⟩
  refine canP_eq.2 (.inr ?_)
  rw [if_neg (show ¬ (3 : Int) = 1 by decide), if_neg (show ¬ (3 : Int) = 2 by decide), if_pos rfl]
  rcases Int.le_total m n with h | h
  · left
    show agP _ (min m n) (max m n)
    rw [Int.min_eq_left h, Int.max_eq_right h]; exact g
  · right
    show agP _ (max m n) (min m n)
    rw [Int.min_eq_right h, Int.max_eq_left h]; exact g
def cleanT (s : TT) : TT → Prop
  | ⟨k, i, o, l⟩ => (⟨k, i, o, l⟩ : TT) ≠ s ∧ ∀ a, a ∈ l → cleanT s a
theorem clean_eq {s t : TT} : cleanT s t ↔ (t ≠ s ∧ ∀ a, a ∈ t.args → cleanT s a) := by cases t; rw [cleanT]
theorem has_clean {l : List TT} {s : TT} (h : ∀ x ∈ l, cleanT s x) {x : TT} (g : HasP l x) : cleanT s x :=
  g (fun x => cleanT s x) h fun _ hy _ x hx => (clean_eq.1 hy).2 x (prT_in hx)
abbrev boxT (k s : TT) : TT := ⟨7, 0, 0, [k, atomT 0, s]⟩
theorem box_not {k : TT} {i : Int} : ¬ cleanT (atomT i) (boxT k (atomT i)) := fun h => (clean_eq.1 ((clean_eq.1 h).2 (atomT i) (by simp))).1 rfl
theorem can_clean {S : TT → Prop} {k : TT} {i : Int} {t : TT} : cleanT (atomT i) t → t.canP (fun x => S x ∨ x = boxT k (atomT i)) → t.canP S := by
  have kb : ∀ {x : TT}, x.kind ≠ 7 → (S x ∨ x = boxT k (atomT i)) → S x := fun h g => g.elim id fun e => absurd (congrArg TT.kind e) h
  have n1 : (1 : Int) ≠ 7 := by decide
  have n2 : (2 : Int) ≠ 7 := by decide
  have ab : ∀ {a b : Int}, agP (fun x => S x ∨ x = boxT k (atomT i)) a b → agP S a b := fun ⟨g1, g2⟩ => ⟨kb n1 g1, g2.imp (kb n2) (kb n1)⟩
  refine TT.ind (p := fun t => cleanT (atomT i) t → t.canP (fun x => S x ∨ x = boxT k (atomT i)) → t.canP S) (fun t ih hc g => ?_) t
  rw [canP_ways] at g ⊢
  rcases g with (g | g) | ⟨e, g⟩ | ⟨e, g⟩ | ⟨e, g⟩
  · exact .inl g
  · subst g; exact absurd hc box_not
  · exact .inr (.inl ⟨e, kb n1 g⟩)
  · exact .inr (.inr (.inl ⟨e, g.imp ab ab⟩))
  · exact .inr (.inr (.inr ⟨e, fun a ha => ih a ha ((clean_eq.1 hc).2 a ha) (g a ha)⟩))
theorem KN_lock {a : List TT} {k : TT} {i : Int} (h : ∀ x ∈ a, cleanT (atomT i) x) (hk : cleanT (atomT i) k) : KN (a ++ [boxT k (atomT i)]) (atomT i) ↔ KN a k := by
  constructor
  · intro g
    have g := canP_atom.1 g
    refine Classical.byContradiction fun hn => ?_
    have h1 : HasP a (atomT i) ∨ atomT i = boxT k (atomT i) := g (fun x => HasP a x ∨ x = boxT k (atomT i)) (fun y hy => by
      rcases List.mem_append.1 hy with hy | hy
      · exact .inl (has_in hy)
      · exact .inr (List.mem_singleton.1 hy)) fun y hy ho x hx => by
        rcases hy with hy | rfl
        · refine .inl (has_closed a y hy (fun e => ?_) x hx)
          refine can_clean ?_ (ho e)
          have hcy := has_clean h hy
          unfold keyT
          cases ha : y.args with
          | nil =>
            exfalso
            rw [prT, ha] at hx
            simp at hx
          | cons z zs => exact (clean_eq.1 hcy).2 z (by rw [ha]; simp)
        · exact absurd (can_clean hk (ho rfl)) hn
    rcases h1 with h1 | h1
    · exact (clean_eq.1 (has_clean h h1)).1 rfl
    · exact absurd (congrArg TT.kind h1) (show ¬ (1 : Int) = 7 by decide)
  · intro g
    have hb : HasP (a ++ [boxT k (atomT i)]) (boxT k (atomT i)) := has_in (by simp)
    exact canP_atom.2 (has_closed _ _ hb (fun _ => canP_mono (fun _ => has_mono fun x hx => List.mem_append_left _ hx) g) _ (by simp [prT]))
def TT.subs : TT → List TT
  | ⟨k, i, o, l⟩ => ⟨k, i, o, l⟩ :: (l.map fun a => a.subs).flatten
theorem subs_eq (t : TT) : t.subs = t :: (t.args.map fun a => a.subs).flatten := by cases t; rw [TT.subs]
def subsL (l : List TT) : List TT := (l.map fun a => a.subs).flatten
theorem subs_len (t : TT) : t.subs.length = t.nodes := by
  refine TT.ind (p := fun t => t.subs.length = t.nodes) (fun t ih => ?_) t
  rw [subs_eq, TT.nodes_eq, List.length_cons, List.length_flatten, List.map_map, Nat.add_comm]
  congr 1
  exact congrArg List.sum (List.map_congr_left fun a ha => ih a ha)
theorem subsL_len (l : List TT) : (subsL l).length = nodesL l := by
  unfold subsL nodesL
  rw [List.length_flatten, List.map_map]
  exact congrArg List.sum (List.map_congr_left fun a _ => subs_len a)
theorem subs_arg {t : TT} : ∀ {y x : TT}, y ∈ t.subs → x ∈ y.args → x ∈ t.subs := by
  refine TT.ind (p := fun t => ∀ {y x : TT}, y ∈ t.subs → x ∈ y.args → x ∈ t.subs) (fun t ih y x hy hx => ?_) t
  rw [subs_eq] at hy ⊢
  rcases List.mem_cons.1 hy with rfl | hy
  · refine List.mem_cons_of_mem _ (List.mem_flatten.2 ⟨x.subs, List.mem_map_of_mem hx, ?_⟩)
    rw [subs_eq]; simp
  · obtain ⟨s, hs, hy⟩ := List.mem_flatten.1 hy
    obtain ⟨a, ha, rfl⟩ := List.mem_map.1 hs
    exact List.mem_cons_of_mem _ (List.mem_flatten.2 ⟨a.subs, List.mem_map_of_mem ha, ih a ha hy hx⟩)
theorem subsL_in {l : List TT} {x : TT} (h : x ∈ l) : x ∈ subsL l := List.mem_flatten.2 ⟨x.subs, List.mem_map_of_mem h, by rw [subs_eq]; simp⟩
theorem subsL_arg {l : List TT} {y x : TT} (hy : y ∈ subsL l) (hx : x ∈ y.args) : x ∈ subsL l := by
  obtain ⟨s, hs, hy⟩ := List.mem_flatten.1 hy
  obtain ⟨a, ha, rfl⟩ := List.mem_map.1 hs
  exact List.mem_flatten.2 ⟨a.subs, List.mem_map_of_mem ha, subs_arg hy hx⟩
theorem nodup_len {l : List TT} : ∀ {m : List TT}, l.Nodup → (∀ x ∈ l, x ∈ m) → l.length ≤ m.length := by
  induction l with
  | nil => intro m _ _; simp
  | cons x l ih =>
    intro m hn hs
    obtain ⟨s, t, rfl⟩ := List.append_of_mem (hs x (by simp))
    have hn2 := List.nodup_cons.1 hn
    have := ih (m := s ++ t) hn2.2 fun y hy => by
      have hy2 := hs y (by simp [hy])
      have hne : y ≠ x := fun e => hn2.1 (e ▸ hy)
      simp only [List.mem_append, List.mem_cons] at hy2 ⊢
      rcases hy2 with h | h | h
      · exact .inl h
      · exact absurd h hne
      · exact .inr h
    simp only [List.length_append, List.length_cons] at this ⊢
    omega
theorem nodes_one (t : TT) : 1 ≤ t.nodes := by rw [TT.nodes_eq]; omega
theorem len_nodes (l : List TT) : l.length ≤ nodesL l := by
  induction l with
  | nil => simp
  | cons x l ih =>
    have := nodes_one x
    simp only [nodesL, List.map_cons, List.sum_cons, List.length_cons] at *
    omega
structure GrowT (l L : List TT) : Prop where
  sound : ∀ x ∈ L, HasP l x
  good : ∀ x ∈ L, x.form = 0
  news : ∃ N, L = l ++ N ∧ N.Nodup ∧ ∀ x ∈ N, x ∈ subsL l
theorem GrowT.base {l L : List TT} (h : GrowT l L) {x : TT} (hx : x ∈ l) : x ∈ L := by
  obtain ⟨N, rfl, _⟩ := h.news; exact List.mem_append_left _ hx
theorem GrowT.subs {l L : List TT} (h : GrowT l L) {x : TT} (hx : x ∈ L) : x ∈ subsL l := by
  obtain ⟨N, rfl, _, hN⟩ := h.news
  rcases List.mem_append.1 hx with hx | hx
  · exact subsL_in hx
  · exact hN x hx
theorem GrowT.len {l L : List TT} (h : GrowT l L) (hl : nodesL l ≤ 300) : L.length ≤ 600 := by
  obtain ⟨N, rfl, hn, hN⟩ := h.news
  have h1 := nodup_len hn hN
  rw [subsL_len] at h1
  have := len_nodes l
  rw [List.length_append]; omega
theorem grow_zero {l : List TT} (h : ∀ x ∈ l, x.form = 0) : GrowT l l := ⟨fun _ hx => has_in hx, h, [], by simp, List.nodup_nil, fun _ hx => by cases hx⟩
theorem form_kind {t : TT} (h : t.form = 0) : t.args.length = wdt t.kind ∧ ∀ a ∈ t.args, a.form = 0 := by
  rw [form_eq] at h
  split at h
  · cases h
  split at h
  · cases h
  · rename_i h1 h2
    refine ⟨Classical.byContradiction fun g => h2 (.inl g), fun a ha => ?_⟩
    refine Classical.byContradiction fun g => ?_
    have key : ∀ l : List Nat, fst1 l = 0 → ∀ x ∈ l, x = 0 := by
      intro l
      induction l with
      | nil => intro _ x hx; cases hx
      | cons y l ih =>
        intro h x hx
        rw [fst1] at h
        split at h
        · rcases List.mem_cons.1 hx with rfl | hx
          · assumption
          · exact ih h x hx
        · rename_i hy; exact absurd h hy
    exact g (key _ h _ (List.mem_map_of_mem ha))
abbrev hsL (L : List TT) (x : TT) : Bool := L.any fun y => x.eqb y
theorem hsL_iff (L : List TT) (x : TT) : hsL L x = true ↔ x ∈ L := by
  rw [List.any_eq_true]
  exact ⟨fun ⟨y, hy, e⟩ => by rw [(eqb_iff _ _).1 e]; exact hy, fun h => ⟨x, h, eqb_self x⟩⟩
theorem GrowT.next {l L : List TT} (h : GrowT l L) {y x : TT} (hy : y ∈ L) (hx : x ∈ prT y) (hn : hsL L x = false) (ho : opB (hsL L) y = true) : GrowT l (L ++ [x]) := by
  have hnx : x ∉ L := fun g => by rw [(hsL_iff L x).2 g] at hn; cases hn
  have ho2 : opP (HasP l) y := opP_mono (fun z hz => h.sound z hz) ((opB_iff (S := fun x => x ∈ L) (hsL_iff L) y).1 ho)
  refine ⟨fun z hz => ?_, fun z hz => ?_, ?_⟩
  · rcases List.mem_append.1 hz with hz | hz
    · exact h.sound z hz
    · rw [List.mem_singleton.1 hz]; exact has_closed l y (h.sound y hy) ho2 x hx
  · rcases List.mem_append.1 hz with hz | hz
    · exact h.good z hz
    · rw [List.mem_singleton.1 hz]; exact (form_kind (h.good y hy)).2 x (prT_in hx)
  · have hxs := subsL_arg (h.subs hy) (prT_in hx)
    obtain ⟨N, rfl, h1, h2⟩ := h.news
    refine ⟨N ++ [x], by simp, ?_, fun z hz => ?_⟩
    · rw [List.nodup_append]
      refine ⟨h1, by simp, fun a ha b hb e => ?_⟩
      rw [List.mem_singleton.1 hb] at e
      exact hnx (List.mem_append_right _ (e ▸ ha))
    · rcases List.mem_append.1 hz with hz | hz
      · exact h2 z hz
      · rw [List.mem_singleton.1 hz]; exact hxs
theorem GrowT.done {l L : List TT} (h : GrowT l L) (hc : ∀ i (hi : i < L.length), ∀ x ∈ prT L[i], opB (hsL L) L[i] = true → x ∈ L) (t : TT) : t.canB (hsL L) = true ↔ KN l t := by
  have hcl : ClosedP (fun x => x ∈ L) := fun y hy ho x hx => by
    obtain ⟨i, hi, rfl⟩ := List.mem_iff_getElem.1 hy
    exact hc i hi x hx ((opB_iff (S := fun x => x ∈ L) (hsL_iff L) _).2 ho)
  have e : ∀ x, hsL L x = true ↔ HasP l x := fun x => (hsL_iff L x).trans ⟨h.sound x, fun g => g (fun x => x ∈ L) (fun y hy => h.base hy) hcl⟩
  exact canB_iff e t
def idxT (x : TT) : List TT → Int
  | [] => -1
  | y :: l => if x.eqb y = true then 0 else if idxT x l < 0 then -1 else idxT x l + 1
theorem idxT_at {x : TT} : ∀ {L : List TT} {i : Nat} (hi : i < L.length), (∀ j (h : j < L.length), j < i → x.eqb L[j] = false) → x.eqb L[i] = true → idxT x L = i
  | y :: l, 0, _, _, h => by rw [idxT, if_pos (show x.eqb y = true from h)]; rfl
  | y :: l, i + 1, hi, h0, h => by
    have e0 : x.eqb y = false := h0 0 (by simp) (by omega)
    have e := idxT_at (x := x) (L := l) (i := i) (by simpa using hi) (fun j hj hji => h0 (j + 1) (by simpa using hj) (by omega)) h
    rw [idxT, e0, e, if_neg (by decide), if_neg (by omega)]; omega
theorem idxT_none {x : TT} : ∀ {L : List TT}, (∀ j (h : j < L.length), x.eqb L[j] = false) → idxT x L = -1
  | [], _ => rfl
  | y :: l, h => by
    have e0 : x.eqb y = false := h 0 (by simp)
    rw [idxT, e0, if_neg (by decide), idxT_none fun j hj => h (j + 1) (by simpa using hj), if_pos (by decide)]
theorem idxT_has (x : TT) : ∀ L : List TT, decide ((0 : Int) ≤ idxT x L) = hsL L x
  | [] => rfl
  | y :: l => by
    have ih := idxT_has x l
    show _ = (x.eqb y || hsL l x)
    rw [idxT]
    cases e : x.eqb y with
    | true => simp
    | false =>
      rw [Bool.false_or, ← ih, if_neg (by decide)]
      by_cases h : idxT x l < 0
      · rw [if_pos h, decide_eq_false (by omega), decide_eq_false (by omega)]
      · rw [if_neg h, decide_eq_true (by omega), decide_eq_true (by omega)]
theorem all_yes {hs : TT → Bool} {l : List TT} (h : ∀ j (h : j < l.length), (l[j]).canB hs = true) : ((l.map fun a => a.canB hs).all fun b => b) = true := by
  rw [List.all_eq_true]
  intro b hb
  obtain ⟨a, ha, rfl⟩ := List.mem_map.1 hb
  obtain ⟨j, hj, rfl⟩ := List.mem_iff_getElem.1 ha
  exact h j hj
theorem all_no {hs : TT → Bool} {l : List TT} {i : Nat} (hi : i < l.length) (h : (l[i]).canB hs = false) : ((l.map fun a => a.canB hs).all fun b => b) = false := by
  cases e : ((l.map fun a => a.canB hs).all fun b => b) with
  | false => rfl
  | true =>
    rw [List.all_eq_true] at e
    have := e _ (List.mem_map_of_mem (List.getElem_mem hi))
    rw [h] at this; cases this
theorem canB_pub (hs : TT → Bool) (b : Int) : (pubT b).canB hs = (hs (pubT b) || hs (atomT b)) := by
  rw [canB_eq, if_neg (show ¬ (2 : Int) = 1 by decide), if_pos rfl]
def prV (t : TT) (c : Value) : Value := if t.kind = 4 then c else if t.kind = 7 then slPart 4 c 2 t.args.length else nilS
def prX (t : TT) (xs : List Value) : List Value := if t.kind = 4 then xs else if t.kind = 7 then xs.drop 8 else []
theorem prT_tl {G : Mem} {t : TT} {c : Value} {xs : List Value} (h : TL G t.args c xs) (h7 : t.kind = 7 → 2 ≤ t.args.length) : TL G (prT t) (prV t c) (prX t xs) := by
  unfold prT prV prX
  by_cases h4 : t.kind = 4
  · rw [if_pos h4, if_pos h4, if_pos h4]; exact h
  · rw [if_neg h4, if_neg h4, if_neg h4]
    by_cases g7 : t.kind = 7
    · rw [if_pos g7, if_pos g7, if_pos g7]; exact h.drop2 (h7 g7)
    · rw [if_neg g7, if_neg g7, if_neg g7]; exact tl_nil
theorem first_ways {G : Mem} {t : TT} {c : Value} {xs : List Value} (h : TL G t.args c xs) (h7 : t.kind = 7 → t.args.length = 3) : (t.kind = 7 ∧ t.args.length = 3 ∧ ∃ c1 ys1, (xs.drop (0 * 4)).take 4 = [iv (keyT t).kind, iv (keyT t).id, iv (keyT t).other, c1] ∧ TL G (keyT t).args c1 ys1) ∨ t.kind ≠ 7 := by
  by_cases k7 : t.kind = 7
  · left
    have h3 := h7 k7
    obtain ⟨c1, ys1, h1, h2⟩ := h.at (show 0 < t.args.length by omega)
    have e : t.args[0]'(by omega) = keyT t := by
      unfold keyT
      rw [List.getD_eq_getElem?_getD, List.getElem?_eq_getElem (show 0 < t.args.length by omega), Option.getD_some]
    rw [e] at h1 h2
    exact ⟨k7, h3, c1, ys1, h1, h2⟩
  · exact .inr k7
theorem wdt_seven {t : TT} (h : t.form = 0) : t.kind = 7 → t.args.length = 3 := fun e => by
  rw [(form_kind h).1, e]; rfl
theorem TO.at {G : Mem} {L : List TT} {xs : List Value} (h : TO G L xs) {j : Nat} (hj : j < L.length) : ∃ c' ys, (xs.drop (j * 4)).take 4 = [iv L[j].kind, iv L[j].id, iv L[j].other, c'] ∧ TL G L[j].args c' ys := by
  obtain ⟨c', ys, e, hl⟩ := TV_iff.1 (h.2 j hj)
  refine ⟨c', ys, ?_, hl⟩
  have := congrArg (fun v => match v with | .agg a => a.toList | _ => []) e
  simpa using this
def Shut (L0 L : List TT) (i : Nat) : Prop := L = L0 → ∀ p (hp : p < L.length), p < i → ∀ x ∈ prT L[p], opB (hsL L) L[p] = true → x ∈ L
def ShutP (L0 L : List TT) (y : TT) (j : Nat) : Prop := L = L0 → ∀ p (hp : p < (prT y).length), p < j → opB (hsL L) y = true → (prT y)[p] ∈ L
def Pre (L0 L : List TT) : Prop := ∃ s, L = L0 ++ s
theorem Pre.refl (L : List TT) : Pre L L := ⟨[], by simp⟩
theorem Pre.app {L0 L : List TT} (h : Pre L0 L) (x : TT) : Pre L0 (L ++ [x]) := by
  obtain ⟨s, rfl⟩ := h; exact ⟨s ++ [x], by simp⟩
theorem Pre.trans {L0 L1 L2 : List TT} (h : Pre L0 L1) (g : Pre L1 L2) : Pre L0 L2 := by
  obtain ⟨s, rfl⟩ := h; obtain ⟨s', rfl⟩ := g; exact ⟨s ++ s', by simp⟩
theorem Pre.len {L0 L : List TT} (h : Pre L0 L) : L0.length ≤ L.length := by obtain ⟨s, rfl⟩ := h; simp
theorem Pre.eq {L0 L : List TT} (h : Pre L0 L) (hl : L.length ≤ L0.length) : L = L0 := by
  obtain ⟨s, rfl⟩ := h
  have : s = [] := List.length_eq_zero_iff.1 (by rw [List.length_append] at hl; omega)
  subst this; simp
theorem Pre.at {L0 L : List TT} (h : Pre L0 L) {i : Nat} (hi : i < L0.length) : ∃ hj : i < L.length, L[i] = L0[i] := by
  obtain ⟨s, rfl⟩ := h
  exact ⟨by rw [List.length_append]; omega, List.getElem_append_left hi⟩
theorem shut_zero {L0 L : List TT} : Shut L0 L 0 := fun _ _ _ h => absurd h (Nat.not_lt_zero _)
theorem shutP_zero {L0 L : List TT} {y : TT} : ShutP L0 L y 0 := fun _ _ _ h => absurd h (Nat.not_lt_zero _)
theorem shut_next {L0 L1 L2 : List TT} {i n : Nat} {y : TT} (hi : i < L1.length) (hy : y = L1[i]) (h1 : Pre L0 L1) (h2 : Pre L1 L2) (h5 : Shut L0 L1 i) (he : ShutP L0 L2 y n) (hn : n = (prT y).length) : Shut L0 L2 (i + 1) := by
  intro e p hp hpi x hx ho
  have e1 : L1 = L0 := h1.eq (by have := h2.len; rw [e] at this; exact this)
  have e2 : L2 = L1 := e.trans e1.symm
  subst e2
  by_cases hpi2 : p < i
  · exact h5 e1 p hp hpi2 x hx ho
  · have : p = i := by omega
    subst this
    rw [← hy] at hx ho
    obtain ⟨q, hq, rfl⟩ := List.mem_iff_getElem.1 hx
    exact he e q hq (by omega) ho
theorem shutP_next {L0 L : List TT} {j : Nat} {y x : TT} (hj : j < (prT y).length) (hx : x = (prT y)[j]) (h : (!(hsL L x) && opB (hsL L) y) = false) (he : ShutP L0 L y j) : ShutP L0 L y (j + 1) := by
  intro e p hp hpj ho
  by_cases hpj2 : p < j
  · exact he e p hp hpj2 ho
  · have : p = j := by omega
    subst this
    rw [ho, Bool.and_true] at h
    rw [← hx]
    exact (hsL_iff L x).1 (by simpa using h)
theorem shutP_more {L0 L : List TT} {j : Nat} {y x : TT} (h : Pre L0 L) : ShutP L0 (L ++ [x]) y j := fun e => by
  have := h.len
  have h2 := congrArg List.length e
  rw [List.length_append, List.length_singleton] at h2
  omega
theorem GrowT.fin {l L0 L : List TT} (h : GrowT l L) (h1 : Pre L0 L) (hl : L.length ≤ L0.length) (hs : Shut L0 L L.length) {t : TT} {b : Bool} (hb : b = true ↔ KN l t) : t.canB (hsL L) = b := by
  have e := h1.eq hl
  exact Bool.eq_iff_iff.2 ((h.done (fun i hi x hx ho => hs e i hi hi x hx ho) t).trans hb.symm)
end Go.Proofs.Ytnkelhmfpepehaa
