import Derived.Test.YtacflmjoigffpaaGreatDoorKX3
import Derived.ScopeJumps
import Derived.ProofKit
import Derived.OpenShut
import Derived.Carry
import Derived.SizedLaws
import Derived.Lib.Bytealg
namespace Go.Proofs.YtacflmjoigffpaaGreatDoor
open Go Go.RowKit
def lab : Nat → Mem → Mm
 | _, [] => []
 | k, x :: l => (k, some x) :: lab (k + 1) l
theorem z83 : ∀ (nw : Mem) (k i : Nat), lkM (lab k nw) i = if k ≤ i then nw[i - k]? else none
 | [], k, i => by simp [lab, lkM]
 | x :: l, k, i => by
  rw [lab, y9]
  by_cases h : k = i
  ·subst h; simp
  ·rw [if_neg h, z83 l (k + 1) i]
   by_cases h2 : k ≤ i
   ·rw [if_pos (by omega), if_pos h2, show i - k = (i - (k + 1)) + 1 by omega, List.getElem?_cons_succ]
   ·rw [if_neg (by omega), if_neg h2]
def Bag (fz : Mem) (M : Mm) : Prop := ∀ i, 1000 ≤ i → lkM M i = fz[i - 1000]?
theorem zj (fz : Mem) : Bag fz (lab 1000 fz) := fun i hi => by rw [z83, if_pos hi]
theorem zq : Bag [] [] := fun i _ => by simp [lkM]
theorem zg {fz : Mem} {M : Mm} {i : Nat} {x : Option Blk} (hi : Nat.blt i 1000 = true) (h : Bag fz M) : Bag fz ((i, x) :: M) := fun j hj => by
 have : i < 1000 := by simpa using hi
 rw [y9, if_neg (by omega)]; exact h j hj
theorem z8R {fz : Mem} {M : Mm} (h : Bag fz M) : xR (lab 1000 fz) M := by
 have key : ∀ (l : Mem) (k : Nat), 1000 ≤ k → (∀ j x, l[j]? = some x → lkM M (k + j) = some x) → xR (lab k l) M := by
  intro l
  induction l with
  | nil => intro k _ _; exact trivial
  | cons x l ih =>
   intro k hk hl
   refine ⟨by simpa using hl 0 x rfl, ih (k + 1) (by omega) fun j y hy => ?_⟩
   have := hl (j + 1) y (by simpa using hy)
   rw [show k + 1 + j = k + (j + 1) by omega]; exact this
 exact key fz 1000 (Nat.le_refl _) fun j x hx => by rw [h (1000 + j) (by omega), show 1000 + j - 1000 = j by omega]; exact hx
theorem z60 {A B M : Mm} (h1 : xR A M) (h2 : xR B M) : xR (zA A B) M := by
 induction A with
 | nil => exact h2
 | cons x A ih => exact ⟨h1.1, ih h1.2⟩
theorem zft {T : Mm} : ∀ {L : Mm} {i : Nat} {x : Blk}, lkM (zA L T) i = some x → lkM L i = some x ∨ lkM T i = some x
 | [], _, _, h => .inr h
 | (s, v) :: L, i, x, h => by
  rw [zA, y9] at h
  rw [y9]
  by_cases e : s = i
  ·rw [if_pos e] at h ⊢; exact .inl h
  ·rw [if_neg e] at h ⊢; exact zft h
def z0N : Mm → Bool
 | [] => true
 | (i, _) :: L => Nat.blt i 1000 && z0N L
theorem z5w : ∀ {L : Mm} {i : Nat} {x : Blk}, z0N L = true → lkM L i = some x → i < 1000
 | [], _, _, _, h => by simp [lkM] at h
 | (s, v) :: L, i, x, hs, h => by
  rw [z0N, Bool.and_eq_true] at hs
  have : s < 1000 := by simpa using hs.1
  rw [y9] at h
  by_cases e : s = i
  ·omega
  ·rw [if_neg e] at h; exact z5w hs.2 h
theorem FitsM.bag {M L : Mm} {m m' fz nw : Mem} (hM : FitsM M m) (hb : Bag fz M) (hL : xR L M) (hs : z0N L = true) (hm : ∀ x ∈ m, x ∈ m') (hn : ∀ x ∈ nw, x ∈ m') (hnd : (nw.map (·.b)).Nodup) (hap : ∀ x ∈ nw, ∀ i y, (1000 ≤ i ∨ ∃ z, lkM L i = some z) → lkM M i = some y → y.b ≠ x.b) : FitsM (zA L (lab 1000 (fz ++ nw))) m' := by
 have look : ∀ i x, lkM (zA L (lab 1000 (fz ++ nw))) i = some x → (lkM M i = some x ∧ (1000 ≤ i ∨ ∃ z, lkM L i = some z) ∧ (1000 ≤ i → i < 1000 + fz.length)) ∨ (1000 + fz.length ≤ i ∧ nw[i - 1000 - fz.length]? = some x) := fun i x h => by
  rcases zft h with h | h
  ·have h1 := z5w hs h
   exact .inl ⟨Wa hL i x h, .inr ⟨x, h⟩, fun h2 => by omega⟩
  ·rw [z83] at h
   by_cases hi : 1000 ≤ i
   ·rw [if_pos hi] at h
    by_cases hl : i - 1000 < fz.length
    ·rw [List.getElem?_append_left hl] at h
     exact .inl ⟨by rw [hb i hi]; exact h, .inl hi, fun _ => by omega⟩
    ·rw [List.getElem?_append_right (by omega)] at h
     exact .inr ⟨by omega, h⟩
   ·rw [if_neg hi] at h; cases h
 refine ⟨fun i x h => ?_, fun i j x y hx hy hne => ?_⟩
 ·rcases look i x h with ⟨h1, _⟩ | ⟨_, h1⟩
  ·exact hm x (hM.has i x h1)
  ·exact hn x (List.mem_of_getElem? h1)
 ·rcases look i x hx with ⟨h1, g1, _⟩ | ⟨h0, h1⟩
  ·rcases look j y hy with ⟨h2, _, _⟩ | ⟨_, h2⟩
   ·exact hM.apart i j x y h1 h2 hne
   ·exact hap y (List.mem_of_getElem? h2) i x g1 h1
  ·rcases look j y hy with ⟨h2, g2, _⟩ | ⟨h3, h2⟩
   ·exact fun e => hap x (List.mem_of_getElem? h1) j y g2 h2 e.symm
   ·intro e
    have l1 := (List.getElem?_eq_some_iff.1 h1).1
    have l2 := (List.getElem?_eq_some_iff.1 h2).1
    have q1 : (nw.map (·.b))[i - 1000 - fz.length]? = some x.b := by rw [List.getElem?_map, h1]; rfl
    have q2 : (nw.map (·.b))[j - 1000 - fz.length]? = some x.b := by rw [List.getElem?_map, h2, e]; rfl
    have := (List.getElem?_inj (by simpa using l1) hnd).1 (q1.trans q2.symm)
    omega
section
variable {P : Program} {G : Mem} {R : Reg} {ops : Array Oper} {n : Nat} {K : Env → Mm → Prop} {Q : Exit → Env → Mm → Prop} {rest : List Oper} {E : Env} {M : Mm} {d : Nat} {ty : TypeId} {pos : String} {aft : Array Edge}
variable {T T' : TypeId} {x y : Operand}
theorem zcb {i : Nat} (hX : R.X = []) (hL : R.L = none := by rfl) : Zb M i [] R := by
 unfold Zb
 rw [hL]
 show okX M i [] R.X
 rw [hX]
 trivial
theorem zR {fz : Mem} (hb : Bag fz M) (hX : R.X = []) (hL : R.L = none := by rfl) : SeenE G R M fz := fun z hz => by
 obtain ⟨j, hj⟩ := List.getElem?_of_mem hz
 exact .inr ⟨1000 + j, by rw [hb _ (by omega), show 1000 + j - 1000 = j by omega]; exact hj, [], zcb hX hL⟩
theorem yf (L : Mm) {fz : Mem} {fo : Operand} {f : FuncId} {args : Array Operand} {tys : Array TypeId} {vs cap : List Value} {g' : Mem} {S : Value → Mem → Prop} (hb : Bag fz M) (hL : xR L M) (hs : z0N L = true) (hf : rd E fo = some (.func (.func f) #[] cap.toArray)) (hargs : rdl E args.toList = some vs) (he : xr P f = true) (hg : SeenE G R M g')
  (hF : Fx P g' [] f (vs ++ cap).toArray (fun v l1 nw => l1 = [] ∧ S v nw)) (hS : ∀ m' : Mem, ∃ v nw, S v nw ∧ FreshM m' nw) (hd : Nat.blt d n = true) (hR : z0G R = true)
  (h : ∀ v nw, S v nw → z4 P G R ops n K rest ((d, v) :: E) (zA L (lab 1000 (fz ++ nw)))) : z4 P G R ops n K (⟨some d, .call ⟨.value fo, args, tys⟩, ty, pos, aft, none⟩ :: rest) E M :=
 fun _ m ha hM => by
  refine z1V hR (S := S) (ha.rd hf) (ha.args hargs) he (by simpa using hF) hS (fun w hG hv q hq => (hg.seen hM).rin hG hv hq) ?_
  intro v nw hSv hfr
  exact h v nw hSv _ _ (ha.put hd _) (hM.bag hb hL hs (fun x hx => List.mem_append_left _ hx) (fun x hx => List.mem_append_right _ hx) hfr.1 fun x hx i y _ hy => hfr.2 x hx y (hM.has i y hy))
theorem FitsM.freeze {L : Mm} {m fz : Mem} (hM : FitsM M m) (i : Nat) {oz : Option Blk} (hi : lkM M i = oz) (h1 : Nat.blt i 1000 = true) (hb : Bag fz M) (hL : xR L M) (hs : z0N L = true) (hn : lkM L i = none) : FitsM (zA L (lab 1000 (fz ++ oz.toList))) m := by
 have h1' : i < 1000 := by simpa using h1
 cases oz with
 | none => exact hM.bag hb hL hs (fun _ h => h) (fun x hx => by simp at hx) (by simp) (fun x hx => by simp at hx)
 | some z =>
  refine hM.bag hb hL hs (fun _ h => h) (fun x hx => ?_) (by simp) fun x hx j y hj hy => ?_
  ·simp at hx; subst hx; exact hM.has i x hi
  ·simp at hx; subst hx
   refine hM.apart j i y x hy hi fun e => ?_
   subst e
   rcases hj with hj | ⟨q, hq⟩
   ·omega
   ·rw [hn] at hq; cases hq
theorem xJ (i : Nat) (L : Mm) {l : List Oper} {fz : Mem} {oz : Option Blk} (hi : lkM M i = oz) (h1 : Nat.blt i 1000 = true) (hb : Bag fz M) (hL : xR L M) (hs : z0N L = true) (hn : lkM L i = none) (h : z4 P G R ops n K l E (zA L (lab 1000 (fz ++ oz.toList)))) : z4 P G R ops n K l E M :=
 fun _ _ ha hM => h _ _ ha (hM.freeze i hi h1 hb hL hs hn)
theorem VU {c : Code} (Ek : Env) (Mk : Mm) (I : Nat → Env → Mm → Mem → Prop) {E0 : Env} {M0 : Mm} {fz : Mem} {k : Nat} (h0 : I k E0 M0 fz) (hs : sub (zB E0 Ek) E) (hl : xR (zA M0 Mk) M) (hb : Bag fz M)
  (round : ∀ k E M fz, I k E M fz → zZ P G c n (z2c (fun E' M' => ∃ k' E'' M'' fz', k' < k ∧ sub (zB E'' Ek) E' ∧ xR (zA M'' Mk) M' ∧ Bag fz' M' ∧ I k' E'' M'' fz') Q) (zB E Ek) (zA (zA M Mk) (lab 1000 fz))) : zZ P G (.loop c) n Q E M :=
 z8n (fun k E M => ∃ E1 M1 fz, E = zB E1 Ek ∧ M = zA (zA M1 Mk) (lab 1000 fz) ∧ I k E1 M1 fz) (zB E0 Ek) (zA (zA M0 Mk) (lab 1000 fz)) k hs (z60 hl (z8R hb)) ⟨_, _, _, rfl, rfl, h0⟩ fun k E M ⟨E1, M1, fz, e1, e2, hI⟩ => by
  subst e1 e2
  intro a m ha hM
  refine yh (round k E1 M1 fz hI a m ha hM) fun e a' m' ⟨E', M', h1, h2, h3⟩ => ⟨E', M', h1, h2, ?_⟩
  cases e with
  | normal =>
   obtain ⟨k', E'', M'', fz', q1, q2, q3, q5, q4⟩ := h3
   exact ⟨k', _, _, q1, q2, z60 q3 (z8R q5), _, _, _, rfl, rfl, q4⟩
  | _ => exact h3
theorem X9 {Ek : Env} {Mk : Mm} {I : Nat → Env → Mm → Mem → Prop} {k k' : Nat} {E' E'' : Env} {M' M'' : Mm} {fz' : Mem} (h : I k' E'' M'' fz') (hs : sub (zB E'' Ek) E') (hl : xR (zA M'' Mk) M') (hb : Bag fz' M') (hk : k' < k) : ∃ k' E'' M'' fz', k' < k ∧ sub (zB E'' Ek) E' ∧ xR (zA M'' Mk) M' ∧ Bag fz' M' ∧ I k' E'' M'' fz' := ⟨_, _, _, _, hk, hs, hl, hb, h⟩
end
section
variable {P : Program} {G : Mem} {R : Reg} {ops : Array Oper} {n : Nat} {K : Env → Mm → Prop} {Q : Exit → Env → Mm → Prop} {E : Env} {M : Mm}
theorem z8Z {A B F : Env} (h1 : sub A F) (h2 : sub B F) : sub (zB A B) F := by
 induction A with
 | nil => exact h2
 | cons x A ih => exact ⟨h1.1, ih h1.2⟩
theorem zW (Fk Fn : Env) (Nk : Mm) {l : List Oper} (_hk : sub Fk E) (_hn : xR Nk M) (h : z4 P G R ops n (fun E' M' => sub Fk E' ∧ sub Fn E' ∧ xR Nk M') l E M) (hK : K (zB Fn Fk) Nk) : z4 P G R ops n K l E M :=
 fun a m ha hM => Vm (fun _ _ ⟨_, _, h1, h2, h3, h4, h5⟩ => ⟨_, _, h1.sub (z8Z h4 h3), h2.sub h5, hK⟩) l (h a m ha hM)
def znQ (Fk Fn : Env) (Nk : Mm) (Q : Exit → Env → Mm → Prop) : Exit → Env → Mm → Prop
 | .normal, E', M' => sub Fk E' ∧ sub Fn E' ∧ xR Nk M'
 | e, E', M' => Q e E' M'
theorem z1k (Fk Fn : Env) (Nk : Mm) {c : Code} (_hk : sub Fk E) (_hn : xR Nk M) (h : zZ P G c n (znQ Fk Fn Nk Q) E M) (hK : Q .normal (zB Fn Fk) Nk) : zZ P G c n Q E M :=
 fun a m ha hM => yh (h a m ha hM) fun e _ _ ⟨E', M', h1, h2, h3⟩ => by
  cases e with
  | normal => exact ⟨_, _, h1.sub (z8Z h3.2.1 h3.1), h2.sub h3.2.2, hK⟩
  | _ => exact ⟨E', M', h1, h2, h3⟩
theorem zM {l : List Oper} {s : Nat} {b : Bool} (ht : b = true → z4 P G R ops n K l ((s, .bool true) :: E) M) (hf : b = false → z4 P G R ops n K l ((s, .bool false) :: E) M) : z4 P G R ops n K l ((s, .bool b) :: E) M := by
 cases b with
 | true => exact ht rfl
 | false => exact hf rfl
theorem zf {b b' : Bool} (h : b = b') : some (Value.bool b) = some (Value.bool b') := by rw [h]
end
theorem YW {e : TypeId} {z r : Nat} : OwnS e z (.slice (some ⟨r, 0, none⟩) 0 0) 0 [] [⟨r, #[], e⟩] := .inr ⟨r, 0, #[], rfl, rfl, Nat.le_refl _, by decide, by simp, by simp, by simp⟩
theorem z5b {P : Program} {G : Mem} {R : Reg} {ops : Array Oper} {K : Act → Mem → Prop} {rest : List Oper} {a : Act} {m : Mem} {d : Option Tmp} {ty T : TypeId} {pos : String} {aft : Array Edge} {z : Nat} {e : TypeId} (hT : P.underlying T = some (.slice e)) (hs : (P.info? e).map (·.size) = some z)
  (h : ∀ r, (∀ x ∈ m, x.b ≠ r) → zd P G R ops K rest (a.put d (.slice (some ⟨r, 0, none⟩) 0 0)) (m ++ [⟨r, #[], e⟩])) : zd P G R ops K (⟨d, .buildSlice T 0 #[], ty, pos, aft, none⟩ :: rest) a m :=
 .inr ⟨rfl, #[], e, fun r => .slice (some ⟨r, 0, none⟩) 0 0, fun w => by
  cases hi : P.info? e with
  | none => simp [hi] at hs
  | some j =>
   simp only [execOp, Instr.buildSlice, zeroValue, typeInfo, underlying, program, sizeOf, newRow, newObj]
   simp [Sem.run, hT, hi, Instr.fill]
   congr 2
   apply Array.ext
   ·simp
   ·intro i h1 h2
    simp at h2, h⟩
theorem Zc {P : Program} {G : Mem} {R : Reg} {ops : Array Oper} {n : Nat} {K : Env → Mm → Prop} {rest : List Oper} {E : Env} {M : Mm} {d : Nat} {ty T : TypeId} {pos : String} {aft : Array Edge} (i : Nat) {z : Nat} {e : TypeId} (hT : P.underlying T = some (.slice e)) (hs : (P.info? e).map (·.size) = some z) (hd : Nat.blt d n = true)
  (h : ∀ r, z4 P G R ops n K rest ((d, .slice (some ⟨r, 0, none⟩) 0 0) :: E) ((i, some ⟨r, #[], e⟩) :: M)) : z4 P G R ops n K (⟨some d, .buildSlice T 0 #[], ty, pos, aft, none⟩ :: rest) E M :=
 fun _ _ ha hM => z5b hT hs fun r hr => h r _ _ (ha.put hd _) (hM.alloc i ⟨r, #[], e⟩ hr)
section
variable {P : Program} {G : Mem} {n : Nat}
theorem FitsM.bag_in {M : Mm} {m fz : Mem} (hM : FitsM M m) (hb : Bag fz M) : (fz.map (·.b)).Nodup ∧ ∀ x ∈ fz, x ∈ m := by
 have at_ : ∀ j x, fz[j]? = some x → lkM M (1000 + j) = some x := fun j x hx => by rw [hb _ (by omega), show 1000 + j - 1000 = j by omega]; exact hx
 refine ⟨?_, fun x hx => by
  obtain ⟨j, hj⟩ := List.getElem?_of_mem hx
  exact hM.has _ x (at_ j x hj)⟩
 unfold List.Nodup
 rw [List.pairwise_iff_getElem]
 intro i j hi hj hij e
 have hi' : i < fz.length := by simpa using hi
 have hj' : j < fz.length := by simpa using hj
 have h1 : fz[i]? = some fz[i] := List.getElem?_eq_getElem hi'
 have h2 : fz[j]? = some fz[j] := List.getElem?_eq_getElem hj'
 exact hM.apart _ _ _ _ (at_ i _ h1) (at_ j _ h2) (by omega) (by simpa using e)
def zor (P : Program) (S : Value → Mem → Prop) (fn : Func) : Exit → Env → Mm → Prop
 | .normal, E, M | .ret, E, M => ∃ r v fz, fn.results = #[r] ∧ Res P E M r v ∧ S v fz ∧ Bag fz M
 | _, _, _ => False
def zmR (P : Program) (S : Value → Mem → Prop) (u : Value) (fn : Func) : Exit → Env → Mm → Prop
 | .normal, E, M | .ret, E, M => ∃ r r' v fz, fn.results = #[r, r'] ∧ Res P E M r v ∧ Res P E M r' u ∧ S v fz ∧ Bag fz M
 | _, _, _ => False
theorem fxD {f : FuncId} {fn : Func} {c : Code} {args : Array Value} {S : Value → Mem → Prop} (hf : P.funcs[f]? = some fn) (hb : fn.body = some c) (hn : fn.ntmps = n) (ha : args.size ≤ n) (E : Env) (hE : ∀ t v, lk E t = some v → args[t]? = some v)
  (h : zZ P G c n (zor P S fn) E []) : Fx P G [] f args (fun v l1 nw => l1 = [] ∧ S v nw) :=
 XE hf hb (yh (h _ [] ⟨by simp [hn]; omega, rfl, fun t v ht => by
  have := hE t v ht
  have hlt := (Array.getElem?_eq_some_iff.1 this).1
  rw [Array.getElem?_append_left hlt]; exact this⟩ (FitsM.nil _)) fun e' a m ⟨E', M', h1, h0, h2⟩ => by
   have key : (∃ r v fz, fn.results = #[r] ∧ Res P E' M' r v ∧ S v fz ∧ Bag fz M') → a.defers = [] ∧ ∃ v l1 nw, (l1 = [] ∧ S v nw) ∧ (nw.map (·.b)).Nodup ∧ (∀ x ∈ nw, x.b ∉ ([] : Mem).map (·.b)) ∧ (∀ x ∈ l1 ++ nw, x ∈ m) ∧ ∀ w, MemIn m w → (results fn a.tmps).run P w = .ok v w := fun ⟨r, v, fz, hr, hR, ho, hb⟩ =>
    ⟨h1.defers, v, [], fz, ⟨rfl, ho⟩, (h0.bag_in hb).1, by simp, fun x hx => (h0.bag_in hb).2 x (by simpa using hx), fun w hw => by
     have := yx h1 h0 hw hR
     rw [yp, hr, z9D]
     simp [this]⟩
   cases e' <;> first | exact key h2 | exact h2.elim)
theorem zf1 {f : FuncId} {fn : Func} {c : Code} {args : Array Value} {S : Value → Mem → Prop} {u : Value} (hf : P.funcs[f]? = some fn) (hb : fn.body = some c) (hn : fn.ntmps = n) (ha : args.size ≤ n) (E : Env) (hE : ∀ t v, lk E t = some v → args[t]? = some v)
  (h : zZ P G c n (zmR P S u fn) E []) : Fx P G [] f args (fun v l1 nw => l1 = [] ∧ ∃ v', v = .tuple #[v', u] ∧ S v' nw) :=
 XE hf hb (yh (h _ [] ⟨by simp [hn]; omega, rfl, fun t v ht => by
  have := hE t v ht
  have hlt := (Array.getElem?_eq_some_iff.1 this).1
  rw [Array.getElem?_append_left hlt]; exact this⟩ (FitsM.nil _)) fun e' a m ⟨E', M', h1, h0, h2⟩ => by
   have key : (∃ r r' v fz, fn.results = #[r, r'] ∧ Res P E' M' r v ∧ Res P E' M' r' u ∧ S v fz ∧ Bag fz M') → a.defers = [] ∧ ∃ v l1 nw, (l1 = [] ∧ ∃ v', v = Value.tuple #[v', u] ∧ S v' nw) ∧ (nw.map (·.b)).Nodup ∧ (∀ x ∈ nw, x.b ∉ ([] : Mem).map (·.b)) ∧ (∀ x ∈ l1 ++ nw, x ∈ m) ∧ ∀ w, MemIn m w → (results fn a.tmps).run P w = .ok v w := fun ⟨r, r', v, fz, hr, hR, hR', ho, hb⟩ =>
    ⟨h1.defers, .tuple #[v, u], [], fz, ⟨rfl, v, rfl, ho⟩, (h0.bag_in hb).1, by simp, fun x hx => (h0.bag_in hb).2 x (by simpa using hx), fun w hw => by
     have := yx h1 h0 hw hR
     have t' := yx h1 h0 hw hR'
     rw [yp, hr, za1]
     simp [this, t']⟩
   cases e' <;> first | exact key h2 | exact h2.elim)
end
end Go.Proofs.YtacflmjoigffpaaGreatDoor
namespace Go.Proofs.YtacflmjoigffpaaGreatDoor
open Go Go.RowKit
section
variable {P : Program} {G : Mem} {R : Reg} {ops : Array Oper} {K : Act → Mem → Prop} {rest : List Oper} {a : Act} {m : Mem} {d : Option Tmp} {ty : TypeId} {pos : String} {aft : Array Edge}
variable {T T' : TypeId} {x : Operand}
theorem z6Y {k : IntKind} {dk : TypeDesc} {z : Int} (hv : wj R T T' = 1) (hs : P.underlying T = some dk) (ht : P.underlying T' = some (.int .u64)) (hx : a.eval x = .int k z)
  (h : zd P G R ops K rest (a.put d (u (z % 18446744073709551616).toNat)) m) : zd P G R ops K (⟨d, .convert T T' x, ty, pos, aft, none⟩ :: rest) a m :=
 Yi hv (v := u (z % 18446744073709551616).toNat) (fun w _ _ => by
  have e : (((z % 18446744073709551616).toNat : Nat) : Int) = z % 18446744073709551616 := by omega
  simp only [execOp, convert, underlying, program, hx]
  simp [Sem.run, hs, ht, Conv.intToInt, xG, e]) h
end
section
variable {P : Program} {G : Mem} {R : Reg} {ops : Array Oper} {n : Nat} {K : Env → Mm → Prop} {rest : List Oper} {E : Env} {M : Mm} {d : Nat} {ty : TypeId} {pos : String} {aft : Array Edge}
variable {T T' : TypeId} {x : Operand}
theorem Xn {k : IntKind} {dk : TypeDesc} {z : Int} (hs : P.underlying T = some dk) (ht : P.underlying T' = some (.int .u64)) (hx : rd E x = some (.int k z)) (hd : Nat.blt d n = true) (hv : wj R T T' = 1)
  (h : z4 P G R ops n K rest ((d, u (z % 18446744073709551616).toNat) :: E) M) : z4 P G R ops n K (⟨some d, .convert T T' x, ty, pos, aft, none⟩ :: rest) E M := fun _ _ ha hM => z6Y hv hs ht (ha.rd hx) (h _ _ (ha.put hd _) hM)
end
theorem zgs {ps : List y7} {k o l kk j0 : Nat} {F : Nat → Value} (A : Nat → Value) (h : xV ps k = some (o, l, F)) (hk : j0 + kk ≤ l) (i : Nat) : wL (yT ps) (o + j0) kk A i = yT (wY ps k (wL F j0 kk A)) i := by
 rw [← z06 _ h i]
 unfold wL
 by_cases h1 : o + j0 ≤ i ∧ i < o + j0 + kk
 ·rw [if_pos h1, if_pos (by omega)]
  show A (i - (o + j0)) = if j0 ≤ i - o ∧ i - o < j0 + kk then A (i - o - j0) else F (i - o)
  rw [if_pos (by omega), show i - o - j0 = i - (o + j0) by omega]
 ·rw [if_neg h1]
  by_cases h2 : o ≤ i ∧ i < o + l
  ·rw [if_pos h2]
   show yT ps i = if j0 ≤ i - o ∧ i - o < j0 + kk then A (i - o - j0) else F (i - o)
   rw [if_neg (by omega)]
   have := vu h (i - o) (by omega)
   rw [← this]; congr 1; omega
  ·rw [if_neg h2]
theorem z8z (f : Nat → Nat) (j0 kk : Nat) (l : List Nat) (hk : kk ≤ l.length) : wL (fun i => .int .u8 (f i : Int)) j0 kk (fun j => (l.map by8).getD j undef) = fun i => .int .u8 ((if j0 ≤ i ∧ i < j0 + kk then l.getD (i - j0) 0 else f i : Nat) : Int) := by
 funext i
 unfold wL
 by_cases h : j0 ≤ i ∧ i < j0 + kk
 ·rw [if_pos h, if_pos h]
  have : i - j0 < l.length := by omega
  simp [List.getD_eq_getElem?_getD, List.getElem?_eq_getElem this]
 ·rw [if_neg h, if_neg h]
section
variable {P : Program} {G : Mem} {R : Reg} {ops : Array Oper} {n : Nat} {K : Env → Mm → Prop} {rest : List Oper} {E : Env} {M : Mm} {d : Nat} {ty : TypeId} {pos : String} {aft : Array Edge}
variable {T T' : TypeId} {x y : Operand}
theorem z5R (k j0 : Nat) {e : TypeId} {b o oc N dl cap i L : Nat} {f : Nat → Nat} {ps : List y7} {t : TypeId} {l : List Nat} {B : Mem} {vy : Value} (hT : P.underlying T = some (.slice e)) (hs : (P.info? e).map (·.size) = some 1) (hsrc : Shows B 1 vy l.length (l.map by8)) (hB : SeenE G R M B)
  (hx : rd E x = some (.slice (some ⟨b, oc, none⟩) dl cap)) (hy : rd E y = some vy) (hm : lkM M i = some ⟨b, zr N ps, t⟩) (hk : xV ps k = some (o, pI .u8 L f)) (hoc : oc = o + j0) (hL : j0 + dl ≤ L) (ho : o + L ≤ N) (hd : Nat.blt d n = true)
  (h : z4 P G R ops n K rest ((d, ii (min l.length dl)) :: E) ((i, some ⟨b, zr N (wY ps k (fun i => .int .u8 ((if j0 ≤ i ∧ i < j0 + min l.length dl then l.getD (i - j0) 0 else f i : Nat) : Int))), t⟩) :: M)) (hL : R.L = none := by rfl) : z4 P G R ops n K (⟨some d, .call ⟨.builtin .copy, #[x, y], #[T, T']⟩, ty, pos, aft, none⟩ :: rest) E M := by
 subst hoc
 refine z93 (hL := hL) (F := yT ps) hT hs hsrc hB (fun u hu => by obtain ⟨n, _, rfl⟩ := List.mem_map.1 hu; rfl) hx hy hm (by omega) hd ?_
 rw [funext (zgs _ hk (by omega)), z8z f j0 _ l (by omega)]
 exact h
end
theorem Fn.more {P : Program} {G G' : Mem} {f : FuncId} {args : Array Value} {v : Value} (h : Fn P G f args v) (hG : ∀ x ∈ G, x ∈ G') : Fn P G' f args v := fun w hw => h w (fun x hx => hw x (hG x hx))
end Go.Proofs.YtacflmjoigffpaaGreatDoor
namespace Go.Proofs.YtacflmjoigffpaaGreatDoor
open Go Go.RowKit
section
variable {P : Program} {G : Mem} {R : Reg} {ops : Array Oper} {K : Act → Mem → Prop} {rest : List Oper} {a : Act} {m : Mem} {d : Option Tmp} {ty : TypeId} {pos : String} {aft : Array Edge}
variable {T T' : TypeId} {x y : Operand}
theorem zhJ {p : Nat} (hp : p ≤ 15) (hx : a.eval x = ii p) (hy : a.eval y = ii 1) (h : zd P G R ops K rest (a.put d (ii (p % 2))) m) :
  zd P G R ops K (⟨d, .binOp .and T x y T', ty, pos, aft, none⟩ :: rest) a m :=
 zI (fun w => by
  rw [hx, hy]
  have : p = 0 ∨ p = 1 ∨ p = 2 ∨ p = 3 ∨ p = 4 ∨ p = 5 ∨ p = 6 ∨ p = 7 ∨ p = 8 ∨ p = 9 ∨ p = 10 ∨ p = 11 ∨ p = 12 ∨ p = 13 ∨ p = 14 ∨ p = 15 := by omega
  rcases this with rfl | rfl | rfl | rfl | rfl | rfl | rfl | rfl | rfl | rfl | rfl | rfl | rfl | rfl | rfl | rfl <;> rfl) h
theorem zdC {p q : Nat} (hx : a.eval x = uw p) (hy : a.eval y = uw q) (h : zd P G R ops K rest (a.put d (uw ((p * q) % 4294967296))) m) :
  zd P G R ops K (⟨d, .binOp .mul T x y T', ty, pos, aft, none⟩ :: rest) a m :=
 zI (fun w => by simp [hx, hy, eqGuard, binOp, Op.intArith, vv]) h
theorem zaN (hR : yJ R = true) {f : FuncId} {args : Array Operand} {tys : Array TypeId} {vs : Array Value} {v : Value} (hargs : args.map a.eval = vs) (hr : ∀ w, MemR G w → (callFunc f vs).run P w = .ok (.value v) w)
  (h : zd P G R ops K rest (a.put d v) m) : zd P G R ops K (⟨d, .call ⟨.value (.func f), args, tys⟩, ty, pos, aft, none⟩ :: rest) a m :=
 .inr ⟨rfl, Xi hR (v := v) (fun w hG _ => .inl (by
  have := hr w hG
  have e1 : a.eval (.func f) = .func (.func f) #[] #[] := rfl
  simp only [execOp, resolve, e1, hargs, Deferred.ofValue, invoke]
  simp [this])) h⟩
end
section
variable {P : Program} {G : Mem} {R : Reg} {ops : Array Oper} {n : Nat} {K : Env → Mm → Prop} {rest : List Oper} {E : Env} {M : Mm} {d : Nat} {ty : TypeId} {pos : String} {aft : Array Edge}
variable {T T' : TypeId} {x y : Operand}
theorem zdJ {p : Nat} (hp : p ≤ 15) (hx : rd E x = some (ii p)) (hy : rd E y = some (ii 1)) (hd : Nat.blt d n = true) (h : z4 P G R ops n K rest ((d, ii (p % 2)) :: E) M) :
  z4 P G R ops n K (⟨some d, .binOp .and T x y T', ty, pos, aft, none⟩ :: rest) E M := fun _ _ ha hM => zhJ hp (ha.rd hx) (ha.rd hy) (h _ _ (ha.put hd _) hM)
theorem Y6 {p q : Nat} (hx : rd E x = some (uw p)) (hy : rd E y = some (uw q)) (hd : Nat.blt d n = true) (h : z4 P G R ops n K rest ((d, uw ((p * q) % 4294967296)) :: E) M) :
  z4 P G R ops n K (⟨some d, .binOp .mul T x y T', ty, pos, aft, none⟩ :: rest) E M := fun _ _ ha hM => zdC (ha.rd hx) (ha.rd hy) (h _ _ (ha.put hd _) hM)
theorem YD {f : FuncId} {args : Array Operand} {tys : Array TypeId} {vs : List Value} {v : Value} (hargs : rdl E args.toList = some vs) (hr : ∀ w, MemR G w → (callFunc f vs.toArray).run P w = .ok (.value v) w) (hd : Nat.blt d n = true) (hR : yJ R = true)
  (h : z4 P G R ops n K rest ((d, v) :: E) M) : z4 P G R ops n K (⟨some d, .call ⟨.value (.func f), args, tys⟩, ty, pos, aft, none⟩ :: rest) E M :=
 fun _ _ ha hM => zaN hR (ha.args hargs) hr (h _ _ (ha.put hd _) hM)
end
end Go.Proofs.YtacflmjoigffpaaGreatDoor
namespace Go.Proofs.YtacflmjoigffpaaGreatDoor
open Go Go.RowKit
def Eqv (P : Program) (dp : Nat) (t : TypeId) (v u : Value) (b : Bool) : Prop := ∀ w, (Op.equalIn dp t v u).run P w = .ok b w
section
variable {P : Program}
theorem ziC {dp : Nat} {t : TypeId} {k k' : IntKind} {z y : Int} (h : P.underlying t = some (.int k')) : Eqv P (dp + 1) t (.int k z) (.int k y) (z == y) := fun w => run_equalIn_int w dp t k k' z y h
theorem zgV {dp : Nat} {t : TypeId} {z y : Bool} (h : P.underlying t = some .bool) : Eqv P (dp + 1) t (.bool z) (.bool y) (z == y) := fun w => run_equalIn_bool' w dp t z y h
theorem zii {dp : Nat} {t e : TypeId} {k k' : IntKind} {l : Nat} {f g : Nat → Nat} (hT : P.underlying t = some (.array l e)) (he : P.underlying e = some (.int k')) (hs : (P.info? e).map (·.size) = some 1) : Eqv P (dp + 2) t (.agg (arr k l f)) (.agg (arr k l g)) (y4 l f g) := fun w => vM hT he hs w
def zkZ (P : Program) (dp N : Nat) (ps qs : List y7) : List Field → List Bool → Prop
 | [], [] => True
 | f :: fs, b :: bs => (f.name ≠ "_" ∧ ∃ v u, z0A P ps N f v ∧ z0A P qs N f u ∧ Eqv P dp f.type v u b) ∧ zkZ P dp N ps qs fs bs
 | _, _ => False
theorem z1T {dp N : Nat} {ps qs : List y7} : ∀ (fs : List Field) (bs : List Bool), zkZ P dp N ps qs fs bs → ∀ w, (Op.eqFields dp (zr N ps) (zr N qs) fs).run P w = .ok (bs.all id) w
 | [], [], _, w => by simp [Op.eqFields]
 | [], _ :: _, h, _ => h.elim
 | _ :: _, [], h, _ => h.elim
 | f :: fs, b :: bs, h, w => by
  obtain ⟨⟨hn, v, u, h1, h2, h3⟩, h4⟩ := h
  have ih := z1T fs bs h4 w
  simp only [Op.eqFields]
  rw [if_pos hn]
  simp only [Sem.run_bind, h1 w, h2 w, h3 w, Result.andThen_ok]
  cases b
  ·simp
  ·simpa using ih
theorem z7S {dp : Nat} {t : TypeId} {ps qs : List y7} {N : Nat} {fs : Array Field} {bs : List Bool} (ht : P.underlying t = some (.struct fs)) (hp : P.stoodInHeld t = false) (h : zkZ P dp N ps qs fs.toList bs) : Eqv P (dp + 1) t (.agg (zr N ps)) (.agg (zr N qs)) (bs.all id) := fun w => by
 have hf : P.fieldsOf t = fs := by simp [Program.fieldsOf, ht]
 rw [run_equalIn_struct w dp t _ _ (by rw [hf]; exact ht) hp, hf]
 exact z1T fs.toList bs h w
end
section
variable {P : Program} {G : Mem} {R : Reg} {ops : Array Oper} {n : Nat} {K : Env → Mm → Prop} {rest : List Oper} {E : Env} {M : Mm} {d : Nat} {ty : TypeId} {pos : String} {aft : Array Edge}
variable {T T' : TypeId} {x y : Operand}
theorem zd0 {c c' : Array Value} {b : Bool} (hs : Eqv P 10000 T (.agg c) (.agg c') b) (hg : P.eqGuardType P.depth T = false) (hx : rd E x = some (.agg c)) (hy : rd E y = some (.agg c')) (hd : Nat.blt d n = true) (h : z4 P G R ops n K rest ((d, .bool (!b)) :: E) M) : z4 P G R ops n K (⟨some d, .binOp .neq T x y T', ty, pos, aft, none⟩ :: rest) E M :=
 fun _ _ ha hM => zI (fun w => by
  rw [ha.rd hx, ha.rd hy]
  simp only [Sem.run_bind, run_eqGuard_agg w .neq T x y _ _ hg, Result.andThen_ok, run_neq_struct, hs w]) (h _ _ (ha.put hd _) hM)
end
end Go.Proofs.YtacflmjoigffpaaGreatDoor
namespace Go.Proofs.YtacflmjoigffpaaGreatDoor
open Go Go.RowKit
section
variable {P : Program} {G : Mem} {R : Reg} {ops : Array Oper} {K : Act → Mem → Prop} {rest : List Oper} {a : Act} {m : Mem} {d : Option Tmp} {ty T T' : TypeId} {pos : String} {aft : Array Edge} {x y : Operand}
end
section
variable {P : Program} {G : Mem} {R : Reg} {ops : Array Oper} {n : Nat} {K : Env → Mm → Prop} {rest : List Oper} {E : Env} {M : Mm} {d : Nat} {ty : TypeId} {pos : String} {aft : Array Edge}
variable {T T' : TypeId} {x y : Operand}
theorem z92 {M : Mm} {i : Nat} : ∀ {js xs ks ys : List Nat}, okX M i js xs → okX M i ks ys → okX M i (js ++ ks) (xs ++ ys)
 | [], [], _, _, _, h => h
 | _ :: _, _ :: _, _, _, ⟨h1, h2, h3⟩, h => ⟨h1, h2, z92 h3 h⟩
 | [], _ :: _, _, _, h, _ => h.elim
 | _ :: _, [], _, _, h, _ => h.elim
theorem z30 {M : Mm} {i : Nat} (hi : i < 1000) : ∀ (l : Mem) (k : Nat), 1000 ≤ k → (∀ (j : Nat) z, l[j]? = some z → lkM M (k + j) = some z) → ∃ ks, okX M i ks (l.map Blk.b)
 | [], _, _, _ => ⟨[], trivial⟩
 | z :: l, k, hk, h => by
  obtain ⟨ks, hks⟩ := z30 hi l (k + 1) (by omega) fun j y hy => by
   have := h (j + 1) y (by simpa using hy)
   rw [show k + 1 + j = k + (j + 1) by omega]; exact this
  refine ⟨k :: ks, ?_, ?_, hks⟩
  ·cases e : Nat.beq k i with
   | false => rfl
   | true => have := Nat.eq_of_beq_eq_true e; omega
  ·have := h 0 z rfl
   rw [Nat.add_zero] at this
   rw [this]; rfl
theorem zag {fz : Mem} {i : Nat} {js l : List Nat} (hi : Nat.blt i 1000 = true) (hb : Bag fz M) (h : okX M i js l) : OffL M i (some (l ++ fz.map Blk.b)) := by
 have hi : i < 1000 := by simpa using hi
 obtain ⟨ks, hks⟩ := z30 (M := M) hi fz 1000 (Nat.le_refl _) fun j z hz => by rw [hb _ (by omega), show 1000 + j - 1000 = j by omega]; exact hz
 exact ⟨js ++ ks, z92 h hks⟩
end
end Go.Proofs.YtacflmjoigffpaaGreatDoor
namespace Go.Proofs.YtacflmjoigffpaaGreatDoor
open Go Go.RowKit
section
variable {P : Program} {G : Mem} {R : Reg} {ops : Array Oper} {K : Act → Mem → Prop} {rest : List Oper} {a : Act} {m : Mem} {d : Option Tmp} {ty T T' : TypeId} {pos : String} {aft : Array Edge} {x y : Operand}
theorem z6G {q : Addr} (hx : a.eval x = .pointer (some q)) (h : zd P G R ops K rest (a.put d (.pointer (some q))) m) : zd P G R ops K (⟨d, .nilCheck x, ty, pos, aft, none⟩ :: rest) a m :=
 zP (v := .pointer (some q)) rfl rfl (fun w => by simp only [execOp, hx]; rfl) h
end
section
variable {P : Program} {G : Mem} {R : Reg} {ops : Array Oper} {K : Act → Mem → Prop} {rest : List Oper} {a : Act} {m : Mem} {d : Option Tmp} {ty T T' : TypeId} {pos : String} {aft : Array Edge} {x y : Operand}
theorem zjk {j n : Nat} {k2 : IntKind} {e : TypeId} {F : Nat → Value} {td : TypeDesc} (hT : P.underlying T = some (.array n e)) (he : P.underlying e = some td) (hn : zE td = false) (hs : (P.info? e).map (·.size) = some 1) (hx : a.eval x = .agg (zO n F)) (hy : a.eval y = .int k2 (j : Int)) (hj : j < n)
  (h : zd P G R ops K rest (a.put d (F j)) m) : zd P G R ops K (⟨d, .index T x y, ty, pos, aft, none⟩ :: rest) a m :=
 zP (v := F j) rfl rfl (fun w => by
  cases hi : P.info? e with
  | none => simp [hi] at hs
  | some i =>
   have hsz : i.size = 1 := by simpa [hi] using hs
   have h0 : (0 : Int) ≤ j ∧ (j : Int) < n := by omega
   have hp : (part e (zO n F) j).run P w = .ok (F j) w := by
    unfold part
    simp [yY he, hn, yB hj]
   simp only [execOp, Instr.index, hx, hy, asIntOf, underlying, program, sizeOf, typeInfo]
   simp [Sem.run, hT, hi, hsz, hj, hp]) h
end
theorem FitsM.more {M : Mm} {m m' : Mem} (hM : FitsM M m) (h : ∀ x ∈ m, x ∈ m') : FitsM M m' := ⟨fun i x hx => h x (hM.has i x hx), hM.apart⟩
def yz : List (Option Blk) → Mem
 | [] => []
 | o :: l => o.toList ++ yz l
def zjN : Nat → List (Option Blk) → Mm → Mm
 | _, [], M => M
 | k, o :: l, M => (k, o) :: zjN (k + 1) l M
theorem FitsM.labO {M : Mm} {m : Mem} (hM : FitsM M m) : ∀ (os : List (Option Blk)) (k : Nat), FreshM m (yz os) → FitsM (zjN k os M) (m ++ yz os)
 | [], k, _ => by simpa [YtacflmjoigffpaaGreatDoor.zjN, yz] using hM
 | o :: l, k, hf => by
  have hf2 : FreshM m (yz l) := ⟨by have := hf.1; rw [yz, List.map_append, List.nodup_append] at this; exact this.2.1, fun x hx => hf.2 x (by rw [yz]; exact List.mem_append_right _ hx)⟩
  have h1 := FitsM.labO hM l (k + 1) hf2
  have hf3 : FreshM (m ++ yz l) o.toList := ⟨by have := hf.1; rw [yz, List.map_append, List.nodup_append] at this; exact this.1, fun x hx y hy => by
   rcases List.mem_append.1 hy with hy | hy
   ·exact hf.2 x (by rw [yz]; exact List.mem_append_left _ hx) y hy
   ·have := hf.1
    rw [yz, List.map_append, List.nodup_append] at this
    exact fun e => this.2.2 x.b (List.mem_map.2 ⟨x, hx, rfl⟩) y.b (List.mem_map.2 ⟨y, hy, rfl⟩) e.symm⟩
  have h2 := h1.fresh k (l0 := []) (lr := m ++ yz l) (by simp) hf3
  refine h2.more fun x hx => ?_
  rw [yz]
  simp only [List.nil_append, List.mem_append] at hx ⊢
  rcases hx with (h | h) | h
  ·exact .inl h
  ·exact .inr (.inr h)
  ·exact .inr (.inl h)
def Two (b : Nat) (t : TypeId) (oz : Option Blk) (S : Value → Array Value → Option Blk → Prop) : Value → Mem → Mem → Prop := fun v l1 nw =>
 ∃ c' oz', S v c' oz' ∧ ((l1 = ⟨b, c', t⟩ :: oz'.toList ∧ nw = [] ∧ oz'.toList.map (·.b) = oz.toList.map (·.b)) ∨ ∃ lo, l1 = ⟨b, c', t⟩ :: lo ∧ lo.map (·.b) = oz.toList.map (·.b) ∧ nw = oz'.toList)
section
variable {P : Program} {G : Mem} {R : Reg} {ops : Array Oper} {n : Nat} {K : Env → Mm → Prop} {rest : List Oper} {E : Env} {M : Mm} {d : Nat} {ty T T' : TypeId} {pos : String} {aft : Array Edge} {x y : Operand}
theorem yr {q : Addr} (hx : rd E x = some (.pointer (some q))) (hd : Nat.blt d n = true) (h : z4 P G R ops n K rest ((d, .pointer (some q)) :: E) M) : z4 P G R ops n K (⟨some d, .nilCheck x, ty, pos, aft, none⟩ :: rest) E M :=
 fun _ _ ha hM => z6G (ha.rd hx) (h _ _ (ha.put hd _) hM)
theorem z3U {j l : Nat} {k2 : IntKind} {e : TypeId} {F : Nat → Value} {td : TypeDesc} (hT : P.underlying T = some (.array l e)) (he : P.underlying e = some td) (hn : zE td = false) (hs : (P.info? e).map (·.size) = some 1) (hx : rd E x = some (.agg (zO l F))) (hy : rd E y = some (.int k2 (j : Int))) (hj : j < l) (hd : Nat.blt d n = true)
  (h : z4 P G R ops n K rest ((d, F j) :: E) M) : z4 P G R ops n K (⟨some d, .index T x y, ty, pos, aft, none⟩ :: rest) E M := fun _ _ ha hM => zjk hT he hn hs (ha.rd hx) (ha.rd hy) hj (h _ _ (ha.put hd _) hM)
theorem vm (i : Nat) {fo : Operand} {f : FuncId} {args : Array Operand} {tys : Array TypeId} {vs cap : List Value} {g' : Mem} {b : Nat} {c : Array Value} {t : TypeId} {S : Value → Array Value → Prop} (hf : rd E fo = some (.func (.func f) #[] cap.toArray)) (hargs : rdl E args.toList = some vs) (he : xr P f = true)
  (hm : lkM M i = some ⟨b, c, t⟩) (hg : ∀ z ∈ g', z ∈ G ∨ ∃ j, j ≠ i ∧ lkM M j = some z) (hF : Fx P g' [⟨b, c, t⟩] f (vs ++ cap).toArray (fun v l1 nw => nw = [] ∧ ∃ c', l1 = [⟨b, c', t⟩] ∧ S v c')) (hS : ∃ v c', S v c') (hd : Nat.blt d n = true) (hR : R.c = 5)
  (h : ∀ v c', S v c' → z4 P G R ops n K rest ((d, v) :: E) ((i, some ⟨b, c', t⟩) :: M)) (hL : R.L = none := by rfl) : z4 P G R ops n K (⟨some d, .call ⟨.value fo, args, tys⟩, ty, pos, aft, none⟩ :: rest) E M :=
 fun _ m ha hM => by
  obtain ⟨lr, hp⟩ := hM.perm1 hm
  obtain ⟨v0, c0, h0⟩ := hS
  refine Wl hR (S := fun v l1 nw => nw = [] ∧ ∃ c', l1 = [⟨b, c', t⟩] ∧ S v c') (ha.rd hf) (ha.args hargs) he (by simpa using hF) (lr := lr) (fun _ _ => ZB hL _) (by simpa using hp) (fun _ => ⟨v0, _, [], ⟨rfl, c0, rfl, h0⟩, by simp, by simp⟩) ?_ (fun w hG hw z hz => ?_) (by simp) (fun hA z hz => ?_) ?_
  ·rintro v' l1 nw ⟨_, c', rfl, _⟩; rfl
  ·rcases hg z hz with h1 | ⟨j, _, h1⟩
   ·exact hG z h1
   ·exact (hw z (hM.has j z h1)).read
  ·rcases hg z hz with h1 | ⟨j, hne, h1⟩
   ·simpa using hA z h1 ⟨b, c, t⟩ (hM.has i _ hm)
   ·simpa using hM.apart j i z _ h1 hm hne
  ·rintro v' l1 nw ⟨rfl, c', rfl, h2⟩ _
   have := hM.same (oz' := some ⟨b, c', t⟩) hm hp rfl
   exact h _ _ h2 _ _ (ha.put hd _) (by simpa using this)
theorem z4w (i j : Nat) {fo : Operand} {f : FuncId} {args : Array Operand} {tys : Array TypeId} {vs cap : List Value} {g' : Mem} {b : Nat} {c : Array Value} {t : TypeId} {oz : Option Blk} {S : Value → Array Value → Option Blk → Prop} (hf : rd E fo = some (.func (.func f) #[] cap.toArray)) (hargs : rdl E args.toList = some vs) (he : xr P f = true)
  (hm : lkM M i = some ⟨b, c, t⟩) (hj : lkM M j = oz) (hij : i ≠ j) (hg : ∀ z ∈ g', z ∈ G ∨ ∃ k, k ≠ i ∧ k ≠ j ∧ lkM M k = some z) (hF : (∀ z, oz = some z → z.b ≠ b) → Fx P g' (⟨b, c, t⟩ :: oz.toList) f (vs ++ cap).toArray (Two b t oz S)) (hS : ∀ m' : Mem, ∃ v c' oz', S v c' oz' ∧ FreshM m' oz'.toList) (hd : Nat.blt d n = true) (hR : R.c = 5)
  (h : ∀ v c' oz', S v c' oz' → z4 P G R ops n K rest ((d, v) :: E) ((j, oz') :: (i, some ⟨b, c', t⟩) :: M)) (hL : R.L = none := by rfl) : z4 P G R ops n K (⟨some d, .call ⟨.value fo, args, tys⟩, ty, pos, aft, none⟩ :: rest) E M :=
 fun _ m ha hM => by
  obtain ⟨lr, hp⟩ := hM.perm1 hm
  have hp : List.Perm m (⟨b, c, t⟩ :: lr) := by simpa using hp
  have hjl : ∀ z, oz = some z → z ∈ lr := fun z hz => hM.others hm (by simpa using hp) j z (fun e => hij e.symm) (hj.trans hz)
  obtain ⟨lr2, hp2⟩ : ∃ lr2, List.Perm lr (oz.toList ++ lr2) := by
   cases oz with
   | none => exact ⟨lr, by simp⟩
   | some z =>
    obtain ⟨l1, l2, h⟩ := List.append_of_mem (hjl z rfl)
    exact ⟨l1 ++ l2, by rw [h]; simp⟩
  have hpm : List.Perm m ((⟨b, c, t⟩ :: oz.toList) ++ lr2) := hp.trans (by simpa using List.Perm.cons (⟨b, c, t⟩ : Blk) hp2)
  have hne : ∀ z, oz = some z → z.b ≠ b := fun z hz => hM.apart j i z _ (hj.trans hz) hm (fun e => hij e.symm)
  have hnd : ((⟨b, c, t⟩ :: oz.toList).map (·.b)).Nodup := by
   cases oz with
   | none => simp
   | some z =>
    have := hne z rfl
    simp
    exact fun e => this e.symm
  refine Wl hR (S := Two b t oz S) (ha.rd hf) (ha.args hargs) he (by simpa using hF hne) (l0 := ⟨b, c, t⟩ :: oz.toList) (lr := lr2) (fun _ _ => ZB hL _) hpm (fun m' => ?_) ?_ (fun w hG hw z hz => ?_) hnd (fun hA z hz => ?_) ?_
  ·obtain ⟨v0, c0, o0, h0, h1⟩ := hS m'
   exact ⟨v0, ⟨b, c0, t⟩ :: oz.toList, o0.toList, ⟨c0, o0, h0, .inr ⟨_, rfl, rfl, rfl⟩⟩, h1⟩
  ·rintro v' l1 nw ⟨c', o', _, ⟨rfl, _, h3⟩ | ⟨lo, rfl, h3, _⟩⟩ <;> simp [h3]
  ·rcases hg z hz with h1 | ⟨k, _, _, h1⟩
   ·exact hG z h1
   ·exact (hw z (hM.has k z h1)).read
  ·have hb2 : z.b ≠ b ∧ ∀ q, oz = some q → z.b ≠ q.b := by
    rcases hg z hz with h1 | ⟨k, k1, k2, h1⟩
    ·exact ⟨hA z h1 ⟨b, c, t⟩ (hM.has i _ hm), fun q hq => hA z h1 q (hM.has j q (hj.trans hq))⟩
    ·exact ⟨hM.apart k i z _ h1 hm k1, fun q hq => hM.apart k j z q h1 (hj.trans hq) k2⟩
   cases oz with
   | none => simpa using hb2.1
   | some q => simpa using ⟨hb2.1, hb2.2 q rfl⟩
  ·rintro v' l1 nw ⟨c', o', h2, h3⟩ hfr
   have others : ∀ k x, k ≠ i → k ≠ j → lkM M k = some x → x ∈ lr2 ∧ x.b ≠ b ∧ ∀ q, oz = some q → x.b ≠ q.b := fun k x k1 k2 hx => by
    have hx1 := hM.others hm (by simpa using hp) k x k1 hx
    have hq : ∀ q, oz = some q → x.b ≠ q.b := fun q hq => hM.apart k j x q hx (hj.trans hq) k2
    refine ⟨?_, hM.apart k i x _ hx hm k1, hq⟩
    rcases List.mem_append.1 (hp2.mem_iff.1 hx1) with h4 | h4
    ·have : oz = some x := by simpa using h4
     exact absurd rfl (hq x this)
    ·exact h4
   have first : FitsM ((i, some ⟨b, c', t⟩) :: M) (⟨b, c', t⟩ :: (oz.toList ++ lr2)) := by
    have := hM.same (oz' := some ⟨b, c', t⟩) hm (lr := oz.toList ++ lr2) (by simpa using hpm) rfl
    simpa using this
   refine h v' c' o' h2 _ _ (ha.put hd _) ?_
   rcases h3 with ⟨rfl, rfl, hid⟩ | ⟨lo, rfl, hid, rfl⟩
   ·refine first.change j (fun k x hk hx => ?_) (fun z hz => ⟨by subst hz; simp, fun k x hk hx => ?_⟩)
    ·rw [y9] at hx
     split at hx
     ·cases hx; simp
     ·rename_i e1; exact List.mem_append_left _ (List.mem_append_right _ (others k x (fun e => e1 e.symm) hk hx).1)
    ·subst hz
     cases oz with
     | none => simp at hid
     | some q =>
      simp at hid
      rw [hid]
      rw [y9] at hx
      split at hx
      ·cases hx; exact fun e => hne q rfl e.symm
      ·rename_i e1; exact (others k x (fun e => e1 e.symm) hk hx).2.2 q rfl
   ·refine first.change j (fun k x hk hx => ?_) (fun z hz => ⟨by subst hz; simp, fun k x hk hx => ?_⟩)
    ·rw [y9] at hx
     split at hx
     ·cases hx; simp
     ·rename_i e1; exact List.mem_append_left _ (List.mem_append_right _ (others k x (fun e => e1 e.symm) hk hx).1)
    ·subst hz
     rw [y9] at hx
     split at hx
     ·cases hx; exact hfr.2 z (by simp) ⟨b, c, t⟩ (hM.has i _ hm)
     ·exact hfr.2 z (by simp) x (hM.has k x hx)
theorem ziN (k : Nat) {fo : Operand} {f : FuncId} {args : Array Operand} {tys : Array TypeId} {vs cap : List Value} {g' : Mem} {S : Value → List (Option Blk) → Prop} (hf : rd E fo = some (.func (.func f) #[] cap.toArray)) (hargs : rdl E args.toList = some vs) (he : xr P f = true) (hg : SeenE G R M g')
  (hF : Fx P g' [] f (vs ++ cap).toArray (fun v l1 nw => l1 = [] ∧ ∃ os, nw = yz os ∧ S v os)) (hS : ∀ m' : Mem, ∃ v os, S v os ∧ FreshM m' (yz os)) (hd : Nat.blt d n = true) (hR : z0G R = true)
  (h : ∀ v os, S v os → z4 P G R ops n K rest ((d, v) :: E) (zjN k os M)) : z4 P G R ops n K (⟨some d, .call ⟨.value fo, args, tys⟩, ty, pos, aft, none⟩ :: rest) E M :=
 fun _ m ha hM => by
  refine z1V hR (S := fun v nw => ∃ os, nw = yz os ∧ S v os) (ha.rd hf) (ha.args hargs) he (by simpa using hF) (fun m' => ?_) (fun w hG hv q hq => (hg.seen hM).rin hG hv hq) ?_
  ·obtain ⟨v, os, h1, h2⟩ := hS m'
   exact ⟨v, _, ⟨os, rfl, h1⟩, h2⟩
  ·rintro v nw ⟨os, rfl, hSv⟩ hfr
   exact h v os hSv _ _ (ha.put hd _) (hM.labO os k hfr)
theorem zas (i j : Nat) {e : TypeId} {z l k bytes : Nat} {zv v vy : Value} {xs news : List Value} {oz : Option Blk} {B : Mem} (hown : OwnS e z v l xs oz.toList) (hsrc : Shows B z vy k news) (hi : lkM M i = oz) (hB : SeenE G R M B)
  (hT : P.underlying T = some (.slice e)) (hs : (P.info? e).map (·.size) = some z) (hb : (P.info? e).map (·.bytes) = some bytes) (hz : (P.info? e).bind (·.zero) = some zv) (hzs : zv.cells.size = z)
  (hx : rd E x = some v) (hy : rd E y = some vy) (h1 : ∀ u ∈ news, u.oneCell' = true) (h63 : l + k ≤ maxLen) (hbytes : (l + k) * bytes ≤ 140737488355328) (hd : Nat.blt d n = true)
  (h : ∀ v' (oi oj oz' : Option Blk), OwnS e z v' (l + k) (xs ++ news) oz'.toList → ((oi = oz' ∧ oz'.toList.map (·.b) = oz.toList.map (·.b) ∧ oj = none) ∨ (oi = oz ∧ oj = oz')) → z4 P G R ops n K rest ((d, v') :: E) ((j, oj) :: (i, oi) :: M)) (hL : R.L = none := by rfl) : z4 P G R ops n K (⟨some d, .call ⟨.builtin .append, #[x, y], #[T, T]⟩, ty, pos, aft, none⟩ :: rest) E M :=
 fun _ m ha hM => by
  obtain ⟨lr, hp⟩ := hM.perm1 hi
  have noJ : ∀ {M' : Mm} {m' : Mem}, FitsM M' m' → FitsM ((j, none) :: M') m' := fun hM' => hM'.change j (fun k x _ hx => hM'.has k x hx) (fun z hz => by cases hz)
  refine z3C hT hs hb hz hzs (ha.rd hx) (ha.rd hy) hown (fun _ _ => ZB hL _) hp hsrc (fun q hq => ?_) h1 h63 hbytes fun v' l' ho => ?_
  ·rcases hB q hq with h2 | ⟨j, h2, _⟩
   ·exact .inl h2
   ·exact .inr (hM.has j q h2)
  ·obtain ⟨oz', rfl⟩ := Wy ho
   refine ⟨fun hid => ?_, fun hf => ?_⟩
   ·simpa using h v' oz' none oz' ho (.inl ⟨rfl, hid, rfl⟩) _ _ (ha.put hd _) (noJ (hM.same hi hp hid))
   ·have same : FitsM ((i, oz) :: M) m := hM.change i (fun k x _ hx => hM.has k x hx) fun z hz => ⟨hM.has i z (hi.trans hz), fun k x hk hx => hM.apart k i x z hx (hi.trans hz) hk⟩
    exact h v' oz oz' oz' ho (.inr ⟨rfl, rfl⟩) _ _ (ha.put hd _) (same.fresh j hp hf)
end
section
variable {P : Program} {G : Mem} {n : Nat}
def znA (P : Program) (b : Nat) (t : TypeId) (S : Value → Array Value → Prop) (fn : Func) : Exit → Env → Mm → Prop
 | .normal, E, M | .ret, E, M => ∃ r v c', fn.results = #[r] ∧ Res P E M r v ∧ S v c' ∧ ∃ i, lkM M i = some ⟨b, c', t⟩
 | _, _, _ => False
theorem FitsM.single (x : Blk) : FitsM [(0, some x)] [x] := ⟨fun i y hy => by
  rw [y9] at hy
  split at hy
  ·cases hy; simp
  ·simp [lkM] at hy, fun i j y z hy hz hne => by
  rw [y9] at hy hz
  split at hy
  ·split at hz
   ·rename_i e1 e2; exact absurd (e1.symm.trans e2) hne
   ·simp [lkM] at hz
  ·simp [lkM] at hy⟩
theorem zdp {f : FuncId} {fn : Func} {c : Code} {args : Array Value} {b : Nat} {c0 : Array Value} {t : TypeId} {S : Value → Array Value → Prop} (hf : P.funcs[f]? = some fn) (hb : fn.body = some c) (hn : fn.ntmps = n) (ha : args.size ≤ n) (E : Env) (hE : ∀ t v, lk E t = some v → args[t]? = some v)
  (h : zZ P G c n (znA P b t S fn) E [(0, some ⟨b, c0, t⟩)]) : Fx P G [⟨b, c0, t⟩] f args (fun v l1 nw => nw = [] ∧ ∃ c', l1 = [⟨b, c', t⟩] ∧ S v c') :=
 XE hf hb (yh (h _ [⟨b, c0, t⟩] ⟨by simp [hn]; omega, rfl, fun t v ht => by
  have := hE t v ht
  have hlt := (Array.getElem?_eq_some_iff.1 this).1
  rw [Array.getElem?_append_left hlt]; exact this⟩ (.single _)) fun e' a m ⟨E', M', h1, h0, h2⟩ => by
   have key : (∃ r v c', fn.results = #[r] ∧ Res P E' M' r v ∧ S v c' ∧ ∃ i, lkM M' i = some ⟨b, c', t⟩) → a.defers = [] ∧ ∃ v l1 nw, (nw = [] ∧ ∃ c', l1 = [⟨b, c', t⟩] ∧ S v c') ∧ (nw.map (·.b)).Nodup ∧ (∀ x ∈ nw, x.b ∉ [(⟨b, c0, t⟩ : Blk)].map (·.b)) ∧ (∀ x ∈ l1 ++ nw, x ∈ m) ∧ ∀ w, MemIn m w → (results fn a.tmps).run P w = .ok v w := fun ⟨r, v, c', hr, hR, hS, i, hi⟩ =>
    ⟨h1.defers, v, [⟨b, c', t⟩], [], ⟨rfl, c', rfl, hS⟩, by simp, by simp, fun x hx => by
     simp at hx; subst hx; exact h0.has i _ hi, fun w hw => by
     have := yx h1 h0 hw hR
     rw [yp, hr, z9D]
     simp [this]⟩
   cases e' <;> first | exact key h2 | exact h2.elim)
def TwoEnd (b : Nat) (t : TypeId) (oz : Option Blk) (c' : Array Value) (oz' : Option Blk) (M : Mm) : Prop :=
 lkM M 0 = some ⟨b, c', t⟩ ∧ ((lkM M 1 = oz' ∧ oz'.toList.map (·.b) = oz.toList.map (·.b)) ∨ ∃ k lo, k ≠ 0 ∧ k ≠ 1 ∧ lkM M k = oz' ∧ lkM M 1 = lo ∧ lo.toList.map (·.b) = oz.toList.map (·.b))
def znM (b : Nat) (t : TypeId) (oz : Option Blk) (S : Value → Array Value → Option Blk → Prop) (fn : Func) : Exit → Env → Mm → Prop
 | .normal, _, M | .ret, _, M => fn.results = #[] ∧ ∃ c' oz', S (.tuple #[]) c' oz' ∧ TwoEnd b t oz c' oz' M
 | _, _, _ => False
theorem FitsM.two {x : Blk} {oz : Option Blk} (h : ∀ z, oz = some z → z.b ≠ x.b) : FitsM [(1, oz), (0, some x)] (x :: oz.toList) :=
 (FitsM.single x).change 1 (fun j y _ hy => by rw [y9] at hy; split at hy; cases hy; simp; simp [lkM] at hy) fun z hz => ⟨by subst hz; simp, fun j y _ hy => by
  rw [y9] at hy
  split at hy
  ·cases hy; exact fun e => h z hz e.symm
  ·simp [lkM] at hy⟩
theorem TwoEnd.post {b : Nat} {t : TypeId} {c0 c' : Array Value} {oz oz' : Option Blk} {M : Mm} {m : Mem} {S : Value → Array Value → Option Blk → Prop} {v : Value} (hM : FitsM M m) (hS : S v c' oz') (h : TwoEnd b t oz c' oz' M) :
  ∃ l1 nw, Two b t oz S v l1 nw ∧ (nw.map (·.b)).Nodup ∧ (∀ x ∈ nw, x.b ∉ (⟨b, c0, t⟩ :: oz.toList).map (·.b)) ∧ ∀ x ∈ l1 ++ nw, x ∈ m := by
 obtain ⟨h0, ⟨h1, hid⟩ | ⟨k, lo, k0, k1, hk, h1, hid⟩⟩ := h
 ·refine ⟨⟨b, c', t⟩ :: oz'.toList, [], ⟨c', oz', hS, .inl ⟨rfl, rfl, hid⟩⟩, by simp, by simp, fun x hx => ?_⟩
  rw [List.append_nil] at hx
  rcases List.mem_cons.1 hx with rfl | hx
  ·exact hM.has 0 _ h0
  ·exact hM.has 1 x (h1.trans (by simpa using hx))
 ·refine ⟨⟨b, c', t⟩ :: lo.toList, oz'.toList, ⟨c', oz', hS, .inr ⟨_, rfl, hid, rfl⟩⟩, ?_, fun x hx => ?_, fun x hx => ?_⟩
  ·cases oz' <;> simp
  ·have e : oz' = some x := by simpa using hx
   have n0 := hM.apart k 0 x _ (hk.trans e) h0 k0
   rw [List.map_cons, ← hid]
   cases lo with
   | none => simpa using n0
   | some q => simpa using ⟨n0, hM.apart k 1 x q (hk.trans e) h1 k1⟩
  ·rcases List.mem_append.1 hx with hx | hx
   ·rcases List.mem_cons.1 hx with rfl | hx
    ·exact hM.has 0 _ h0
    ·exact hM.has 1 x (h1.trans (by simpa using hx))
   ·exact hM.has k x (hk.trans (by simpa using hx))
theorem zol {f : FuncId} {fn : Func} {c : Code} {args : Array Value} {b : Nat} {c0 : Array Value} {t : TypeId} {oz : Option Blk} {S : Value → Array Value → Option Blk → Prop} (hf : P.funcs[f]? = some fn) (hb : fn.body = some c) (hn : fn.ntmps = n) (ha : args.size ≤ n) (E : Env) (hE : ∀ t v, lk E t = some v → args[t]? = some v) (hne : ∀ z, oz = some z → z.b ≠ b)
  (h : zZ P G c n (znM b t oz S fn) E [(1, oz), (0, some ⟨b, c0, t⟩)]) : Fx P G (⟨b, c0, t⟩ :: oz.toList) f args (Two b t oz S) :=
 XE hf hb (yh (h _ _ ⟨by simp [hn]; omega, rfl, fun t v ht => by
  have := hE t v ht
  have hlt := (Array.getElem?_eq_some_iff.1 this).1
  rw [Array.getElem?_append_left hlt]; exact this⟩ (.two hne)) fun e' a m ⟨E', M', h1, h0, h2⟩ => by
   have key : (fn.results = #[] ∧ ∃ c' oz', S (.tuple #[]) c' oz' ∧ TwoEnd b t oz c' oz' M') → a.defers = [] ∧ ∃ v l1 nw, Two b t oz S v l1 nw ∧ (nw.map (·.b)).Nodup ∧ (∀ x ∈ nw, x.b ∉ (⟨b, c0, t⟩ :: oz.toList).map (·.b)) ∧ (∀ x ∈ l1 ++ nw, x ∈ m) ∧ ∀ w, MemIn m w → (results fn a.tmps).run P w = .ok v w := fun ⟨hr, c', oz', hS, hT⟩ => by
    obtain ⟨l1, nw, q1, q2, q3, q4⟩ := hT.post (c0 := c0) h0 hS
    exact ⟨h1.defers, _, l1, nw, q1, q2, q3, q4, fun w _ => by
     rw [yp, hr, zks]
     simp⟩
   cases e' <;> first | exact key h2 | exact h2.elim)
def znP (P : Program) (S : Value → List (Option Blk) → Prop) (u : Value) (fn : Func) : Exit → Env → Mm → Prop
 | .normal, E, M | .ret, E, M => ∃ r r' v os, ∃ is : List Nat, fn.results = #[r, r'] ∧ Res P E M r v ∧ Res P E M r' u ∧ S v os ∧ is.Nodup ∧ is.map (lkM M) = os
 | _, _, _ => False
theorem FitsM.flat {M : Mm} {m : Mem} (hM : FitsM M m) : ∀ {is : List Nat}, is.Nodup → ((yz (is.map (lkM M))).map (·.b)).Nodup ∧ ∀ x ∈ yz (is.map (lkM M)), x ∈ m ∧ ∃ i ∈ is, lkM M i = some x
 | [], _ => by simp [yz]
 | i :: is, hnd => by
  rw [List.nodup_cons] at hnd
  obtain ⟨h1, h2⟩ := FitsM.flat hM hnd.2
  have here : ∀ x ∈ (lkM M i).toList, lkM M i = some x := fun x hx => by simpa using hx
  refine ⟨?_, fun x hx => ?_⟩
  ·rw [List.map_cons, yz, List.map_append, List.nodup_append]
   refine ⟨by cases lkM M i <;> simp, h1, fun p hp q hq => ?_⟩
   obtain ⟨x, hx, rfl⟩ := List.mem_map.1 hp
   obtain ⟨y, hy, rfl⟩ := List.mem_map.1 hq
   obtain ⟨_, j, hj, hjy⟩ := h2 y hy
   exact hM.apart i j x y (here x hx) hjy fun e => hnd.1 (e ▸ hj)
  ·rw [List.map_cons, yz] at hx
   rcases List.mem_append.1 hx with hx | hx
   ·exact ⟨hM.has i x (here x hx), i, List.mem_cons_self, here x hx⟩
   ·obtain ⟨q1, j, q2, q3⟩ := h2 x hx
    exact ⟨q1, j, List.mem_cons_of_mem _ q2, q3⟩
theorem zom {f : FuncId} {fn : Func} {c : Code} {args : Array Value} {S : Value → List (Option Blk) → Prop} {u : Value} (hf : P.funcs[f]? = some fn) (hb : fn.body = some c) (hn : fn.ntmps = n) (ha : args.size ≤ n) (E : Env) (hE : ∀ t v, lk E t = some v → args[t]? = some v)
  (h : zZ P G c n (znP P S u fn) E []) : Fx P G [] f args (fun v l1 nw => l1 = [] ∧ ∃ os, nw = yz os ∧ ∃ v', v = .tuple #[v', u] ∧ S v' os) :=
 XE hf hb (yh (h _ [] ⟨by simp [hn]; omega, rfl, fun t v ht => by
  have := hE t v ht
  have hlt := (Array.getElem?_eq_some_iff.1 this).1
  rw [Array.getElem?_append_left hlt]; exact this⟩ (FitsM.nil _)) fun e' a m ⟨E', M', h1, h0, h2⟩ => by
   have key : (∃ r r' v os, ∃ is : List Nat, fn.results = #[r, r'] ∧ Res P E' M' r v ∧ Res P E' M' r' u ∧ S v os ∧ is.Nodup ∧ is.map (lkM M') = os) → a.defers = [] ∧ ∃ v l1 nw, (l1 = [] ∧ ∃ os, nw = yz os ∧ ∃ v', v = Value.tuple #[v', u] ∧ S v' os) ∧ (nw.map (·.b)).Nodup ∧ (∀ x ∈ nw, x.b ∉ ([] : Mem).map (·.b)) ∧ (∀ x ∈ l1 ++ nw, x ∈ m) ∧ ∀ w, MemIn m w → (results fn a.tmps).run P w = .ok v w := fun ⟨r, r', v, os, is, hr, hR, hR', hS, hnd, hos⟩ => by
    subst hos
    obtain ⟨q1, q2⟩ := h0.flat hnd
    exact ⟨h1.defers, .tuple #[v, u], [], _, ⟨rfl, _, rfl, v, rfl, hS⟩, q1, by simp, fun x hx => (q2 x (by simpa using hx)).1, fun w hw => by
     have := yx h1 h0 hw hR
     have t' := yx h1 h0 hw hR'
     rw [yp, hr, za1]
     simp [this, t']⟩
   cases e' <;> first | exact key h2 | exact h2.elim)
end
end Go.Proofs.YtacflmjoigffpaaGreatDoor
namespace Go.Proofs.YtacflmjoigffpaaGreatDoor
open Go Go.RowKit
section
variable {P : Program} {G : Mem}
end
section
variable {P : Program} {G : Mem} {n : Nat} {Q : Exit → Env → Mm → Prop} {E : Env} {M : Mm}
end
section
variable {P : Program} {G : Mem} {R : Reg} {ops : Array Oper} {n : Nat} {K : Env → Mm → Prop} {rest : List Oper} {E : Env} {M : Mm} {d : Nat} {ty : TypeId} {pos : String} {aft : Array Edge}
variable {T T' : TypeId} {x y : Operand}
end
theorem zi1 {R : Reg} {o : Oper} {b : Nat} (hX : R.X = []) (h : z8B R.L b) : hid R o b := by
 unfold hid
 cases R.Y with
 | none => exact .inl hX
 | some q => exact .inr ⟨.inl hX, h⟩
theorem z2w {R : Reg} {o : Oper} {M : Mm} {i t : Nat} (j : Nat) {z : Blk} (hj : lkM M j = some z) (hij : i ≠ j) (hY : R.Y = some (t, z.b)) (ht : XH o ≠ some t) : ∀ b : Blk, lkM M i = some b → ∀ m, FitsM M m → yOk R o b.b := fun b hb m hM => by
 unfold yOk; rw [hY]; dsimp only; rw [if_neg ht]
 exact hM.apart i j b z hb hj hij
section
variable {P : Program} {G : Mem} {R : Reg} {ops : Array Oper} {n : Nat} {K : Env → Mm → Prop} {rest : List Oper} {E : Env} {M : Mm} {d : Nat} {ty : TypeId} {pos : String} {aft : Array Edge}
variable {T T' : TypeId} {x y : Operand}
theorem vY {b i l : Nat} {c c' : Array Value} {t : TypeId} (hs : (P.info? T).map (·.size) = some l) (hx : rd E x = some (.pointer (some ⟨b, 0, none⟩))) (hy : rd E y = some (.agg c')) (hl : c'.size = l)
  (hv : ∀ v ∈ c', v.oneCell' = true) (hm : lkM M i = some ⟨b, c, t⟩) (ho : c'.size = c.size) (hX : R.X = []) (hoff : OffL M i R.L) (hYk : ∀ b : Blk, lkM M i = some b → ∀ m, FitsM M m → yOk R ⟨none, .store T x y, ty, pos, aft, none⟩ b.b) (h : z4 P G R ops n K rest E ((i, some ⟨b, c', t⟩) :: M)) : z4 P G R ops n K (⟨none, .store T x y, ty, pos, aft, none⟩ :: rest) E M :=
 fun _ _ ha hM => by
  obtain ⟨j, hj⟩ := hM.at hm
  exact z24 (hl ▸ hs) (ha.rd hx) (ha.rd hy) hv hj (zi1 hX (hoff.off hM hm ⟨b, c, t⟩ (by simp))) ho (h _ _ ha (hM.store hm hj _)) (hYk _ hm _ hM)
end
end Go.Proofs.YtacflmjoigffpaaGreatDoor
namespace Go.Proofs.YtacflmjoigffpaaGreatDoor
open Go Go.RowKit
abbrev Ev := Nat × Nat
def hit (who tok : Int) (x : Ev) : Bool := decide ((x.2 : Int) = tok) && (decide (who < 0) || decide ((x.1 : Int) = who))
def hap (l : List Ev) (who tok : Int) : Bool := l.any (hit who tok)
abbrev iv (z : Int) : Value := .int .i64 z
def zF (B : Mem) (vs : List Value) (ls : List (List Int)) : Prop := vs.length = ls.length ∧ ∀ i, i < ls.length → Shows B 1 (vs.getD i undef) (ls.getD i []).length ((ls.getD i []).map iv)
theorem z1v {l : List Int} {i : Nat} (h : i < l.length) : (l.map iv)[i]? = some (iv (l.getD i 0)) := by
 rw [List.getElem?_map, List.getElem?_eq_getElem h, List.getD_eq_getElem?_getD, List.getElem?_eq_getElem h]; rfl
def wu (x : Int) : Bool := decide (x < 1) || decide (7 < x)
def yk : List (List Int) → Nat
 | [] => 0
 | t :: r => if 6 < t.length then 1 else if t.any wu then 2 else yk r
theorem YP {ls : List (List Int)} (h : ∀ j, j < ls.length → (ls.getD j []).length ≤ 6 ∧ (ls.getD j []).any wu = false) : yk ls = 0 := by
 induction ls with
 | nil => rfl
 | cons t r ih =>
  have h0 := h 0 (by simp)
  simp at h0
  rw [yk, if_neg (by omega)]
  have : t.any wu = false := by simpa using h0.2
  rw [this, if_neg (by decide)]
  exact ih fun j hj => by simpa using h (j + 1) (by simpa using hj)
theorem Vl : ∀ {ls : List (List Int)} {i : Nat}, i < ls.length → (∀ j, j < i → (ls.getD j []).length ≤ 6 ∧ (ls.getD j []).any wu = false) → yk ls = yk (ls.getD i [] :: ls.drop (i + 1))
 | t :: r, 0, _, _ => rfl
 | t :: r, i + 1, hi, h => by
  have h0 := h 0 (by omega)
  simp at h0
  have : t.any wu = false := by simpa using h0.2
  rw [yk, if_neg (by omega), this, if_neg (by decide)]
  exact (Vl (by simpa using hi) fun j hj => by simpa using h (j + 1) (by omega))
theorem zfo {l : List Int} (h : ∀ j, j < l.length → wu (l.getD j 0) = false) : l.any wu = false := by
 rw [List.any_eq_false]
 intro x hx
 obtain ⟨j, hj, rfl⟩ := List.getElem_of_mem hx
 have := h j hj
 rw [List.getD_eq_getElem?_getD, List.getElem?_eq_getElem hj] at this
 simp at this
 simp [this]
theorem zlN {l : List Int} {j : Nat} (hj : j < l.length) (h : wu (l.getD j 0) = true) : l.any wu = true := by
 rw [List.any_eq_true]
 refine ⟨_, List.getElem_mem hj, ?_⟩
 rw [List.getD_eq_getElem?_getD, List.getElem?_eq_getElem hj] at h
 exact h
def XQ (who : Int) : Nat := if who = 1 then 4 else 5
def Xz (who : Int) : Nat := if who = 1 then 5 else 4
def mlock (l : List Ev) (who : Int) : Bool := !(hap l (-1) 7 && !(hap l who 1)) && ((!(hap l (-1) (XQ who)) || hap l (-1) 3) && (!(hap l (-1) 6) || hap l (-1) (Xz who)))
def Vr (es : List Ev) : Bool := hap es (-1) 3 || hap es (-1) 4 || hap es (-1) 5 || hap es (-1) 6 || hap es (-1) 7
def ZH (es : List Ev) (e : Ev) : Bool := !(decide (2 < (e.2 : Int)) || hap es e.1 e.2)
def okT (es : List Ev) (w y : Nat) : Bool :=
 if y = 0 then (!(Vr es) || mlock es w)
 else if y = 1 then !(hap es w 1)
 else if y = 2 then (!(hap es w 2) && (!(Vr es) || mlock es w))
 else if y = 3 then ((hap es 0 1 && hap es 1 1) && !(hap es (-1) y))
 else if y = 4 then ((hap es 0 1 && hap es 1 2) && !(hap es (-1) y))
 else if y = 5 then ((hap es 0 2 && hap es 1 1) && !(hap es (-1) y))
 else if y = 6 then ((hap es 0 2 && hap es 1 2) && !(hap es (-1) y))
 else true
def zlo (es : List Ev) (e : Ev) : Bool := okT es e.1 e.2
def Xw (late : Bool) (i : Nat) : Nat := if late then (i + 1) % 2 else i % 2
def evL (late : Bool) (q0 q1 : List Nat) (us : List (List Nat)) : List (List Ev) := q0.map (fun x => (0, x)) :: q1.map (fun x => (1, x)) :: us.zipIdx.map (fun p => (p.1 ++ [0]).map fun x => (Xw late p.2, x))
def xm (L : List (List Ev)) (i j : Nat) : List Ev := (L.take i).flatten ++ (L.getD i []).take j
def V7 (L : List (List Ev)) (i j : Nat) : Bool := (if i < 2 then ZH else zlo) (xm L i j) ((L.getD i []).getD j (0, 0))
def z2K (L : List (List Ev)) : Bool := (List.range L.length).all fun i => (List.range (L.getD i []).length).all fun j => V7 L i j
theorem z8m {L : List (List Ev)} (h : ∀ i j, i < L.length → j < (L.getD i []).length → V7 L i j = true) : z2K L = true := by
 rw [z2K, List.all_eq_true]
 intro i hi
 rw [List.all_eq_true]
 intro j hj
 exact h i j (by simpa using hi) (by simpa using hj)
theorem z5d {L : List (List Ev)} {i j : Nat} (hi : i < L.length) (hj : j < (L.getD i []).length) (h : V7 L i j = false) : z2K L = false := by
 cases e : z2K L with
 | false => rfl
 | true =>
  rw [z2K, List.all_eq_true] at e
  have := e i (by simpa using hi)
  rw [List.all_eq_true] at this
  rw [this j (by simpa using hj)] at h
  cases h
theorem z89 (L : List (List Ev)) : xm L 0 0 = [] := by simp [xm]
theorem zbB {L : List (List Ev)} {i : Nat} (hi : i < L.length) : xm L i (L.getD i []).length = xm L (i + 1) 0 := by
 unfold xm
 rw [List.take_length, List.take_zero, List.append_nil, List.take_add_one, List.flatten_append, List.getD_eq_getElem?_getD, List.getElem?_eq_getElem hi]
 simp
abbrev ci (q : List Nat) : List Int := q.map fun x : Nat => (x : Int)
theorem z0x {q : List Nat} {i : Nat} (h : i < q.length) : ((ci q).map iv)[i]? = some (ii (q.getD i 0)) := by
 rw [List.getElem?_map, List.getElem?_map, List.getElem?_eq_getElem h, List.getD_eq_getElem?_getD, List.getElem?_eq_getElem h]; rfl
theorem zac {B : Mem} {v : Value} {vs : List Value} {q : List Nat} {ls : List (List Int)} (h : zF B (v :: vs) (ci q :: ls)) : Shows B 1 v q.length ((ci q).map iv) := by
 have h0 : Shows B 1 v (ci q).length ((ci q).map iv) := h.2 0 (by simp)
 rw [List.length_map] at h0; exact h0
theorem zL {B : Mem} {v : Value} {l : List Int} {vs : List Value} {ls : List (List Int)} (h : zF B (v :: vs) (l :: ls)) : zF B vs ls :=
 ⟨by have := h.1; simpa using this, fun i hi => by have := h.2 (i + 1) (by simpa using hi); exact this⟩
theorem zo4 {B : Mem} {vs : List Value} {us : List (List Nat)} (h : zF B vs (us.map ci)) {i : Nat} (hi : i < us.length) : Shows B 1 (vs.getD i undef) (us.getD i []).length ((ci (us.getD i [])).map iv) := by
 have h0 := h.2 i (by simpa using hi)
 have e : (us.map ci).getD i [] = ci (us.getD i []) := by
  simp [List.getD_eq_getElem?_getD, hi]
 rw [e, List.length_map] at h0; exact h0
theorem zkM {B : Mem} {vs : List Value} {ls : List (List Int)} (h : zF B vs ls) : ∀ u ∈ vs, u.oneCell' = true := fun u hu => by
 obtain ⟨i, hi, rfl⟩ := List.getElem_of_mem hu
 have h0 := h.2 i (by rw [← h.1]; exact hi)
 rw [List.getD_eq_getElem?_getD, List.getElem?_eq_getElem hi] at h0
 rcases h0 with ⟨_, _, oa, c, e, _⟩ | ⟨b, o, c, cs, t, e, _⟩ <;> (simp only [Option.getD_some] at e; rw [e]; rfl)
theorem yR {B B' : Mem} {vs : List Value} {ls : List (List Int)} (h : zF B vs ls) (hs : ∀ x ∈ B, x ∈ B') : zF B' vs ls := ⟨h.1, fun i hi => (h.2 i hi).mono hs⟩
def qq (q0 q1 : List Nat) (a : Nat) : List Nat := if a = 0 then q0 else q1
def vq (v0 v1 : Value) (a : Nat) : Value := if a = 0 then v0 else v1
theorem ziF {late : Bool} {q0 q1 : List Nat} {us : List (List Nat)} {a : Nat} (h : a < 2) : (evL late q0 q1 us).getD a [] = (qq q0 q1 a).map (fun x => (a, x)) := by
 have : a = 0 ∨ a = 1 := by omega
 rcases this with rfl | rfl <;> rfl
theorem zee {late : Bool} {q0 q1 : List Nat} {us : List (List Nat)} {i : Nat} (h : i < us.length) : (evL late q0 q1 us).getD (2 + i) [] = (us.getD i [] ++ [0]).map (fun x => (Xw late i, x)) := by
 rw [show 2 + i = i + 2 by omega]
 show (us.zipIdx.map (fun p => (p.1 ++ [0]).map fun x => (Xw late p.2, x))).getD i [] = _
 simp [List.getD_eq_getElem?_getD, h]
theorem zhN {late : Bool} {q0 q1 : List Nat} {us : List (List Nat)} : (evL late q0 q1 us).length = 2 + us.length := by
 simp [evL]; omega
theorem zh9 {a j : Nat} {q : List Nat} (h : j < q.length) : (q.map (fun x => (a, x))).getD j (0, 0) = (a, q.getD j 0) := by
 simp [List.getD_eq_getElem?_getD, h]
def z3M (L : List (List Ev)) : Nat := if z2K L then 0 else 3
theorem z5B {L : List (List Ev)} {i j : Nat} (hi : i < L.length) (hj : j < (L.getD i []).length) (h : V7 L i j = false) : z3M L = 3 := by
 rw [z3M, z5d hi hj h]; rfl
theorem z3O {L : List (List Ev)} (h : ∀ i j, i < L.length → j < (L.getD i []).length → V7 L i j = true) : z3M L = 0 := by
 rw [z3M, z8m h]; rfl
theorem z1p {l : List Int} : ∀ u ∈ l.map iv, u.oneCell' = true := fun u hu => by
 obtain ⟨n, _, rfl⟩ := List.mem_map.1 hu; rfl
theorem z34 {G : Mem} {v0 v1 : Value} {q0 q1 : List Nat} (h0 : Shows G 1 v0 q0.length ((ci q0).map iv)) (h1 : Shows G 1 v1 q1.length ((ci q1).map iv)) : ∀ a, a < 2 → Shows G 1 (vq v0 v1 a) (qq q0 q1 a).length ((ci (qq q0 q1 a)).map iv) := fun a ha => by
 have : a = 0 ∨ a = 1 := by omega
 rcases this with rfl | rfl
 ·exact h0
 ·exact h1
end Go.Proofs.YtacflmjoigffpaaGreatDoor
namespace Go.Proofs.YtacflmjoigffpaaGreatDoor
open Go.ChangeShapes Go.WideShapes Go.ChangeAt Go.RowKit
section
variable {H : Type} {enc : TypeId × Value → H} {P : Program} {n : Nat} {t e : TypeId} {k : IntKind}
theorem Ww {bound : Nat} (hT : P.underlying t = some (.array n e)) (he : P.underlying e = some (.int k)) (hc : P.cellsOf e = 1) (hct : P.cellsOf t = n)
  (hb : ∀ z : Int, (Lit.int k z).wf = true → 0 ≤ z ∧ z < bound) {W : World} {b0 b : Nat} {s : Nat → Bool} {h : Bool} {v : Value} {d : DataW H} {ps : List MemPlace}
  (hval : Value.okWide P W .any b0 t v) (hd : DataW.Trod enc P W b s h t v d ps) :
  ∃ f : Nat → Nat, v = .agg (arr k n f) ∧ (∀ j, j < n → f j < bound) ∧ ps = [] := by
 unfold Value.okWide at hval
 rw [hT] at hval
 obtain ⟨cs, rfl, hsz, _⟩ := hval
 rw [hct] at hsz
 obtain ⟨fuel, hf⟩ := hd
 obtain ⟨xs, m, _, ex, _, hl, hel⟩ := DataW.trod_array hT hf
 have key : ∀ i, i < n → ∃ z : Int, cs[i]? = some (.int k z) ∧ 0 ≤ z ∧ z < bound ∧ ∃ x, xs[i]? = some x ∧ x.2 = [] := fun i hi => by
  have hE := hel i hi
  have hxi : i < xs.length := by omega
  rw [hc, Nat.mul_one, List.getElem?_eq_getElem hxi] at hE
  obtain ⟨z, e1, e2, hw⟩ := DataW.trod_int he hE
  have h0 : ((cs.toList.drop i).take 1)[0]? = some (.int k z) := by
   have : (Value.agg cs).cells.toList = cs.toList := rfl
   rw [this] at e1
   rw [e1]; rfl
  refine ⟨z, by simpa using h0, (hb z hw).1, (hb z hw).2, xs[i], List.getElem?_eq_getElem hxi, by rw [e2]⟩
 refine ⟨fun i => match cs[i]? with
  | some (.int _ z) => z.toNat
  | _ => 0, ?_, fun j hj => ?_, ?_⟩
 ·congr 1
  apply Array.ext_getElem?
  intro i
  by_cases hi : i < n
  ·obtain ⟨z, h1, h2, _⟩ := key i hi
   rw [ye hi, h1]
   simp only
   congr 2
   omega
  ·rw [Array.getElem?_eq_none (by omega), Array.getElem?_eq_none (by rw [zH]; omega)]
 ·obtain ⟨z, h1, h2, h3, _⟩ := key j hj
  simp only [h1]
  omega
 ·have e2 : ps = xs.flatMap (·.2) := (Prod.mk.inj ex).2
  rw [e2]
  apply List.flatMap_eq_nil_iff.2
  intro x hx
  obtain ⟨i, hi, rfl⟩ := List.getElem_of_mem hx
  obtain ⟨_, _, _, _, y, h4, h5⟩ := key i (by omega)
  rw [List.getElem?_eq_getElem hi] at h4
  rw [Option.some.inj h4]; exact h5
theorem z9U (z : Int) (h : (Lit.int .u8 z).wf = true) : 0 ≤ z ∧ z < (256 : Nat) := by
 simp [Lit.wf, IntKind.min, IntKind.max, IntKind.signed, IntKind.bits] at h
 omega
end
end Go.Proofs.YtacflmjoigffpaaGreatDoor
namespace Go.Proofs.YtacflmjoigffpaaGreatDoor
open Go Go.ChangeShapes Go.WideShapes Go.ChangeAt Go.RowKit
section
variable {H : Type} {enc : TypeId × Value → H} {P : Program} {t e : TypeId}
theorem zfk (s : ByteArray) : ∃ l : List Nat, (∀ x ∈ l, x < 256) ∧ s = y5 l := by
 refine ⟨s.data.toList.map UInt8.toNat, fun x hx => ?_, ?_⟩
 ·obtain ⟨b, _, rfl⟩ := List.mem_map.1 hx
  exact b.toNat_lt
 ·unfold y5
  rw [List.map_map]
  have : s.data.toList.map (UInt8.ofNat ∘ UInt8.toNat) = s.data.toList := by
   conv => rhs; rw [← List.map_id s.data.toList]
   exact List.map_congr_left fun b _ => by simp
  rw [this]
end
end Go.Proofs.YtacflmjoigffpaaGreatDoor
namespace Go.Proofs.YtacflmjoigffpaaGreatDoor
open Go Go.ChangeShapes Go.WideShapes Go.ChangeAt Go.RowKit
section
variable {P : Program} {t : TypeId}
theorem zdf {W : World} {b0 : Nat} {u : TypeId} {x : Value} (hu : P.underlying u = some .string) (h : Cell.okWide P W .any b0 u x) : ∃ l : List Nat, (∀ b ∈ l, b < 256) ∧ x = sv l := by
 unfold Cell.okWide at h
 rw [hu] at h
 unfold Cell.ok at h
 rw [hu] at h
 cases x with
 | string s =>
  obtain ⟨l, hl, rfl⟩ := zfk s
  exact ⟨l, hl, rfl⟩
 | _ => simp_all
end
end Go.Proofs.YtacflmjoigffpaaGreatDoor
namespace Go.Proofs.YtacflmjoigffpaaGreatDoor
open Go Go.ChangeShapes Go.WideShapes Go.ChangeAt Go.RowKit
section
variable {H : Type} {enc : TypeId × Value → H} {P : Program} {t e : TypeId}
end
end Go.Proofs.YtacflmjoigffpaaGreatDoor
namespace Go.Proofs.YtacflmjoigffpaaGreatDoor
open Go Go.ChangeShapes Go.WideShapes Go.ChangeAt Go.RowKit
section
variable {P : Program} {G : Mem}
variable {H : Type} {enc : TypeId × Value → H}
end
end Go.Proofs.YtacflmjoigffpaaGreatDoor
namespace Go.Proofs.YtacflmjoigffpaaGreatDoor
open Go Go.ChangeShapes Go.WideShapes Go.ChangeAt Go.RowKit
structure RawT where
 a : Int
 b : Int
 c : Int
 t : List Nat
section
variable {P : Program} {G : Mem}
end
section
variable {P : Program} {H : Type} {enc : TypeId × Value → H}
theorem zf8 {W : World} {b0 : Nat} {t : TypeId} {v : Value} {td : TypeDesc} (ht : P.underlying t = some td) (hn : zE td = false) (hval : Value.okWide P W .any b0 t v) : Cell.okWide P W .any b0 t v := by
 unfold Value.okWide at hval
 rw [ht] at hval
 cases td <;> simp_all [zE]
theorem zg1 {W : World} {b0 base : Nat} {s : Nat → Bool} {held : Bool} {t : TypeId} {v : Value} {d : DataW H} {ps : List MemPlace} (ht : P.underlying t = some .string) (hval : Value.okWide P W .any b0 t v) (hd : DataW.Trod enc P W base s held t v d ps) : ∃ l : List Nat, v = sv l ∧ (∀ b ∈ l, b < 256) ∧ l.length ≤ maxLen := by
 obtain ⟨l, hl, rfl⟩ := zdf ht (zf8 ht rfl hval)
 obtain ⟨fuel, hf⟩ := hd
 obtain ⟨b, h1, _, hm⟩ := DataW.trod_string ht hf
 have h1 : [sv l] = [Value.string b] := h1
 injection h1 with h1 _
 injection h1 with h1
 exact ⟨l, rfl, hl, by rw [← wl, h1]; exact hm⟩
end
end Go.Proofs.YtacflmjoigffpaaGreatDoor
namespace Go.Proofs.YtacflmjoigffpaaGreatDoor
open Go Go.ChangeShapes Go.WideShapes Go.ChangeAt Go.RowKit
section
variable {P : Program} {G : Mem}
end
section
variable {P : Program} {H : Type} {enc : TypeId × Value → H}
end
theorem z1Q {l : List Int} (h : l.any wu = false) : l = ci (l.map Int.toNat) := by
 rw [List.any_eq_false] at h
 unfold ci
 rw [List.map_map]
 conv => lhs; rw [← List.map_id l]
 refine List.map_congr_left fun x hx => ?_
 have := h x hx
 simp [wu] at this
 show x = ((x.toNat : Nat) : Int)
 omega
theorem YU : ∀ {ls : List (List Int)}, yk ls = 0 → ∀ t ∈ ls, t.length ≤ 6 ∧ t.any wu = false
 | t :: r, h, x, hx => by
  rw [yk] at h
  by_cases h6 : 6 < t.length
  ·rw [if_pos h6] at h; cases h
  ·rw [if_neg h6] at h
   cases hw : t.any wu with
   | true => rw [hw, if_pos rfl] at h; cases h
   | false =>
    rw [hw, if_neg (by decide)] at h
    rcases List.mem_cons.1 hx with rfl | hx
    ·exact ⟨by omega, hw⟩
    ·exact YU h x hx
def wA (late : Bool) (p0 p1 : List Int) (ts : List (List Int)) : Nat :=
 if ts.length = 0 ∨ 5 < ts.length then 1 else if yk (p0 :: p1 :: ts) = 0 then z3M (evL late (p0.map Int.toNat) (p1.map Int.toNat) (ts.map fun t => t.map Int.toNat)) else yk (p0 :: p1 :: ts)
end Go.Proofs.YtacflmjoigffpaaGreatDoor
namespace Go.Proofs.YtacflmjoigffpaaGreatDoor
open Go Go.RowKit
def ixb : List Nat → Nat → Option Nat
 | [], _ => none
 | b :: l, c => if b = c then some 0 else (ixb l c).map (· + 1)
def ixv : Option Nat → Value
 | some i => ii i
 | none => .int .i64 (-1)
theorem zfq : ∀ {l : List Nat} {c : Nat}, l.count c = 0 → ixb l c = none
 | [], _, _ => rfl
 | b :: l, c, h => by
  rw [List.count_cons] at h
  by_cases e : b = c
  ·subst e; simp at h
  ·rw [ixb, if_neg e, zfq (l := l) (c := c) (by omega)]; rfl
theorem z8T {a b : Nat} (ha : a < 256) (hb : b < 256) : (UInt8.ofNat a == UInt8.ofNat b) = decide (a = b) := by
 by_cases h : a = b
 ·subst h; simp
 ·have : UInt8.ofNat a ≠ UInt8.ofNat b := fun e => h (by
   have e2 := congrArg UInt8.toNat e
   simp at e2
   omega)
  simp [h, this]
theorem z2s : ∀ {l : List Nat} {c : Nat}, (∀ b ∈ l, b < 256) → c < 256 → Value.int .i64 (Lib.indexByte (l.map UInt8.ofNat) (UInt8.ofNat c)) = ixv (ixb l c)
 | [], _, _, _ => rfl
 | b :: l, c, hl, hc => by
  have ih := z2s (l := l) (c := c) (fun x hx => hl x (List.mem_cons_of_mem _ hx)) hc
  have hb := hl b List.mem_cons_self
  rw [List.map_cons, Lib.indexByte, z8T hb hc]
  by_cases e : b = c
  ·rw [decide_eq_true e, ixb, if_pos e]; rfl
  ·rw [decide_eq_false e, ixb, if_neg e]
   cases h : ixb l c with
   | none =>
    rw [h] at ih
    have : Lib.indexByte (l.map UInt8.ofNat) (UInt8.ofNat c) = -1 := by injection ih
    rw [this]; rfl
   | some i =>
    rw [h] at ih
    have : Lib.indexByte (l.map UInt8.ofNat) (UInt8.ofNat c) = (i : Int) := by injection ih
    rw [this]
    have h1 : (((i : Int)) == -1) = false := by simp
    rw [h1]
    simp [ixv]
def yl : List Nat → Nat → List (List Nat)
 | [], _ => [[]]
 | b :: l, c => if b = c then [] :: yl l c else
  match yl l c with
  | [] => [[b]]
  | w :: r => (b :: w) :: r
theorem X7 : ∀ {l : List Nat} {c : Nat}, l.count c = 0 → yl l c = [l]
 | [], _, _ => rfl
 | b :: l, c, h => by
  have e : b ≠ c := fun e => by subst e; simp at h
  rw [List.count_cons_of_ne (by simpa using e)] at h
  rw [yl, if_neg e, X7 h]
theorem YT : ∀ {l : List Nat} {c i : Nat}, ixb l c = some i → yl l c = l.take i :: yl (l.drop (i + 1)) c
 | [], _, _, h => by simp [ixb] at h
 | b :: l, c, i, h => by
  by_cases e : b = c
  ·rw [ixb, if_pos e] at h
   injection h with h; subst h
   rw [yl, if_pos e]; rfl
  ·rw [ixb, if_neg e] at h
   cases h1 : ixb l c with
   | none => rw [h1] at h; simp at h
   | some j =>
    rw [h1] at h
    have : i = j + 1 := by simpa using h.symm
    subst this
    rw [yl, if_neg e, YT h1]; rfl
def asp (b : Nat) : Nat := if b = 32 ∨ (9 ≤ b ∧ b ≤ 13) then 1 else 0
def Z6 : List Nat → List Nat → List (List Nat)
 | cur, [] => if cur = [] then [] else [cur]
 | cur, b :: l => if asp b = 0 then Z6 (cur ++ [b]) l else if cur = [] then Z6 [] l else cur :: Z6 [] l
def z3V (l : List Nat) : List (List Nat) := Z6 [] l
theorem za9 : ∀ (w cur l : List Nat), (∀ b ∈ w, asp b = 0) → Z6 cur (w ++ l) = Z6 (cur ++ w) l
 | [], cur, l, _ => by simp
 | b :: w, cur, l, h => by
  rw [List.cons_append, Z6, if_pos (h b List.mem_cons_self), za9 w (cur ++ [b]) l (fun x hx => h x (List.mem_cons_of_mem _ hx)), List.append_assoc, List.singleton_append]
theorem wb {l : List Nat} {i : Nat} (h : i < l.length) : l[i]? = some (l.getD i 0) := by
 rw [List.getD_eq_getElem?_getD, List.getElem?_eq_getElem h]; rfl
theorem xC {l : List Nat} (h : ∀ b ∈ l, b < 256) (i : Nat) : l.getD i 0 < 256 := by
 rw [List.getD_eq_getElem?_getD]
 cases e : l[i]? with
 | none => decide
 | some b => exact h b (List.mem_of_getElem? e)
abbrev nm8 : List (List Nat) := [[], [101], [115], [101, 101], [101, 115], [115, 101], [115, 115], [112, 115, 107]]
def znN (w : List Nat) (j : Nat) : List Nat := (List.range j).filter (fun t => decide (nm8.getD t [] = w))
def Yx (l : List Nat) : List Nat := (z3V l).flatMap (fun w => znN w 8)
theorem zez {ws : List (List Nat)} {i : Nat} (h : i < ws.length) : (ws.map sv)[i]? = some (sv (ws.getD i [])) := by
 rw [List.getElem?_map, List.getElem?_eq_getElem h, List.getD_eq_getElem?_getD, List.getElem?_eq_getElem h]; rfl
theorem z4A (j : Nat) : ∀ u ∈ [ii j], u.oneCell' = true := fun u hu => by simp at hu; subst hu; rfl
abbrev nNN : List Nat := [78, 78]
abbrev nNK : List Nat := [78, 75]
abbrev nXX : List Nat := [88, 88]
abbrev nIK : List Nat := [73, 75]
abbrev nXK : List Nat := [88, 75]
abbrev nKK : List Nat := [75, 75]
abbrev nXF : List Nat := [88, 88, 102, 97, 108, 108, 98, 97, 99, 107]
def Za (n : List Nat) : List Nat :=
 if n = nNN then [59, 59, 32, 101, 59, 32, 101, 32, 101, 101, 59] else
 if n = nNK then [59, 32, 115, 59, 32, 101, 32, 101, 115, 59, 32, 101, 32, 101, 101, 59] else
 if n = nXX then [59, 59, 32, 101, 59, 32, 101, 32, 101, 101, 32, 115, 32, 101, 115, 59, 32, 115, 32, 115, 101, 59] else
 if n = nIK then [59, 32, 115, 59, 32, 101, 32, 101, 115, 32, 115, 32, 115, 115, 59, 32, 101, 32, 101, 101, 32, 115, 101, 59] else
 if n = nXK then [59, 32, 115, 59, 32, 101, 32, 101, 115, 59, 32, 101, 32, 101, 101, 59, 32, 115, 32, 115, 101, 59] else
 if n = nKK then [115, 59, 32, 115, 59, 32, 101, 32, 101, 115, 32, 115, 115, 59, 32, 101, 32, 101, 101, 32, 115, 101, 59] else
 if n = nXF then [101, 59, 59, 32, 101, 32, 101, 101, 32, 115, 32, 101, 115, 59, 32, 115, 32, 115, 101, 59] else []
def znl (l : List Nat) (c : Nat) : List Nat := if 1 ≤ l.length ∧ l.drop (l.length - 1) = [c] then l.take (l.length - 1) else l
def YQ (n : List Nat) : List (List Nat) := yl (znl (Za n) 59) 59
theorem X3 {n : List Nat} (h : Za n ≠ []) : n = nNN ∨ n = nNK ∨ n = nXX ∨ n = nIK ∨ n = nXK ∨ n = nKK ∨ n = nXF := by
 by_cases h0 : n = nNN
 ·exact .inl h0
 by_cases h1 : n = nNK
 ·exact .inr (.inl h1)
 by_cases h2 : n = nXX
 ·exact .inr (.inr (.inl h2))
 by_cases h3 : n = nIK
 ·exact .inr (.inr (.inr (.inl h3)))
 by_cases h4 : n = nXK
 ·exact .inr (.inr (.inr (.inr (.inl h4))))
 by_cases h5 : n = nKK
 ·exact .inr (.inr (.inr (.inr (.inr (.inl h5)))))
 by_cases h6 : n = nXF
 ·exact .inr (.inr (.inr (.inr (.inr (.inr h6)))))
 ·exact absurd (by rw [Za, if_neg h0, if_neg h1, if_neg h2, if_neg h3, if_neg h4, if_neg h5, if_neg h6]) h
abbrev zmI (L : List (List Nat)) (k : Nat) : Prop := ∀ w ∈ L, (∀ b ∈ w, b < 128) ∧ w.length ≤ k
theorem z4T {n : List Nat} (h : Za n ≠ []) : 4 ≤ (YQ n).length ∧ (YQ n).length ≤ 5 ∧ zmI (YQ n) 30 ∧ (∀ b ∈ Za n, b < 128) ∧ (Za n).length ≤ 40 := by
 rcases X3 h with rfl | rfl | rfl | rfl | rfl | rfl | rfl <;> decide
def z0L (L : List (List Nat)) (n : Int) : List (List Nat) := if n = 0 then L.set 2 ([112, 115, 107, 32] ++ L.getD 2 []) else L.set (1 + n.toNat) (L.getD (1 + n.toNat) [] ++ [32, 112, 115, 107])
theorem z6a (L : List (List Nat)) (n : Int) : (z0L L n).length = L.length := by unfold z0L; split <;> simp
def XG (L : List (List Nat)) (last : Int) : List Int → Nat × List (List Nat)
 | [] => (0, L)
 | n :: r => if n < 0 ∨ (L.length - 2 : Nat) < n then (6, []) else if n ≤ last then (3, []) else XG (z0L L n) n r
def wP (n : List Nat) (ps : List Int) : Nat × List (List Nat) := if Za n = [] then (5, []) else if 4 < ps.length then (1, []) else XG (YQ n) (-1) ps
theorem z1r {ps : List Int} {i : Nat} (h : i < ps.length) : ps.drop i = ps.getD i 0 :: ps.drop (i + 1) := by
 rw [List.drop_eq_getElem_cons h, List.getD_eq_getElem?_getD, List.getElem?_eq_getElem h]; rfl
theorem zc0 {L : List (List Nat)} {n : Int} (h : n = 0) : z0L L n = L.set 2 ([112, 115, 107, 32] ++ L.getD 2 []) := if_pos h
theorem zbl {L : List (List Nat)} {n : Int} {k : Nat} (h : n ≠ 0) (hk : n = (k : Int)) : z0L L n = L.set (1 + k) (L.getD (1 + k) [] ++ [32, 112, 115, 107]) := by
 unfold z0L; rw [if_neg h, hk]; rfl
theorem zcY {p q : Prop} [Decidable p] [Decidable q] (h : (decide p || decide q) = true) : p ∨ q := by
 rw [Bool.or_eq_true, decide_eq_true_iff, decide_eq_true_iff] at h; exact h
theorem zbh {p q : Prop} [Decidable p] [Decidable q] (h : (decide p || decide q) = false) : ¬ (p ∨ q) := fun x => by
 rw [Bool.or_eq_false_iff, decide_eq_false_iff_not, decide_eq_false_iff_not] at h
 exact x.elim h.1 h.2
abbrev Ya (base : List Nat) (late : Bool) (vp va vb vt : Value) : Array Value := zr 6 [pV (sv base), pV (.bool late), pV vp, pV va, pV vb, pV vt]
theorem z5 {B : Mem} {z n : Nat} {v : Value} {xs : List Value} (h : Shows B z v n xs) : v.oneCell' = true := by
 rcases h with ⟨_, _, oa, c, rfl, _⟩ | ⟨b, o, c, cs, t, rfl, _⟩ <;> rfl
theorem znu {Z : Array Value} (hZ : Z.size = 1) {a : Value} (ha : a.cells = #[a]) : Instr.fill (fun i => some (i * 1, 1)) Z [(0, a)] = some #[a] := by
 obtain ⟨p, rfl⟩ : ∃ p, Z = #[p] := by
  rcases Z with ⟨_ | ⟨p, _ | ⟨q, l⟩⟩⟩
  ·simp at hZ
  ·exact ⟨p, rfl⟩
  ·simp at hZ
 simp [Instr.fill, ha]
theorem V6 {Z : Array Value} (hZ : Z.size = 2) {a b : Value} (ha : a.cells = #[a]) (hb : b.cells = #[b]) : Instr.fill (fun i => some (i * 1, 1)) Z [(0, a), (1, b)] = some #[a, b] := by
 obtain ⟨p, q, rfl⟩ : ∃ p q, Z = #[p, q] := by
  rcases Z with ⟨_ | ⟨p, _ | ⟨q, _ | ⟨r, l⟩⟩⟩⟩
  ·simp at hZ
  ·simp at hZ
  ·exact ⟨p, q, rfl⟩
  ·simp at hZ
 simp [Instr.fill, ha, hb]
theorem Zw {base : List Nat} {late : Bool} {vp va vb vt : Value} (h1 : vp.oneCell' = true) (h2 : va.oneCell' = true) (h3 : vb.oneCell' = true) (h4 : vt.oneCell' = true) : ∀ v ∈ Ya base late vp va vb vt, v.oneCell' = true := za ⟨fun _ => rfl, fun _ => rfl, fun _ => h1, fun _ => h2, fun _ => h3, fun _ => h4, trivial⟩
def z5T (base : List Nat) (late : Bool) (vp : Value) (q0 q1 : List Nat) (us : List (List Nat)) (w : Value) (B : Mem) : Prop :=
 ∃ va vb vt tvs, w = .agg (Ya base late vp va vb vt) ∧ Shows B 1 va q0.length ((ci q0).map iv) ∧ Shows B 1 vb q1.length ((ci q1).map iv) ∧ Shows B 1 vt us.length tvs ∧ tvs.length = us.length ∧ zF B tvs (us.map ci)
theorem z6o (q : List Nat) : (ci q).map iv = q.map (fun x : Nat => ii x) := by unfold ci; rw [List.map_map]; rfl
theorem z0P {a b : List Int} (hl : a.length = b.length) (h : ∀ j, j < a.length → a.getD j 0 = b.getD j 0) : a = b := by
 apply List.ext_getElem hl
 intro j h1 h2
 have := h j h1
 rwa [List.getD_eq_getElem?_getD, List.getD_eq_getElem?_getD, List.getElem?_eq_getElem h1, List.getElem?_eq_getElem h2] at this
theorem Vc {a b : List (List Int)} (hl : a.length = b.length) (h : ∀ j, j < a.length → a.getD j [] = b.getD j []) : a = b := by
 apply List.ext_getElem hl
 intro j h1 h2
 have := h j h1
 rwa [List.getD_eq_getElem?_getD, List.getD_eq_getElem?_getD, List.getElem?_eq_getElem h1, List.getElem?_eq_getElem h2] at this
def z9x (ba bb : List Nat) (la lb : Bool) (pa pb q0a q0b q1a q1b : List Int) (ta tb : List (List Int)) : Bool := decide (ba = bb ∧ la = lb ∧ pa = pb ∧ q0a = q0b ∧ q1a = q1b ∧ ta = tb)
theorem zla {N : Nat} {t : List (List Int)} (h : ∀ l ∈ t, l.length ≤ N) (k : Nat) : (t.getD k []).length ≤ N := by
 rw [List.getD_eq_getElem?_getD]
 cases e : t[k]? with
 | none => simp
 | some l => exact h l (List.mem_of_getElem? e)
theorem ze1 {G : Mem} {v0 v1 v2 : Value} {vs : List Value} {a b c : List Int} {ls : List (List Int)} (h : zF G (v0 :: v1 :: v2 :: vs) (a :: b :: c :: ls)) : Shows G 1 v0 a.length (a.map iv) ∧ Shows G 1 v1 b.length (b.map iv) ∧ Shows G 1 v2 c.length (c.map iv) ∧ vs.length = ls.length ∧ ∀ i, i < ls.length → Shows G 1 (vs.getD i undef) (ls.getD i []).length ((ls.getD i []).map iv) :=
 ⟨h.2 0 (by simp), h.2 1 (by simp), h.2 2 (by simp), (zL (zL (zL h))).1, (zL (zL (zL h))).2⟩
end Go.Proofs.YtacflmjoigffpaaGreatDoor
namespace Go.Proofs.YtacflmjoigffpaaGreatDoor
open Go Go.ChangeShapes Go.WideShapes Go.ChangeAt Go.RowKit
structure TT where
 kind : Int
 id : Int
 other : Int
 args : List TT
theorem TT.ind {p : TT → Prop} (h : ∀ t : TT, (∀ a ∈ t.args, p a) → p t) (t : TT) : p t :=
 TT.rec (motive_1 := p) (motive_2 := fun l => ∀ a ∈ l, p a) (fun k i o l hl => h ⟨k, i, o, l⟩ hl) (by simp) (fun a l h1 h2 b hb => by rcases List.mem_cons.1 hb with rfl | hb; exact h1; exact h2 b hb) t
def TV (G : Mem) : TT → Value → Prop
 | ⟨k, i, o, l⟩, v => ∃ c xs, v = .agg #[iv k, iv i, iv o, c] ∧ l.length ≤ maxLen ∧ Shows G 4 c l.length xs ∧ ∀ a, a ∈ l → ∀ j, l[j]? = some a → TV G a (.agg ((xs.drop (j * 4)).take 4).toArray)
def TL (G : Mem) (l : List TT) (c : Value) (xs : List Value) : Prop := l.length ≤ maxLen ∧ Shows G 4 c l.length xs ∧ ∀ j (h : j < l.length), TV G l[j] (.agg ((xs.drop (j * 4)).take 4).toArray)
theorem z7i {G : Mem} {t : TT} {v : Value} : TV G t v ↔ ∃ c xs, v = .agg #[iv t.kind, iv t.id, iv t.other, c] ∧ TL G t.args c xs := by
 cases t
 rw [TV]
 constructor
 ·rintro ⟨c, xs, e, h1, h2, h3⟩
  exact ⟨c, xs, e, h1, h2, fun j hj => h3 _ (List.getElem_mem hj) j (List.getElem?_eq_getElem hj)⟩
 ·rintro ⟨c, xs, e, h1, h2, h3⟩
  refine ⟨c, xs, e, h1, h2, fun a _ j hj => ?_⟩
  obtain ⟨hj', rfl⟩ := List.getElem?_eq_some_iff.1 hj
  exact h3 j hj'
theorem TV.mono {G G' : Mem} (hs : ∀ x ∈ G, x ∈ G') {t : TT} : ∀ {v : Value}, TV G t v → TV G' t v := by
 refine TT.ind (p := fun t => ∀ {v : Value}, TV G t v → TV G' t v) (fun t ih v h => ?_) t
 obtain ⟨c, xs, e, h1, h2, h3⟩ := z7i.1 h
 exact z7i.2 ⟨c, xs, e, h1, h2.mono hs, fun j hj => ih _ (List.getElem_mem hj) (h3 j hj)⟩
theorem TL.mono {G G' : Mem} (hs : ∀ x ∈ G, x ∈ G') {l : List TT} {c : Value} {xs : List Value} (h : TL G l c xs) : TL G' l c xs :=
 ⟨h.1, h.2.1.mono hs, fun j hj => (h.2.2 j hj).mono hs⟩
theorem TL.at {G : Mem} {l : List TT} {c : Value} {xs : List Value} (h : TL G l c xs) {j : Nat} (hj : j < l.length) : ∃ c' ys, (xs.drop (j * 4)).take 4 = [iv l[j].kind, iv l[j].id, iv l[j].other, c'] ∧ TL G l[j].args c' ys := by
 obtain ⟨c', ys, e, hl⟩ := z7i.1 (h.2.2 j hj)
 refine ⟨c', ys, ?_, hl⟩
 have := congrArg (fun v => match v with | .agg a => a.toList | _ => []) e
 simpa using this
section
variable {P : Program} {H : Type} {enc : TypeId × Value → H}
end
end Go.Proofs.YtacflmjoigffpaaGreatDoor
namespace Go.Proofs.YtacflmjoigffpaaGreatDoor
open Go Go.RowKit
section
variable {P : Program} {G : Mem} {R : Reg} {ops : Array Oper} {K : Act → Mem → Prop} {rest : List Oper} {a : Act} {m : Mem} {d : Option Tmp} {ty : TypeId} {pos : String} {aft : Array Edge}
variable {T T' : TypeId} {x y : Operand}
end
section
variable {P : Program} {G : Mem} {R : Reg} {ops : Array Oper} {n : Nat} {K : Env → Mm → Prop} {rest : List Oper} {E : Env} {M : Mm} {d : Nat} {ty : TypeId} {pos : String} {aft : Array Edge}
variable {T T' : TypeId} {x y : Operand}
end
def TO (G : Mem) (L : List TT) (xs : List Value) : Prop := xs.length = L.length * 4 ∧ ∀ j (h : j < L.length), TV G L[j] (.agg ((xs.drop (j * 4)).take 4).toArray)
theorem TL.to {G : Mem} {L : List TT} {c : Value} {xs : List Value} (h : TL G L c xs) : TO G L xs := ⟨h.2.1.len, h.2.2⟩
theorem TO.mono {G G' : Mem} (hs : ∀ x ∈ G, x ∈ G') {L : List TT} {xs : List Value} (h : TO G L xs) : TO G' L xs := ⟨h.1, fun j hj => (h.2 j hj).mono hs⟩
end Go.Proofs.YtacflmjoigffpaaGreatDoor
namespace Go.Proofs.YtacflmjoigffpaaGreatDoor
open Go Go.RowKit
section
variable {P : Program} {G : Mem} {R : Reg} {ops : Array Oper} {n : Nat} {K : Env → Mm → Prop} {Q : Exit → Env → Mm → Prop} {rest : List Oper} {E : Env} {M : Mm} {d : Nat} {ty : TypeId} {pos : String} {aft : Array Edge}
end
end Go.Proofs.YtacflmjoigffpaaGreatDoor
namespace Go.Proofs.YtacflmjoigffpaaGreatDoor
def d26 (x j : Nat) : Nat := x / 2 ^ (26 * j) % 67108864
abbrev p5 (x : Nat) : Value := .agg (arr .u64 5 (d26 x))
def QQ : Nat := 2 ^ 130 - 5
theorem z4I : QQ = 1361129467683753853853498429727072845819 := by decide
theorem z3X : 0 < QQ := by decide
theorem zlc (T : Nat) : (T % 2 ^ 130 + 5 * (T / 2 ^ 130)) % QQ = T % QQ := by
 have e := Nat.div_add_mod T (2 ^ 130)
 generalize T / 2 ^ 130 = h at *
 generalize T % 2 ^ 130 = l at *
 have e3 : T = l + 5 * h + QQ * h := by rw [z4I]; omega
 rw [e3, Nat.add_mul_mod_self_left]
end Go.Proofs.YtacflmjoigffpaaGreatDoor
namespace Go.Proofs.YtacflmjoigffpaaGreatDoor
theorem orW (a b k : Nat) (hk : k ≤ 64) (ha : a < 2 ^ k) : (a ||| b * 2 ^ k % 18446744073709551616) % 18446744073709551616 = (a + b * 2 ^ k) % 18446744073709551616 := by
 have e64 : (18446744073709551616 : Nat) = 2 ^ (64 - k) * 2 ^ k := by rw [← Nat.pow_add, Nat.sub_add_cancel hk]
 have hb : b * 2 ^ k % 18446744073709551616 = b % 2 ^ (64 - k) * 2 ^ k := by rw [e64, Nat.mul_mod_mul_right]
 have ho : a ||| b % 2 ^ (64 - k) * 2 ^ k = a + b % 2 ^ (64 - k) * 2 ^ k := by
  rw [Nat.or_comm, Nat.mul_comm, ← Nat.two_pow_add_eq_or_of_lt ha, Nat.add_comm]
 rw [hb, ho, ← hb, Nat.add_mod_mod]
def w3 (f : Nat → Nat) : Nat := f 0 + f 1 * 2 ^ 64 + f 2 * 2 ^ 128
section
variable {f : Nat → Nat}
end
section
variable {x : Nat}
end
theorem zjG {f : Nat → Nat} {j v t : Nat} (h : t ≠ j) : upd f j v t = f t := by unfold upd; rw [if_neg h]
theorem zlH {f : Nat → Nat} {j v : Nat} : upd f j v j = v := by unfold upd; rw [if_pos rfl]
end Go.Proofs.YtacflmjoigffpaaGreatDoor
namespace Go.Proofs.YtacflmjoigffpaaGreatDoor
open Go Go.RowKit
abbrev PV (r p a h : Nat → Nat) (n : Int) : Value := .agg (zr 24 [pI .u64 2 r, pI .u64 2 p, pI .u64 3 a, pI .u8 16 h, pV (.int .i64 n)])
theorem z0b : ∀ (a b : List Nat), leN (a ++ b) = leN a + 256 ^ a.length * leN b
 | [], b => by simp [leN]
 | x :: a, b => by
  have := z0b a b
  simp only [List.cons_append, leN, List.length_cons]
  rw [this, Nat.pow_succ, Nat.mul_add, ← Nat.mul_assoc, Nat.mul_comm 256 (256 ^ a.length), Nat.add_assoc]
def w8 (l : List Nat) (j : Nat) : Nat := leN ((l.drop (8 * j)).take 8)
theorem z47 {l : List Nat} (hb : ∀ b ∈ l, b < 256) (i k : Nat) : ∀ b ∈ (l.drop i).take k, b < 256 := fun b h => hb b (List.mem_of_mem_drop (List.mem_of_mem_take h))
theorem Zt {l : List Nat} (hb : ∀ b ∈ l, b < 256) (j : Nat) : w8 l j < 18446744073709551616 := by
 unfold w8
 have h1 := z8p _ (z47 hb (8 * j) 8)
 have h2 : ((l.drop (8 * j)).take 8).length ≤ 8 := by rw [List.length_take]; omega
 have h3 : 256 ^ ((l.drop (8 * j)).take 8).length ≤ 256 ^ 8 := Nat.pow_le_pow_right (by decide) h2
 omega
theorem zeK {l : List Nat} (hb : ∀ b ∈ l, b < 256) (hl : l.length ≤ 16) : leN (l ++ [1]) < 2 * 2 ^ 128 := by
 have h1 := z8p l hb
 have h2 : 256 ^ l.length ≤ 256 ^ 16 := Nat.pow_le_pow_right (by decide) hl
 rw [z0b]
 simp only [leN]
 omega
def pst (R A : Nat) (l : List Nat) : Nat := (A + leN (l ++ [1])) % QQ * R % QQ
theorem z6k : QQ < 2 ^ 130 := by decide
theorem zfJ (x : Nat) : x % QQ < 2 ^ 130 := Nat.lt_trans (Nat.mod_lt _ z3X) z6k
def k3 (r : Nat → Nat) : Nat := r 0 + r 1 * 2 ^ 64
def msk (f : Nat → Nat) (j : Nat) : Nat := if j < 16 ∧ j % 4 = 3 then (f j &&& 15) % 256 else if 4 ≤ j ∧ j < 16 ∧ j % 4 = 0 then (f j &&& 252) % 256 else f j
theorem zkN {f : Nat → Nat} (hf : ∀ j, j < 32 → f j < 256) {j : Nat} (hj : j < 32) : msk f j < 256 := by
 unfold msk
 split
 ·exact Nat.mod_lt _ (by decide)
 ·split
  ·exact Nat.mod_lt _ (by decide)
  ·exact hf j hj
def bL (f : Nat → Nat) : List Nat := (List.range 32).map (msk f)
theorem zgF (f : Nat → Nat) : (bL f).length = 32 := by simp [bL]
theorem zeP {f : Nat → Nat} (hf : ∀ j, j < 32 → f j < 256) : ∀ b ∈ bL f, b < 256 := by
 intro b hb
 simp only [bL, List.mem_map, List.mem_range] at hb
 obtain ⟨j, hj, rfl⟩ := hb
 exact zkN hf hj
def lw (r : Nat → Nat) : List Nat := vG (r 0) 8 ++ vG (r 1) 8
theorem zn1 (r : Nat → Nat) : ∀ b ∈ lw r, b < 256 := by
 intro b h
 unfold lw at h
 rw [List.mem_append] at h
 rcases h with h | h
 ·exact Xa _ _ b h
 ·exact Xa _ _ b h
def kq (r : Nat → Nat) (j : Nat) : Nat := (lw r).getD j 0
theorem Zm {l : List Nat} (hl : ∀ b ∈ l, b < 256) (j : Nat) : l.getD j 0 < 256 := by
 rw [List.getD_eq_getElem?_getD]
 cases h : l[j]? with
 | none => simp
 | some v => exact hl v (List.mem_of_getElem? h)
theorem zmO (r : Nat → Nat) : ∀ j, j < 32 → kq r j < 256 := fun j _ => Zm (zn1 r) j
def YC (r a : Nat → Nat) (n : Int) : Bool := y4 2 (w8 (bL (kq r))) r && (decide (0 ≤ n) && (decide (n < 16) && (decide (a 2 < 4) && y4 3 (wd (w3 a % QQ)) a)))
def okh (n : Int) (h : Nat → Nat) (i : Nat) : Bool := (List.range i).all fun j => decide ((j : Int) < n) || decide (h j = 0)
theorem zmF {r a : Nat → Nat} {n : Int} (h0 : y4 2 (w8 (bL (kq r))) r = true) (h1 : 0 ≤ n) (h2 : n < 16) (h3 : a 2 < 4) (h4 : y4 3 (wd (w3 a % QQ)) a = true) : true = YC r a n := by
 unfold YC
 rw [h0, h4, decide_eq_true h1, decide_eq_true h2, decide_eq_true h3]
 rfl
def Zf (R A : Nat) (S : List Nat) : Nat → Nat
 | 0 => A
 | k + 1 => pst R (Zf R A S k) ((S.drop (16 * k)).take 16)
theorem zjM {R A : Nat} {S : List Nat} (hA : A < 2 ^ 130) : ∀ k, Zf R A S k < 2 ^ 130
 | 0 => hA
 | _ + 1 => zfJ _
theorem zkm {x : Nat} (hx : x < 2 ^ 130) : w3 (wd x) = x := by
 unfold w3 wd
 simp only [Nat.mul_zero, Nat.pow_zero, Nat.div_one, Nat.mul_one, Nat.reduceMul]
 omega
theorem zhg {x : Nat} (hx : x < 2 ^ 130) : wd x 2 < 4 := by
 unfold wd
 simp only [Nat.reduceMul]
 omega
def sS (h : Nat → Nat) (n : Nat) (l : List Nat) : List Nat := (List.range n).map h ++ l
theorem z4k (h : Nat → Nat) (n : Nat) (l : List Nat) : (sS h n l).length = n + l.length := by simp [sS]
theorem zko {h : Nat → Nat} {n : Nat} {l : List Nat} (hh : ∀ j, j < n → h j < 256) (hl : ∀ b ∈ l, b < 256) : ∀ b ∈ sS h n l, b < 256 := by
 intro b hb
 unfold sS at hb
 rw [List.mem_append] at hb
 rcases hb with hb | hb
 ·obtain ⟨j, hj, rfl⟩ := List.mem_map.1 hb
  exact hh j (List.mem_range.1 hj)
 ·exact hl b hb
def tgn (x y i : Nat) : Nat := (x + y) / 256 ^ i % 256
theorem zoK (i : Nat) : 0 < 256 ^ i := Nat.pow_pos (by decide)
theorem zmT (x : Nat) : k3 (wd x) = x % 2 ^ 128 := by
 unfold k3 wd
 simp only [Nat.mul_zero, Nat.pow_zero, Nat.div_one, Nat.mul_one]
 omega
theorem zkT {r : Nat → Nat} (h0 : r 0 < 18446744073709551616) {i : Nat} (hi : i < 16) : (lw r)[i]? = some (k3 r / 256 ^ i % 256) := by
 unfold lw
 by_cases h : i < 8
 ·rw [List.getElem?_append_left (by rw [xk]; exact h)]
  simp only [vG, List.getElem?_map, List.getElem?_range h, Option.map_some]
  congr 1
  unfold k3
  have : i = 0 ∨ i = 1 ∨ i = 2 ∨ i = 3 ∨ i = 4 ∨ i = 5 ∨ i = 6 ∨ i = 7 := by omega
  rcases this with rfl | rfl | rfl | rfl | rfl | rfl | rfl | rfl <;> simp only [Nat.reducePow] <;> omega
 ·rw [List.getElem?_append_right (by rw [xk]; omega), xk]
  simp only [vG, List.getElem?_map, List.getElem?_range (show i - 8 < 8 by omega), Option.map_some]
  congr 1
  unfold k3
  have : i = 8 ∨ i = 9 ∨ i = 10 ∨ i = 11 ∨ i = 12 ∨ i = 13 ∨ i = 14 ∨ i = 15 := by omega
  rcases this with rfl | rfl | rfl | rfl | rfl | rfl | rfl | rfl <;> simp only [Nat.reducePow, Nat.reduceSub] <;> omega
def xa (m : List Nat) : List Nat := m.drop (16 * (m.length / 16))
theorem Xg (m : List Nat) : (xa m).length = m.length % 16 := by simp [xa]; omega
theorem zgt {m : List Nat} (h : ∀ b ∈ m, b < 256) : ∀ b ∈ xa m, b < 256 := fun b hb => h b (List.mem_of_mem_drop hb)
def Wk (R : Nat) (m : List Nat) : Nat := Zf R 0 m (m.length / 16)
def Zi (m : List Nat) (i : Nat) : Nat := (xa m).getD i 0
theorem zjO : wd 0 = fun _ => 0 := by funext j; simp [wd]
theorem zmB (R A : Nat) (l : List Nat) : pst R A l < QQ := Nat.mod_lt _ z3X
theorem zeA {R A : Nat} {S : List Nat} (hA : A < QQ) : ∀ k, Zf R A S k < QQ
 | 0 => hA
 | _ + 1 => zmB _ _ _
theorem z4r (R : Nat) (m : List Nat) : Wk R m < QQ := zeA z3X _
theorem z5D (R A : Nat) (m l : List Nat) : ∀ k, 16 * k ≤ m.length → Zf R A (m ++ l) k = Zf R A m k
 | 0, _ => rfl
 | k + 1, h => by
  rw [Zf, Zf, z5D R A m l k (by omega), List.drop_append_of_le_length (by omega), List.take_append_of_le_length (by simp; omega)]
theorem z5Y (m l : List Nat) (k : Nat) : (m ++ l).drop (16 * (m.length / 16 + k)) = (xa m ++ l).drop (16 * k) := by
 have e : (m ++ l).drop (16 * (m.length / 16)) = xa m ++ l := List.drop_append_of_le_length (by omega)
 rw [← e, List.drop_drop, Nat.mul_add]
theorem z6L (R : Nat) (m l : List Nat) : ∀ k, Zf R 0 (m ++ l) (m.length / 16 + k) = Zf R (Wk R m) (xa m ++ l) k
 | 0 => z5D R 0 m l _ (by omega)
 | k + 1 => by
  show Zf R 0 (m ++ l) (m.length / 16 + k + 1) = _
  rw [Zf, Zf, z6L R m l k, z5Y]
theorem z9v (m l : List Nat) : sS (Zi m) (xa m).length l = xa m ++ l := by
 unfold sS
 congr 1
 apply List.ext_getElem
 ·simp
 ·intro j h1 h2
  simp only [List.getElem_map, List.getElem_range]
  unfold Zi
  rw [List.getD_eq_getElem?_getD, List.getElem?_eq_getElem h2]; rfl
theorem z4M (m l : List Nat) : m.length / 16 + (xa m ++ l).length / 16 = (m ++ l).length / 16 := by
 rw [List.length_append, List.length_append, Xg]; omega
theorem zeR (R : Nat) (m l : List Nat) : Zf R (Wk R m) (xa m ++ l) ((xa m ++ l).length / 16) = Wk R (m ++ l) := by
 rw [← z6L, z4M]; rfl
theorem zbA (m l : List Nat) : (xa m ++ l).drop (16 * ((xa m ++ l).length / 16)) = xa (m ++ l) := by
 rw [← z5Y, z4M]; rfl
theorem z94 : ∀ (L : List Nat), (∀ b ∈ L, b < 256) → ∀ i (h : i < L.length), leN L / 256 ^ i % 256 = L[i]
 | [], _, i, h => by simp at h
 | b :: L, hb, 0, _ => by
  have := hb b (by simp)
  simp only [leN, Nat.pow_zero, Nat.div_one, List.getElem_cons_zero]; omega
 | b :: L, hb, i + 1, h => by
  have := hb b (by simp)
  rw [Nat.pow_succ, Nat.mul_comm (256 ^ i), ← Nat.div_div_eq_div_mul]
  simp only [leN, List.getElem_cons_succ]
  rw [show (b + 256 * leN L) / 256 = leN L by omega]
  exact z94 L (fun x hx => hb x (by simp [hx])) i (by simpa using h)
theorem z6c {L : List Nat} (hb : ∀ b ∈ L, b < 256) {k : Nat} (hk : L.length = k) : vG (leN L) k = L := by
 apply List.ext_getElem
 ·simp [vG, hk]
 ·intro j h1 h2
  simp only [vG, List.getElem_map, List.getElem_range]
  exact z94 L hb j h2
theorem zne {L : List Nat} (hb : ∀ b ∈ L, b < 256) (hl : 16 ≤ L.length) : lw (w8 L) = L.take 16 := by
 unfold lw w8
 rw [z6c (z47 hb _ _) (by simp; omega), z6c (z47 hb _ _) (by simp; omega)]
 rw [show 8 * 0 = 0 by rfl, List.drop_zero, show 8 * 1 = 8 by rfl, show (16 : Nat) = 8 + 8 by rfl, List.take_add]
theorem zhz (f g : Nat → Nat) {j : Nat} (h : g j = msk f j) : msk g j = msk f j := by
 unfold msk at *
 by_cases h1 : j < 16 ∧ j % 4 = 3
 ·rw [if_pos h1] at h ⊢
  rw [if_pos h1, h]
  have : (f j &&& 15) % 256 = f j &&& 15 := Nat.mod_eq_of_lt (Nat.lt_of_le_of_lt Nat.and_le_right (by decide))
  rw [this, Nat.and_assoc]; simp [this]
 ·rw [if_neg h1] at h ⊢
  rw [if_neg h1]
  by_cases h2 : 4 ≤ j ∧ j < 16 ∧ j % 4 = 0
  ·rw [if_pos h2] at h ⊢
   rw [if_pos h2, h]
   have : (f j &&& 252) % 256 = f j &&& 252 := Nat.mod_eq_of_lt (Nat.lt_of_le_of_lt Nat.and_le_right (by decide))
   rw [this, Nat.and_assoc]; simp [this]
  ·rw [if_neg h2] at h ⊢
   rw [if_neg h2, h]
theorem Xf {f : Nat → Nat} (hf : ∀ j, j < 32 → f j < 256) : y4 2 (w8 (bL (kq (w8 (bL f))))) (w8 (bL f)) = true := by
 have hb := zeP hf
 have hl := zgF f
 rw [yu]
 intro j hj
 have hk : ∀ i, i < 16 → kq (w8 (bL f)) i = msk f i := fun i hi => by
  unfold kq
  rw [zne hb (by omega), List.getD_eq_getElem?_getD, List.getElem?_take, if_pos hi, List.getElem?_eq_getElem (by omega)]
  simp [bL]
 unfold w8
 congr 1
 apply List.ext_getElem
 ·simp [zgF]
 ·intro i h1 h2
  have hi : i < 8 := by simp at h1; omega
  simp only [List.getElem_take, List.getElem_drop, bL, List.getElem_map, List.getElem_range]
  exact zhz f _ (hk _ (by omega))
theorem zhS {r : Nat → Nat} {A n : Nat} {h : Nat → Nat} (hr : y4 2 (w8 (bL (kq r))) r = true) (hA : A < QQ) (hn : n < 16) (hh : ∀ j, n ≤ j → j < 16 → h j = 0) : (YC r (wd A) n && okh n h 16) = true := by
 have hA3 : A < 2 ^ 130 := Nat.lt_trans hA z6k
 rw [Bool.and_eq_true]
 refine ⟨(zmF hr (by omega) (by omega) (zhg hA3) ?_).symm, ?_⟩
 ·rw [zkm hA3, Nat.mod_eq_of_lt hA]
  exact yu.2 fun _ _ => rfl
 ·unfold okh
  rw [List.all_eq_true]
  intro j hj
  have hj := List.mem_range.1 hj
  by_cases hjn : j < n
  ·simp [hjn]
  ·simp [hh j (by omega) hj]
theorem z5V {r : Nat → Nat} (hr : y4 2 (w8 (bL (kq r))) r = true) (R : Nat) (m : List Nat) : (YC r (wd (Wk R m)) ((xa m).length : Nat) && okh ((xa m).length : Nat) (Zi m) 16) = true :=
 zhS hr (z4r R m) (by rw [Xg]; omega) fun j h1 _ => by
  unfold Zi
  rw [List.getD_eq_getElem?_getD, List.getElem?_eq_none h1]; rfl
theorem z6i {m : List Nat} (hm : ∀ b ∈ m, b < 256) (j : Nat) : Zi m j < 256 := Zm (zgt hm) j
abbrev cP (f : Nat → Nat) (m : List Nat) : Array Value := zr 24 [pI .u64 2 (w8 (bL f)), pI .u64 2 (fun j => w8 (bL f) (j + 2)), pI .u64 3 (wd (Wk (k3 (w8 (bL f))) m)), pI .u8 16 (Zi m), pV (.int .i64 ((xa m).length : Nat))]
abbrev stP (f : Nat → Nat) (m : List Nat) : Value := .agg (cP f m)
theorem zjA (f : Nat → Nat) : PV (w8 (bL f)) (fun j => w8 (bL f) (j + 2)) (fun _ => 0) (fun _ => 0) 0 = stP f [] := by
 have e1 : wd (Wk (k3 (w8 (bL f))) []) = fun _ => 0 := zjO
 have e2 : Zi [] = fun _ => 0 := by funext i; simp [Zi, xa]
 unfold stP cP
 rw [e1, e2]; rfl
def zm3 (R : Nat) (m : List Nat) : Nat := if (xa m).length = 0 then Wk R m else pst R (Wk R m) (xa m)
def ptg (f : Nat → Nat) (m : List Nat) (i : Nat) : Nat := tgn (k3 (wd (zm3 (k3 (w8 (bL f))) m))) (k3 fun j => w8 (bL f) (j + 2)) i
theorem zd5 (f : Nat → Nat) (m : List Nat) (i : Nat) : ptg f m i < 256 := Nat.mod_lt _ (by decide)
theorem zaW (m : List Nat) : (List.range (xa m).length).map (Zi m) = xa m := by
 have := z9v m []
 unfold sS at this
 simpa using this
end Go.Proofs.YtacflmjoigffpaaGreatDoor
