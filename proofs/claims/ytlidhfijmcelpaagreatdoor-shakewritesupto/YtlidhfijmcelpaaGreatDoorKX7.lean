import Derived.Test.YtlidhfijmcelpaaGreatDoorKX6
import Derived.Test.YtlidhfijmcelpaaGreatDoorRows
import Derived.ProofKit
import Derived.OpenShut
import Derived.LaidMore
import Derived.Lay
import Derived.MakeChecks
set_option maxRecDepth 30000
namespace Go.Proofs.YtlidhfijmcelpaaGreatDoor
open Go Go.RowKit
section
variable {P : Program} {G : Mem} {R : Reg} {ops : Array Oper} {K : Act → Mem → Prop} {rest : List Oper} {a : Act} {m : Mem} {d : Option Tmp} {ty : TypeId} {pos : String} {aft : Array Edge}
variable {T T' : TypeId} {x y : Operand}
theorem z5Z {e : TypeId} {oa : Option Addr} {len cap : Nat} (hT : P.underlying T = some (.slice e)) (hx : a.eval x = .slice oa len cap) (hy : a.eval y = yg) (h : z8 P G R ops K rest (a.put d (.bool oa.isNone)) m) :
  z8 P G R ops K (⟨d, .binOp .eql T x y T', ty, pos, aft, none⟩ :: rest) a m :=
 zI (fun w => by
  have h1 : (Op.equalIn 10000 T (.slice oa len cap) (.slice none 0 0)).run P w = .ok oa.isNone w := by
   unfold Op.equalIn
   rw [Sem.run_bind, run_underlying hT]
   cases oa <;> rfl
  rw [hx, hy]
  simp only [Sem.run_bind, eqGuard, binOp, Op.equal, Op.maxDepth]
  simp [h1]) h
end
section
variable {P : Program} {G : Mem} {R : Reg} {ops : Array Oper} {n : Nat} {K : Env → Mm → Prop} {Q : Exit → Env → Mm → Prop} {rest : List Oper} {E : Env} {M : Mm} {d : Nat} {ty : TypeId} {pos : String} {aft : Array Edge}
variable {T T' : TypeId} {x y : Operand}
theorem z3Q {e : TypeId} {v : Value} {B : Mem} {z k : Nat} {xs : List Value} (hv : Shows B z v k xs) (hT : P.underlying T = some (.slice e)) (hx : rd E x = some v) (hy : rd E y = some yg) (hd : Nat.blt d n = true)
  (h : ∀ b : Bool, (b = true → k = 0) → z2 P G R ops n K rest ((d, .bool b) :: E) M) : z2 P G R ops n K (⟨some d, .binOp .eql T x y T', ty, pos, aft, none⟩ :: rest) E M := fun _ _ ha hM => by
 rcases hv with ⟨h0, _, oa, cap, rfl, _⟩ | ⟨b, o, cap, c, t, rfl, _⟩
 ·exact z5Z hT (ha.rd hx) (ha.rd hy) (h _ (fun _ => h0) _ _ (ha.put hd _) hM)
 ·exact z5Z hT (ha.rd hx) (ha.rd hy) (h _ (fun hb => by cases hb) _ _ (ha.put hd _) hM)
theorem zh0 {oz : Option Blk} (i : Nat) (hi : lkM M i = oz) : ∀ q ∈ oz.toList, q ∈ G ∨ ∃ j, lkM M j = some q := fun q hq => by
 cases oz with
 | none => cases hq
 | some z =>
  simp at hq
  subst hq
  exact .inr ⟨i, hi⟩
end
section
variable {P : Program} {G : Mem} {R : Reg} {ops : Array Oper} {K : Act → Mem → Prop} {rest : List Oper} {a : Act} {m : Mem} {d : Option Tmp} {ty : TypeId} {pos : String} {aft : Array Edge}
variable {T T' : TypeId} {x y : Operand}
theorem zj2 {p q : Bool} (hT : P.underlying T = some .bool) (hx : a.eval x = .bool p) (hy : a.eval y = .bool q) (h : z8 P G R ops K rest (a.put d (.bool (p != q))) m) :
  z8 P G R ops K (⟨d, .binOp .neq T x y T', ty, pos, aft, none⟩ :: rest) a m :=
 zI (fun w => by
  have h1 : (Op.equalIn 10000 T (.bool p) (.bool q)).run P w = .ok (p == q) w := run_equalIn_bool' w 9999 T p q hT
  rw [hx, hy]
  simp only [Sem.run_bind, eqGuard, binOp, Op.equal, Op.maxDepth]
  simp [h1, bne]) h
end
section
variable {P : Program} {G : Mem} {R : Reg} {ops : Array Oper} {n : Nat} {K : Env → Mm → Prop} {rest : List Oper} {E : Env} {M : Mm} {d : Nat} {ty : TypeId} {pos : String} {aft : Array Edge}
variable {T T' : TypeId} {x y : Operand}
theorem zkv {p q : Bool} (hT : P.underlying T = some .bool) (hx : rd E x = some (.bool p)) (hy : rd E y = some (.bool q)) (hd : Nat.blt d n = true) (h : z2 P G R ops n K rest ((d, .bool (p != q)) :: E) M) :
  z2 P G R ops n K (⟨some d, .binOp .neq T x y T', ty, pos, aft, none⟩ :: rest) E M := fun _ _ ha hM => zj2 hT (ha.rd hx) (ha.rd hy) (h _ _ (ha.put hd _) hM)
end
section
variable {P : Program} {G : Mem} {n : Nat}
def zkl (P : Program) (S : Value → Mem → Prop) (fn : Func) : Exit → Env → Mm → Prop
 | .normal, E, M | .ret, E, M => ∃ r r' r'' v v' v'' fz, fn.results = #[r, r', r''] ∧ Res P E M r v ∧ Res P E M r' v' ∧ Res P E M r'' v'' ∧ S (.tuple #[v, v', v'']) fz ∧ Bag fz M
 | _, _, _ => False
theorem zhY {f : FuncId} {fn : Func} {c : Code} {args : Array Value} {S : Value → Mem → Prop} (hf : P.funcs[f]? = some fn) (hb : fn.body = some c) (hn : fn.ntmps = n) (ha : args.size ≤ n) (E : Env) (hE : ∀ t v, lk E t = some v → args[t]? = some v)
  (h : y8 P G c n (zkl P S fn) E []) : Fx P G [] f args (fun v l1 nw => l1 = [] ∧ S v nw) :=
 z0P hf hb (yC (h _ [] ⟨by simp [hn]; omega, rfl, fun t v ht => by
  have := hE t v ht
  have hlt := (Array.getElem?_eq_some_iff.1 this).1
  rw [Array.getElem?_append_left hlt]; exact this⟩ (FitsM.nil _)) fun e' a m ⟨E', M', h1, h0, h2⟩ => by
   have key : (∃ r r' r'' v v' v'' fz, fn.results = #[r, r', r''] ∧ Res P E' M' r v ∧ Res P E' M' r' v' ∧ Res P E' M' r'' v'' ∧ S (.tuple #[v, v', v'']) fz ∧ Bag fz M') → a.defers = [] ∧ ∃ v l1 nw, (l1 = [] ∧ S v nw) ∧ (nw.map (·.b)).Nodup ∧ (∀ x ∈ nw, x.b ∉ ([] : Mem).map (·.b)) ∧ (∀ x ∈ l1 ++ nw, x ∈ m) ∧ ∀ w, MemIn m w → (results fn a.tmps).run P w = .ok v w := fun ⟨r, r', r'', v, v', v'', fz, hr, hR, hR', hR'', ho, hb⟩ =>
    ⟨h1.defers, .tuple #[v, v', v''], [], fz, ⟨rfl, ho⟩, (h0.bag_in hb).1, by simp, fun x hx => (h0.bag_in hb).2 x (by simpa using hx), fun w hw => by
     have := yQ h1 h0 hw hR
     have t' := yQ h1 h0 hw hR'
     have t'' := yQ h1 h0 hw hR''
     rw [yV, hr, zdA]
     simp [this, t', t'']⟩
   cases e' <;> first | exact key h2 | exact h2.elim)
end
end Go.Proofs.YtlidhfijmcelpaaGreatDoor
namespace Go.Proofs.YtlidhfijmcelpaaGreatDoor
open Go Go.RowKit
theorem zgZ {late : Bool} {p0 p1 : List Int} {ts : List (List Int)} (h : zM late p0 p1 ts = 0) : ts.length ≤ 5 ∧ ∀ i, i < ts.length → ∃ q : List Nat, ts.getD i [] = ci q ∧ (∀ x ∈ q, 1 ≤ x ∧ x ≤ 7) ∧ q.length ≤ 6 := by
 unfold zM at h
 by_cases h0 : ts.length = 0 ∨ 5 < ts.length
 ·rw [if_pos h0] at h; cases h
 rw [if_neg h0] at h
 by_cases h1 : y4 (p0 :: p1 :: ts) = 0
 ·refine ⟨by omega, fun i hi => ?_⟩
  have hm : ts.getD i [] ∈ ts := by
   rw [List.getD_eq_getElem?_getD, List.getElem?_eq_getElem hi]; exact List.getElem_mem hi
  have hw := wU h1 _ (List.mem_cons_of_mem _ (List.mem_cons_of_mem _ hm))
  generalize ts.getD i [] = l at hw ⊢
  obtain ⟨hl, hw⟩ := hw
  rw [List.any_eq_false] at hw
  have hin : ∀ x ∈ l, 1 ≤ x ∧ x ≤ 7 := fun x hx => by
   have := hw x hx
   unfold xp at this
   simp only [Bool.or_eq_true, decide_eq_true_eq, not_or] at this
   omega
  refine ⟨l.map Int.toNat, ?_, fun x hx => ?_, by rw [List.length_map]; exact hl⟩
  ·rw [ci, List.map_map]
   exact ((List.map_congr_left (f := id) (fun x hx => by have := hin x hx; show x = ((x.toNat : Nat) : Int); omega)).symm.trans (List.map_id _)).symm
  ·obtain ⟨y, hy, rfl⟩ := List.mem_map.1 hx
   have := hin y hy; omega
 ·rw [if_neg h1] at h; exact absurd h h1
abbrev z7N (dd : Bool) (tn : Int) (n : Nat) (us : Int) (pf : Nat) : Bool := ((((dd || decide (tn < 0)) || decide ((n : Int) ≤ tn)) || decide (us < 0)) || decide (((pf : Nat) : Int) ≠ 0))
theorem ziq {dd : Bool} {tn us : Int} {n pf : Nat} {f0 late : Bool} (h : z7N dd tn n us pf = true) : YO dd tn n us f0 late pf = false := by
 unfold YO
 split
 ·rfl
 ·next h9 =>
  simp only [not_or] at h9
  obtain ⟨a, b, c, d⟩ := h9
  have : decide ((pf : Int) = 0) = false := by
   simp only [z7N, Bool.or_eq_true, decide_eq_true_eq] at h
   rcases h with ((((h | h) | h) | h) | h)
   ·exact absurd h a
   ·exact absurd h c
   ·exact absurd h d
   ·exact absurd h b
   ·exact decide_eq_false h
  rw [this, Bool.and_false]
theorem zdP {dd : Bool} {tn us : Int} {n pf : Nat} (h : z7N dd tn n us pf = false) : dd = false ∧ 0 ≤ tn ∧ tn < n ∧ 0 ≤ us ∧ pf = 0 := by
 simp only [z7N, Bool.or_eq_false_iff, decide_eq_false_iff_not] at h
 obtain ⟨⟨⟨⟨a, b⟩, c⟩, d⟩, e⟩ := h
 exact ⟨a, by omega, by omega, by omega, by omega⟩
theorem ziM {dd : Bool} {tq : Nat} {us : Int} {n pf : Nat} {f0 late : Bool} (h : z7N dd ((tq : Nat) : Int) n us pf = false) : YO dd ((tq : Nat) : Int) n us f0 late pf = (f0 == (decide (((tq % 2 : Nat) : Int) = 0) != late)) := by
 obtain ⟨a, b, c, d, e⟩ := zdP h
 unfold YO
 rw [if_neg (by rw [a]; simp only [not_or]; exact ⟨by decide, by omega, by omega, by omega⟩), e, Int.toNat_natCast]
 simp
theorem z5z (a b : Bool) : (a == b) = (b == a) := by cases a <;> cases b <;> rfl
end Go.Proofs.YtlidhfijmcelpaaGreatDoor
namespace Go.Proofs.YtlidhfijmcelpaaGreatDoor
open Go Go.ChangeShapes Go.WideShapes Go.ChangeAt Go.RowKit
section
variable {H : Type} {enc : TypeId × Value → H} {P : Program} {w : World} {base : Nat} {spare : Nat → Bool} {held : Bool}
end
theorem zgy (z : Int) (h : (Lit.int .u8 z).wf = true) : ∃ c : Nat, z = (c : Int) ∧ c < 256 := by
 have := zib z h
 exact ⟨z.toNat, by omega, by omega⟩
end Go.Proofs.YtlidhfijmcelpaaGreatDoor
namespace Go.Proofs.YtlidhfijmcelpaaGreatDoor
open Go Go.ChangeShapes Go.WideShapes Go.ChangeAt Go.RowKit
section
variable {P : Program} {G : Mem}
end
theorem zhc {cs : Array Value} {off : Nat} {v : Value} (h : (cs.toList.drop off).take 1 = [v]) : ∀ j, j < 1 → cs[off + j]? = some v := fun j hj => by
 have h0 : ((cs.toList.drop off).take 1)[0]? = some v := by rw [h]; rfl
 obtain rfl : j = 0 := by omega
 simpa using h0
theorem YL {cs : Array Value} {l : List Value} (h : (cs.toList.drop 0).take 6 = l) (i : Nat) (hi : i < 6) {v : Value} (hv : l[i]? = some v) : ∀ j, j < 1 → cs[i + j]? = some v := fun j hj => by
 obtain rfl : j = 0 := by omega
 rw [← h, List.getElem?_take_of_lt hi] at hv
 simpa using hv
theorem zkT {cs : Array Value} {off : Nat} {g : Nat → Nat} (h : ∀ j, j < 1 → cs[off + j]? = some (.int .u64 (g j : Int))) : ∀ j, j < 1 → cs[off + j]? = some (u (g 0)) := fun j hj => by
 obtain rfl : j = 0 := by omega
 exact h 0 hj
end Go.Proofs.YtlidhfijmcelpaaGreatDoor
namespace Go.Proofs.YtlidhfijmcelpaaGreatDoor
open Go Go.ChangeShapes Go.WideShapes Go.ChangeAt Go.RowKit
section
variable {H : Type} {enc : TypeId × Value → H} {P : Program} {t e : TypeId}
theorem zfh (d : DataW H) : 1 ≤ Rows.uptoBulk d := by
 cases d with
 | lit l => cases l <;> simp [Rows.uptoBulk]
 | _ => simp [Rows.uptoBulk]
theorem z0l : ∀ l : List (DataW H), l.length ≤ Rows.uptoBulkAll l
 | [] => by simp
 | d :: l => by
  have h1 := zfh d
  have h2 := z0l l
  simp only [Rows.uptoBulkAll, List.length_cons]
  omega
theorem W8 : ∀ {l : List (DataW H)} {j : Nat} {d : DataW H}, l[j]? = some d → Rows.uptoBulk d ≤ Rows.uptoBulkAll l
 | x :: l, 0, d, h => by
  have : x = d := by simpa using h
  subst this
  simp only [Rows.uptoBulkAll]; omega
 | x :: l, j + 1, d, h => by
  have := W8 (l := l) (j := j) (d := d) (by simpa using h)
  simp only [Rows.uptoBulkAll]; omega
theorem z8i {ds : List (DataW H)} (h : Rows.uptoSmall H ds = true) {j : Nat} {d : DataW H} (hd : ds[j]? = some d) : Rows.uptoBulk d ≤ 1048576 := Nat.le_trans (W8 hd) (of_decide_eq_true h)
theorem zaZ {W : World} {base : Nat} {s : Nat → Bool} {held : Bool} {v : Value} {d : DataW H} {ps : List MemPlace} {B : Mem} {n : Nat} {xs : List Value} (ht : P.underlying t = some (.slice e)) (he : P.underlying e = some (.int .u8)) (hc : P.cellsOf e = 1)
  (hd : DataW.Trod enc P W base s held t v d ps) (hw : Rows.uptoBulk d ≤ 1048576) (hv : Shows B 1 v n xs) : n ≤ 1048576 := by
 have hcell : ∃ a len cap, v = .slice a len cap := by
  rcases hv with ⟨_, _, oa, c, h1, _⟩ | ⟨b, o, c, cs, t, h1, _⟩
  ·exact ⟨_, _, _, h1⟩
  ·exact ⟨_, _, _, h1⟩
 obtain ⟨a0, len0, cap0, rfl⟩ := hcell
 have hn := z2k hv
 subst hn
 obtain ⟨fuel, hf⟩ := hd
 rcases open_ints ht he hc hf with ⟨h1, _⟩ | ⟨a, len, cap, zs, h1, _, hlc, hcm, hzl, hx, hz, _⟩
 ·have h1 : [Value.slice a0 len0 cap0] = [.slice none 0 0] := h1
  injection h1 with h1 _
  injection h1 with _ h2
  omega
 ·have h1 : [Value.slice a0 len0 cap0] = [.slice (some a) len cap] := h1
  injection h1 with h1 _
  injection h1 with _ h2
  have hlz : len ≤ zs.length := by rw [hzl]; split <;> omega
  injection hx with hx _
  subst hx
  have h3 := z0l (lits (H := H) .u8 (zs.take len))
  have hl : (lits (H := H) .u8 (zs.take len)).length = len := by simp [lits]; omega
  simp only [Rows.uptoBulk] at hw
  omega
end
end Go.Proofs.YtlidhfijmcelpaaGreatDoor
namespace Go.Proofs.YtlidhfijmcelpaaGreatDoor
open Go Go.ChangeShapes Go.WideShapes Go.ChangeAt Go.RowKit
def vu (P : Program) (G : Mem) : Nat → TypeId → List Value → Prop
 | 0, _, _ => False
 | d + 1, t, cs => match P.underlying t with
  | some (.int k) => ∃ z, cs = [.int k z] ∧ (Lit.int k z).wf = true
  | some .bool => ∃ b, cs = [.bool b]
  | some .string => ∃ l : List Nat, cs = [sv l] ∧ (∀ b ∈ l, b < 256) ∧ l.length ≤ maxLen
  | some (.struct fs) => cs.length = P.cellsOf t ∧ ∀ (i : Nat) f, fs[i]? = some f → vu P G d f.type ((cs.drop f.offset).take (P.cellsOf f.type))
  | some (.array n e) => cs.length = P.cellsOf t ∧ ∀ i, i < n → vu P G d e ((cs.drop (i * P.cellsOf e)).take (P.cellsOf e))
  | some (.slice e) => ∃ v xs n, cs = [v] ∧ n ≤ 1048576 ∧ Shows G (P.cellsOf e) v n xs ∧ ∀ i, i < n → vu P G d e ((xs.drop (i * P.cellsOf e)).take (P.cellsOf e))
  | _ => False
abbrev v6 (P : Program) (G : Mem) (t : TypeId) (cs : List Value) (d : Dat) : Prop := vu P G d t cs
section
variable {P : Program} {G : Mem}
theorem vD {G' : Mem} (hs : ∀ x ∈ G, x ∈ G') : ∀ (d : Nat) {t : TypeId} {cs : List Value}, vu P G d t cs → vu P G' d t cs
 | 0, _, _, h => h
 | d + 1, t, cs, h => by
  unfold vu at h ⊢
  cases hu : P.underlying t with
  | none => rw [hu] at h; exact h
  | some td =>
   rw [hu] at h
   cases td with
   | struct fs => exact ⟨h.1, fun i f hf => vD hs d (h.2 i f hf)⟩
   | array n e => exact ⟨h.1, fun i hi => vD hs d (h.2 i hi)⟩
   | slice e =>
    obtain ⟨v, xs, n, h1, h2, h3, h4⟩ := h
    exact ⟨v, xs, n, h1, h2, h3.mono hs, fun i hi => vD hs d (h4 i hi)⟩
   | _ => exact h
theorem z18 {W : World} {n d : Nat} (T : Nat → TypeId) (C : Nat → List Value) (h : ∀ i, i < n → ∃ G, vu P G d (T i) (C i) ∧ MemR G W) : ∃ G : Mem, MemR G W ∧ ∀ i, i < n → vu P G d (T i) (C i) := by
 induction n with
 | zero => exact ⟨[], by simp [MemR], fun i hi => absurd hi (Nat.not_lt_zero i)⟩
 | succ n ih =>
  obtain ⟨G, h2, h3⟩ := ih fun i hi => h i (by omega)
  obtain ⟨G', h4, h5⟩ := h n (by omega)
  refine ⟨G ++ G', fun x hx => (List.mem_append.1 hx).elim (h2 x) (h5 x), fun i hi => ?_⟩
  by_cases hin : i < n
  ·exact vD (fun x hx => List.mem_append_left _ hx) d (h3 i hin)
  ·obtain rfl : i = n := by omega
   exact vD (fun x hx => List.mem_append_right _ hx) d h4
variable {H : Type} {enc : TypeId × Value → H}
variable {H : Type} {enc : TypeId × Value → H}
theorem zbK {W : World} {base : Nat} {s : Nat → Bool} {held : Bool} {L : List TypeId} (hL : z31 P L = true) : ∀ (fuel : Nat) (t : TypeId) (cs : List Value) (x : DataW H × List MemPlace), t ∈ L → DataW.trod enc P W base s held fuel t cs = some x → Rows.uptoBulk x.1 ≤ 1048576 → ∃ G, vu P G fuel t cs ∧ MemR G W := by
 intro fuel
 induction fuel with
 | zero => intro t cs x _ h _; simp [DataW.trod] at h
 | succ m ih =>
  intro t cs x ht h hb9
  have hc := zbi hL ht
  cases hu : P.underlying t with
  | none => rw [hu] at hc; cases hc
  | some td =>
   rw [hu] at hc
   cases td with
   | int k =>
    obtain ⟨z, rfl, _, hw⟩ := DataW.trod_int hu h
    exact ⟨[], by unfold vu; rw [hu]; exact ⟨z, rfl, hw⟩, by simp [MemR]⟩
   | bool =>
    obtain ⟨b, rfl, _⟩ := DataW.trod_bool hu h
    exact ⟨[], by unfold vu; rw [hu]; exact ⟨b, rfl⟩, by simp [MemR]⟩
   | string =>
    obtain ⟨b, rfl, _, hm⟩ := DataW.trod_string hu h
    obtain ⟨l, hl, rfl⟩ := zcL b
    exact ⟨[], by unfold vu; rw [hu]; exact ⟨l, rfl, hl, by rw [← xH]; exact hm⟩, by simp [MemR]⟩
   | struct fs =>
    obtain ⟨xs, m', e1, hx9, hlen, hn, hel⟩ := DataW.trod_struct hu h
    have hb8 : Rows.uptoBulkAll (xs.map (·.1)) ≤ 1048576 := by rw [hx9] at hb9; simp only [Rows.uptoBulk] at hb9; omega
    have e1 : m = m' := by omega
    subst e1
    obtain ⟨G, h2, h3⟩ := z18 (P := P) (W := W) (n := fs.size) (d := m) (fun i => (fs[i]?.map (·.type)).getD 0) (fun i => match fs[i]? with
     | some f => (cs.drop f.offset).take (P.cellsOf f.type)
     | none => []) fun i hi => by
      have hf : fs[i]? = some fs[i] := Array.getElem?_eq_getElem hi
      have := hel i fs[i] hf
      rw [List.getElem?_eq_getElem (by omega)] at this
      have hmem : fs[i].type ∈ L := by
       have := (Array.all_eq_true.1 hc) i hi
       simpa using this
      simp only [hf, Option.map_some, Option.getD_some]
      exact ih _ _ _ hmem this (Nat.le_trans (W8 (j := i) (by rw [List.getElem?_map, List.getElem?_eq_getElem (by omega)]; rfl)) hb8)
    refine ⟨G, ?_, h2⟩
    unfold vu
    rw [hu]
    refine ⟨hlen, fun i f hf => ?_⟩
    have := h3 i (Array.getElem?_eq_some_iff.1 hf).1
    simp only [hf, Option.map_some, Option.getD_some] at this
    exact this
   | array n e =>
    obtain ⟨xs, m', e1, hx9, hlen, hn, hel⟩ := DataW.trod_array hu h
    have hb8 : Rows.uptoBulkAll (xs.map (·.1)) ≤ 1048576 := by rw [hx9] at hb9; simp only [Rows.uptoBulk] at hb9; omega
    have e1 : m = m' := by omega
    subst e1
    have hmem : e ∈ L := by simpa using hc
    obtain ⟨G, h2, h3⟩ := z18 (P := P) (W := W) (n := n) (d := m) (fun _ => e) (fun i => (cs.drop (i * P.cellsOf e)).take (P.cellsOf e)) fun i hi => by
     have := hel i hi
     rw [List.getElem?_eq_getElem (by omega)] at this
     exact ih _ _ _ hmem this (Nat.le_trans (W8 (j := i) (by rw [List.getElem?_map, List.getElem?_eq_getElem (by omega)]; rfl)) hb8)
    refine ⟨G, ?_, h2⟩
    unfold vu
    rw [hu]
    exact ⟨hlen, h3⟩
   | slice e =>
    have hc : (L.contains e && decide (0 < P.cellsOf e)) = true := hc
    rw [Bool.and_eq_true, decide_eq_true_eq] at hc
    have hmem : e ∈ L := by simpa using hc.1
    have hz := hc.2
    rcases DataW.trod_slice hu h with ⟨rfl, _⟩ | ⟨a, len, cap, elems, rest, m', e1, rfl, hx9, hb, hl, hm, hlen, hel, _, _⟩
    ·exact ⟨[], by unfold vu; rw [hu]; exact ⟨_, [], 0, rfl, Nat.zero_le _, .inl ⟨rfl, rfl, none, 0, rfl, fun _ => rfl⟩, fun i hi => absurd hi (Nat.not_lt_zero i)⟩, by simp [MemR]⟩
    have hb8 : Rows.uptoBulkAll (elems.map (·.1)) ≤ 1048576 := by rw [hx9] at hb9; simp only [Rows.uptoBulk] at hb9; omega
    have hl8 : len ≤ 1048576 := by have h9 := z0l (elems.map (·.1)); rw [List.length_map] at h9; omega
    have e1 : m = m' := by omega
    subst e1
    obtain ⟨z, hze⟩ : ∃ z, z = P.cellsOf e := ⟨_, rfl⟩
    rw [← hze] at hz hel
    have hE : ∀ i, i < len → ∃ ci y, W.cells? base (a.add (i * z)) z = some ci ∧ DataW.trod enc P W base s held m e ci = some y ∧ Rows.uptoBulk y.1 ≤ 1048576 := fun i hi => by
     have := hel i hi
     rw [List.getElem?_eq_getElem (by omega)] at this
     cases hcc : W.cells? base (a.add (i * z)) z with
     | none => rw [hcc] at this; cases this
     | some ci => rw [hcc] at this; exact ⟨ci, _, rfl, this, (Nat.le_trans (W8 (j := i) (by rw [List.getElem?_map, List.getElem?_eq_getElem (by omega)]; rfl)) hb8)⟩
    by_cases h0 : len = 0
    ·subst h0
     exact ⟨[], by unfold vu; rw [hu]; exact ⟨_, [], 0, rfl, Nat.zero_le _, .inl ⟨rfl, rfl, some a, cap, rfl, fun h => by cases h⟩, fun i hi => absurd hi (Nat.not_lt_zero i)⟩, by simp [MemR]⟩
    obtain ⟨c0, y0, hc0, _⟩ := hE 0 (by omega)
    obtain ⟨b, off, spot⟩ := a
    have hg0 := (World.cells?_some hc0).2.2 0 hz
    have hl0 := (World.cells?_some hc0).2.1
    rw [List.getElem?_eq_getElem (by omega)] at hg0
    have hspot : spot = none := by simpa [Addr.add] using World.cell?_spot hg0
    subst hspot
    obtain ⟨cs0, et, fr, hbk⟩ := Vc (b := b) (o := off) (by simpa [Addr.add] using hg0)
    have hcl : ∀ o, W.cell? ⟨b, o, none⟩ = cs0[o]? := fun o => by simp [World.cell?, hbk]
    have hadd : ∀ i r, (Addr.add (Addr.add ⟨b, off, none⟩ (i * z)) r) = ⟨b, off + (i * z + r), none⟩ := fun i r => by
     rw [Go.WideShapes.add_plain, Go.WideShapes.add_plain, Nat.add_assoc]
    have hcell : ∀ i, i < len → ∀ ci, W.cells? base (Addr.add ⟨b, off, none⟩ (i * z)) z = some ci → ∀ r, r < z → cs0[off + (i * z + r)]? = ci[r]? := fun i _ ci hci r hr => by
     rw [← hcl, ← hadd i r]
     exact (World.cells?_some hci).2.2 r hr
    have hbound : off + len * z ≤ cs0.size := by
     obtain ⟨ci, y, hci, _⟩ := hE (len - 1) (by omega)
     have h1 := hcell (len - 1) (by omega) ci hci (z - 1) (by omega)
     rw [List.getElem?_eq_getElem (by have := (World.cells?_some hci).2.1; omega)] at h1
     have h2 := (Array.getElem?_eq_some_iff.1 h1).1
     have h3 : (len - 1) * z + z = len * z := by rw [← Nat.succ_mul]; congr 1; omega
     omega
    obtain ⟨xs, hxs⟩ : ∃ xs, xs = (cs0.toList.drop off).take (len * z) := ⟨_, rfl⟩
    have hxl : xs.length = len * z := by rw [hxs]; simp; omega
    have hxj : ∀ j, j < len * z → xs[j]? = cs0[off + j]? := fun j hj => by rw [hxs, List.getElem?_take_of_lt hj, List.getElem?_drop]; simp
    obtain ⟨G, h2, h3⟩ := z18 (P := P) (W := W) (n := len) (d := m) (fun _ => e) (fun i => (xs.drop (i * z)).take z) fun i hi => by
     obtain ⟨ci, y, hci, hy, hyb⟩ := hE i hi
     have hcl2 := (World.cells?_some hci).2.1
     have hle : i * z + z ≤ len * z := by rw [← Nat.succ_mul]; exact Nat.mul_le_mul_right _ hi
     have : (xs.drop (i * z)).take z = ci := by
      apply List.ext_getElem?
      intro r
      by_cases hr : r < z
      ·rw [List.getElem?_take_of_lt hr, List.getElem?_drop, hxj _ (by omega)]
       exact hcell i hi ci hci r hr
      ·rw [List.getElem?_eq_none (by rw [List.length_take]; omega), List.getElem?_eq_none (by omega)]
     rw [this]
     exact ih _ _ _ hmem hy hyb
    refine ⟨⟨b, cs0, et⟩ :: G, ?_, fun x hx => ?_⟩
    ·unfold vu
     rw [hu]
     refine ⟨_, xs, len, rfl, hl8, .inr ⟨b, off, cap, cs0, et, rfl, by omega, List.mem_cons_self, by rw [← hze]; exact hxl, by rw [← hze]; exact hbound, fun j u hj => ?_⟩, fun i hi => ?_⟩
     ·rw [← hxj j (by rw [← hxl]; exact (List.getElem?_eq_some_iff.1 hj).1)]; exact hj
     ·rw [← hze]
      exact vD (fun x hx => List.mem_cons_of_mem _ hx) m (h3 i hi)
    ·rcases List.mem_cons.1 hx with rfl | hx
     ·exact ⟨(Array.getElem?_eq_some_iff.1 hbk).1, fun o _ => hcl o⟩
     ·exact h2 x hx
   | _ => cases hc
theorem zat {W : World} {base : Nat} {s : Nat → Bool} {held : Bool} {t : TypeId} {v : Value} {d : DataW H} {ps : List MemPlace} (L : List TypeId) (hL : z31 P L = true) (ht : t ∈ L) (hd : DataW.Trod enc P W base s held t v d ps) (hb9 : Rows.uptoBulk d ≤ 1048576) : ∃ x G, v6 P G t v.cells.toList x ∧ MemR G W := by
 obtain ⟨fuel, hf⟩ := hd
 exact ⟨fuel, zbK hL fuel t _ _ ht hf hb9⟩
end
section
variable {P : Program} {G : Mem}
theorem z4H {t : TypeId} {cs : List Value} {d : Dat} {k : IntKind} (hu : P.underlying t = some (.int k)) (h : v6 P G t cs d) : ∃ z, cs = [.int k z] ∧ (Lit.int k z).wf = true := by
 cases d with
 | zero => exact h.elim
 | succ d => unfold v6 vu at h; rw [hu] at h; exact h
theorem zb3 {t : TypeId} {cs : List Value} {d : Dat} (hu : P.underlying t = some .bool) (h : v6 P G t cs d) : ∃ b, cs = [.bool b] := by
 cases d with
 | zero => exact h.elim
 | succ d => unfold v6 vu at h; rw [hu] at h; exact h
theorem zeX {t : TypeId} {cs : List Value} {d : Dat} (hu : P.underlying t = some .string) (h : v6 P G t cs d) : ∃ l : List Nat, cs = [sv l] ∧ (∀ b ∈ l, b < 256) ∧ l.length ≤ maxLen := by
 cases d with
 | zero => exact h.elim
 | succ d => unfold v6 vu at h; rw [hu] at h; exact h
theorem Vd {t : TypeId} {cs : List Value} {d : Dat} {fs : Array Field} (hu : P.underlying t = some (.struct fs)) (h : v6 P G t cs d) : ∃ d', cs.length = P.cellsOf t ∧ ∀ (i : Nat) f, fs[i]? = some f → v6 P G f.type ((cs.drop f.offset).take (P.cellsOf f.type)) d' := by
 cases d with
 | zero => exact h.elim
 | succ d => unfold v6 vu at h; rw [hu] at h; exact ⟨d, h⟩
theorem YW {t e : TypeId} {cs : List Value} {d : Dat} (hu : P.underlying t = some (.slice e)) (h : v6 P G t cs d) : ∃ d' v xs n, cs = [v] ∧ n ≤ 1048576 ∧ Shows G (P.cellsOf e) v n xs ∧ ∀ i, i < n → v6 P G e ((xs.drop (i * P.cellsOf e)).take (P.cellsOf e)) d' := by
 cases d with
 | zero => exact h.elim
 | succ d => unfold v6 vu at h; rw [hu] at h; exact ⟨d, h⟩
theorem YS {α : Type} {e : TypeId} {z n : Nat} {d : Dat} (C : α → List Value) (Q : α → Prop) {xs : List Value} (hx : xs.length = n * z) (hE : ∀ cs d, v6 P G e cs d → ∃ x, cs = C x ∧ Q x)
  (he : ∀ i, i < n → v6 P G e ((xs.drop (i * z)).take z) d) : ∃ rs : List α, rs.length = n ∧ xs = rs.flatMap C ∧ ∀ r ∈ rs, Q r := by
 induction n generalizing xs with
 | zero => exact ⟨[], rfl, by simpa using hx, by simp⟩
 | succ m ih =>
  have h0 := he 0 (by omega)
  rw [Nat.zero_mul, List.drop_zero] at h0
  obtain ⟨r, hr, hq⟩ := hE _ _ h0
  obtain ⟨rs, h1, h2, h3⟩ := ih (xs := xs.drop z) (by rw [List.length_drop, hx, Nat.succ_mul]; omega) fun i hi => by
   have := he (i + 1) (by omega)
   rw [List.drop_drop, show z + i * z = (i + 1) * z by rw [Nat.succ_mul]; omega]
   exact this
  refine ⟨r :: rs, by simp [h1], ?_, fun x hx' => ?_⟩
  ·rw [List.flatMap_cons, ← h2, ← hr, List.take_append_drop]
  ·rcases List.mem_cons.1 hx' with rfl | hx'
   ·exact hq
   ·exact h3 x hx'
theorem z0u {t e : TypeId} {n : Nat} {cs : List Value} {d : Dat} (hu : P.underlying t = some (.array n e)) (h : v6 P G t cs d) : ∃ d', cs.length = P.cellsOf t ∧ ∀ i, i < n → v6 P G e ((cs.drop (i * P.cellsOf e)).take (P.cellsOf e)) d' := by
 cases d with
 | zero => exact h.elim
 | succ d => unfold v6 vu at h; rw [hu] at h; exact ⟨d, h⟩
theorem Yt {t e : TypeId} {cs : List Value} {d : Dat} (hu : P.underlying t = some (.slice e)) (he : P.underlying e = some (.int .i64)) (hc : P.cellsOf e = 1) (h : v6 P G t cs d) : ∃ v, ∃ l : List Int, cs = [v] ∧ Shows G 1 v l.length (l.map iv) ∧ l.length ≤ 1048576 ∧ ∀ z ∈ l, (Lit.int .i64 z).wf = true := by
 obtain ⟨d', v, xs, n, rfl, hm, hv, hE⟩ := YW hu h
 rw [hc] at hv hE
 obtain ⟨l, h1, rfl, h3⟩ := YS (fun z => [iv z]) (fun z => (Lit.int .i64 z).wf = true) hv.len (fun cs d h => by
  obtain ⟨z, h1, h2⟩ := z4H he h
  exact ⟨z, h1, h2⟩) hE
 rw [← h1, VN] at hv
 exact ⟨v, l, rfl, hv, by omega, h3⟩
theorem z7E {t s e : TypeId} {cs : List Value} {d : Dat} (hu : P.underlying t = some (.slice s)) (hs : P.underlying s = some (.slice e)) (he : P.underlying e = some (.int .i64)) (hcs : P.cellsOf s = 1) (hc : P.cellsOf e = 1) (h : v6 P G t cs d) : ∃ v vs ls, cs = [v] ∧ Shows G 1 v vs.length vs ∧ zn G vs ls ∧ vs.length ≤ 1048576 ∧ ∀ q ∈ ls, q.length ≤ 1048576 := by
 obtain ⟨d', v, xs, n, rfl, hm, hv, hE⟩ := YW hu h
 rw [hcs] at hv hE
 obtain ⟨l, h1, rfl, h3⟩ := YS (fun p : Value × List Int => [p.1]) (fun p => Shows G 1 p.1 p.2.length (p.2.map iv) ∧ p.2.length ≤ 1048576) hv.len (fun cs d h => by
  obtain ⟨w, q, h1, h2, h3, _⟩ := Yt hs he hc h
  exact ⟨(w, q), h1, h2, h3⟩) hE
 rw [VN (fun p : Value × List Int => p.1)] at hv
 refine ⟨v, l.map (·.1), l.map (·.2), rfl, by rw [List.length_map, h1]; exact hv, ⟨by simp, fun i hi => ?_⟩, by rw [List.length_map]; omega, fun q hq => by obtain ⟨x, hx, rfl⟩ := List.mem_map.1 hq; exact (h3 x hx).2⟩
 have hi' : i < l.length := by simpa using hi
 have := (h3 l[i] (List.getElem_mem hi')).1
 simpa [List.getD_eq_getElem?_getD, hi'] using this
theorem zeY {t ar sl ss e : TypeId} {cs : List Value} {d : Dat} {f0 f1 f2 f3 f4 : Field} (ht : P.underlying t = some (.struct #[f0, f1, f2, f3, f4])) (hc : P.cellsOf t = 6)
  (o0 : f0.offset = 0) (o1 : f1.offset = 1) (o2 : f2.offset = 2) (o3 : f3.offset = 3) (o4 : f4.offset = 5) (t2 : f2.type = sl) (t3 : f3.type = ar) (t4 : f4.type = ss) (u0 : P.underlying f0.type = some .string) (u1 : P.underlying f1.type = some .bool) (u2 : P.underlying sl = some (.slice e)) (u3 : P.underlying ar = some (.array 2 sl)) (u4 : P.underlying ss = some (.slice sl)) (u5 : P.underlying e = some (.int .i64))
  (c0 : P.cellsOf f0.type = 1) (c1 : P.cellsOf f1.type = 1) (c2 : P.cellsOf sl = 1) (c3 : P.cellsOf ar = 2) (c4 : P.cellsOf ss = 1) (c5 : P.cellsOf e = 1) (h : v6 P G t cs d) :
  ∃ (base : List Nat) (late : Bool) (vp v0 v1 vt : Value) (ps p0 p1 : List Int) (tvs : List Value) (ts : List (List Int)), cs = [sv base, .bool late, vp, v0, v1, vt] ∧ (∀ b ∈ base, b < 256) ∧ base.length ≤ maxLen ∧ (Shows G 1 vp ps.length (ps.map iv) ∧ ps.length ≤ 1048576) ∧ Shows G 1 vt tvs.length tvs ∧ (zn G (v0 :: v1 :: tvs) (p0 :: p1 :: ts) ∧ tvs.length ≤ 1048576 ∧ ∀ q ∈ p0 :: p1 :: ts, q.length ≤ 1048576) := by
 obtain ⟨d', hl, he⟩ := Vd ht h
 rw [hc] at hl
 match cs, hl with
 | [w0, w1, w2, w3, w4, w5], _ =>
  have e0 := he 0 f0 rfl
  have e1 := he 1 f1 rfl
  have e2 := he 2 f2 rfl
  have e3 := he 3 f3 rfl
  have e4 := he 4 f4 rfl
  rw [o0, c0] at e0
  rw [o1, c1] at e1
  rw [o2, t2, c2] at e2
  rw [o3, t3, c3] at e3
  rw [o4, t4, c4] at e4
  obtain ⟨base, h0, hb, hm⟩ := zeX u0 e0
  obtain ⟨late, h1⟩ := zb3 u1 e1
  obtain ⟨vp, ps, h2, hp, hpm, _⟩ := Yt u2 u5 c5 e2
  obtain ⟨vt, tvs, ts, h4, hvt, hT, hTm, hTq⟩ := z7E u4 u2 u5 c2 c5 e4
  obtain ⟨d2, _, hee⟩ := z0u u3 e3
  rw [c2] at hee
  obtain ⟨v0, p0, h5, hv0, hm0, _⟩ := Yt u2 u5 c5 (hee 0 (by decide))
  obtain ⟨v1, p1, h6, hv1, hm1, _⟩ := Yt u2 u5 c5 (hee 1 (by decide))
  simp at h0 h1 h2 h4 h5 h6
  refine ⟨base, late, vp, v0, v1, vt, ps, p0, p1, tvs, ts, by rw [h0, h1, h2, h4, h5, h6], hb, hm, ⟨hp, hpm⟩, hvt, ⟨by simp [hT.1], fun i hi => ?_⟩, hTm, fun q hq => ?_⟩
  case refine_2 =>
   rcases List.mem_cons.1 hq with rfl | hq
   ·exact hm0
   rcases List.mem_cons.1 hq with rfl | hq
   ·exact hm1
   ·exact hTq q hq
  match i with
  | 0 => exact hv0
  | 1 => exact hv1
  | i + 2 => exact hT.2 i (by simpa using hi)
theorem zfO {t e : TypeId} {cs : List Value} {d : Dat} (ht : P.underlying t = some (.array 32 e)) (he : P.underlying e = some (.int .u8)) (hc : P.cellsOf e = 1) (hct : P.cellsOf t = 32) (h : v6 P G t cs d) : ∃ f, cs = z3Y f ∧ B32 f := by
 obtain ⟨d', hl, hi⟩ := z0u ht h
 rw [hct] at hl
 rw [hc] at hi
 have key : ∀ i, i < 32 → ∃ c : Nat, cs[i]? = some (by8 c) ∧ c < 256 := fun i h32 => by
  obtain ⟨z, h1, h2⟩ := z4H he (hi i h32)
  obtain ⟨c, rfl, hc2⟩ := zgy z h2
  rw [Nat.mul_one] at h1
  have h3 : ((cs.drop i).take 1)[0]? = some (by8 c) := by rw [h1]; rfl
  exact ⟨c, by simpa using h3, hc2⟩
 refine ⟨fun i => match cs[i]? with
  | some (.int _ z) => z.toNat
  | _ => 0, ?_, fun i h32 => ?_⟩
 ·apply List.ext_getElem?
  intro i
  by_cases h32 : i < 32
  ·obtain ⟨c, h1, _⟩ := key i h32
   rw [h1]
   simp [z3Y, ky, List.getElem?_range h32, h1]
  ·rw [List.getElem?_eq_none (by omega), List.getElem?_eq_none (by simp; omega)]
 ·obtain ⟨c, h1, h2⟩ := key i h32
  simp only [h1]
  simpa using h2
theorem z9y {t k e : TypeId} {cs : List Value} {d : Dat} (hu : P.underlying t = some (.slice k)) (ht : P.underlying k = some (.array 32 e)) (he : P.underlying e = some (.int .u8)) (hc : P.cellsOf e = 1) (hct : P.cellsOf k = 32) (h : v6 P G t cs d) :
  ∃ v, ∃ ps : List (Nat → Nat), cs = [v] ∧ Shows G 32 v ps.length (psC ps) ∧ (∀ p ∈ ps, B32 p) ∧ ps.length ≤ 1048576 := by
 obtain ⟨d', v, xs, n, rfl, hm, hv, hE⟩ := YW hu h
 rw [hct] at hv hE
 obtain ⟨l, h1, rfl, h3⟩ := YS z3Y B32 hv.len (fun cs d h => zfO ht he hc hct h) hE
 exact ⟨v, l, rfl, by rw [h1]; exact hv, h3, by omega⟩
end
end Go.Proofs.YtlidhfijmcelpaaGreatDoor
namespace Go.Proofs.YtlidhfijmcelpaaGreatDoor
open Go.ChangeShapes Go.WideShapes Go.ChangeAt Go.RowKit
section
variable {P : Program} {W : World}
def RdT (P : Program) (W : World) (t : TypeId) (cs : List Value) (d : DataW Unit) : Prop := ∃ fuel p, DataW.trod (fun _ => ()) P W 0 (fun _ => true) false fuel t cs = some (d, p)
def z9E (P : Program) (W : World) (n : String) (d : DataW Unit) : Prop := ∃ g t cs, P.globalNamed n = some g ∧ (P.globals[g]?).map (·.type) = some t ∧ W.var? P n = some cs ∧ RdT P W t cs.toList d
theorem z1y : ∀ {l : List (String × DataW Unit)} {ps : List MemPlace}, DataW.LaidVars P W l ps → ∀ x ∈ l, z9E P W x.1 x.2
 | [], _, _, x, hx => absurd hx List.not_mem_nil
 | (n, d) :: r, ps, h, x, hx => by
  obtain ⟨g, t, cs, fuel, p, q, h1, h2, h3, h4, h5, _⟩ := h
  rcases List.mem_cons.1 hx with rfl | hx
  ·exact ⟨g, t, cs, h1, h2, h3, fuel, p, h4⟩
  ·exact z1y h5 x hx
theorem zbq {l : List (String × DataW Unit)} (hp : (l.all fun x => x.2.handleName?.isNone) = true) (h : laidMetH P l W) : ∀ x ∈ l, z9E P W x.1 x.2 := by
 rw [MakeChecks.laidMetH_plain _ _ _ hp] at h
 obtain ⟨ps, h1, _⟩ := h
 exact z1y h1
theorem zhs {cs : List Value} {r : Nat} {v : Value} (h : (cs.drop r).take 1 = [v]) : cs[r]? = some v := by
 have h0 : ((cs.drop r).take 1)[0]? = some v := by rw [h]; rfl
 simpa using h0
theorem z3J {k : IntKind} {N : Nat} {e T : TypeId} {zs : List Int} {cs : List Value} (hT : P.underlying T = some (.array N e)) (he : P.underlying e = some (.int k)) (hc : P.cellsOf e = 1) (h : RdT P W T cs (.agg (zs.map fun n => .lit (.int k n)))) : ∀ r, r < N → cs[r]? = some (.int k (zs.getD r 0)) := by
 obtain ⟨fuel, p, hd⟩ := h
 obtain ⟨xs, m, _, ex, _, hl, hel⟩ := DataW.trod_array hT hd
 have e3 : (xs.map (·.1)) = zs.map fun n => .lit (.int k n) := (DataW.agg.inj (Prod.mk.inj ex).1).symm
 have hlen : zs.length = N := by
  have := congrArg List.length e3
  simpa [hl] using this.symm
 intro r hr
 have hE := hel r hr
 rw [hc, Nat.mul_one, List.getElem?_eq_getElem (by omega)] at hE
 obtain ⟨z, e1, e2, _⟩ := DataW.trod_int he hE
 have e4 : (xs.map (·.1))[r]? = (zs.map fun n => (DataW.lit (.int k n) : DataW Unit))[r]? := by rw [e3]
 rw [List.getElem?_map, List.getElem?_map, List.getElem?_eq_getElem (by omega : r < xs.length), List.getElem?_eq_getElem (by omega : r < zs.length), e2] at e4
 have hz : z = zs.getD r 0 := by
  simp only [Option.map_some, Option.some.injEq, DataW.lit.injEq, Lit.int.injEq, true_and] at e4
  rw [e4, List.getD, List.getElem?_eq_getElem (by omega : r < zs.length)]; rfl
 rw [← hz]
 exact zhs e1
theorem zgV {k : IntKind} {M N : Nat} {e E T : TypeId} {rs : List (List Int)} {cs : List Value} (hT : P.underlying T = some (.array M E)) (hE : P.underlying E = some (.array N e)) (he : P.underlying e = some (.int k)) (hc : P.cellsOf e = 1) (hcE : P.cellsOf E = N)
  (h : RdT P W T cs (.agg (rs.map fun row => .agg (row.map fun n => .lit (.int k n))))) : ∀ r, r < M * N → cs[r]? = some (.int k ((rs.getD (r / N) []).getD (r % N) 0)) := by
 obtain ⟨fuel, p, hd⟩ := h
 obtain ⟨xs, m, _, ex, _, hl, hel⟩ := DataW.trod_array hT hd
 have e3 : (xs.map (·.1)) = rs.map fun row => .agg (row.map fun n => .lit (.int k n)) := (DataW.agg.inj (Prod.mk.inj ex).1).symm
 have hlen : rs.length = M := by
  have := congrArg List.length e3
  simpa [hl] using this.symm
 intro r hr
 have hN : 0 < N := Nat.pos_of_ne_zero fun h0 => by subst h0; simp at hr
 have hi : r / N < M := Nat.div_lt_of_lt_mul (by rw [Nat.mul_comm]; exact hr)
 have hj : r % N < N := Nat.mod_lt _ hN
 have hR := hel (r / N) hi
 rw [hcE, List.getElem?_eq_getElem (by omega)] at hR
 have e4 : (xs.map (·.1))[r / N]? = (rs.map fun row => (DataW.agg (row.map fun n => .lit (.int k n)) : DataW Unit))[r / N]? := by rw [e3]
 rw [List.getElem?_map, List.getElem?_map, List.getElem?_eq_getElem (by omega : r / N < xs.length), List.getElem?_eq_getElem (by omega : r / N < rs.length)] at e4
 simp only [Option.map_some, Option.some.injEq] at e4
 have hg : rs.getD (r / N) [] = rs[r / N] := by rw [List.getD, List.getElem?_eq_getElem (by omega : r / N < rs.length)]; rfl
 rw [hg]
 have hrow := z3J (P := P) (W := W) (zs := rs[r / N]) hE he hc ⟨m, (xs[r / N]).2, by rw [hR, ← e4]⟩ (r % N) hj
 rw [← hrow, List.getElem?_take_of_lt hj, List.getElem?_drop]
 congr 1
 have := Nat.div_add_mod r N
 rw [Nat.mul_comm]; omega
theorem z2W {n : String} {g N : Nat} {T : TypeId} {k : IntKind} {f : Nat → Nat} {d : DataW Unit} (hg : P.globalNamed n = some g) (ht : (P.globals[g]?).map (·.type) = some T) (hN : 0 < N) (h : z9E P W n d) (hr : ∀ cs, RdT P W T cs d → ∀ r, r < N → cs[r]? = some (.int k (f r : Int))) : RIn W ⟨g, arr k N f, T⟩ := by
 obtain ⟨g', t, cs, h1, h2, h3, h4⟩ := h
 obtain rfl := Option.some.inj (hg.symm.trans h1)
 obtain rfl := Option.some.inj (ht.symm.trans h2)
 have key : ∀ r, r < N → W.cell? ⟨g, r, none⟩ = some (.int k (f r : Int)) := fun r hrr => by
  rw [World.var?_cell hg h3 r]
  have := hr cs.toList h4 r hrr
  simpa using this
 refine ⟨?_, fun o ho => ?_⟩
 ·have h0 := key 0 hN
  unfold World.cell? at h0
  cases hh : W.heap[g]? with
  | none => rw [hh] at h0; cases h0
  | some b => exact (Array.getElem?_eq_some_iff.1 hh).1
 ·have ho : o < N := by simpa [z9] using ho
  show W.cell? ⟨g, o, none⟩ = (arr k N f)[o]?
  rw [zO ho]; exact key o ho
theorem zfc : MemR [] W := fun _ h => absurd h List.not_mem_nil
theorem V0 {x : Blk} {m : Mem} (h : RIn W x) (hm : MemR m W) : MemR (x :: m) W := fun y hy => by
 rcases List.mem_cons.1 hy with rfl | hy
 ·exact h
 ·exact hm y hy
theorem z4k {m m' : Mem} (h : MemR m W) (hm : MemR m' W) : MemR (m ++ m') W := fun y hy => by
 rcases List.mem_append.1 hy with hy | hy
 ·exact h y hy
 ·exact hm y hy
end
end Go.Proofs.YtlidhfijmcelpaaGreatDoor
/-
 Facts on this program's types, in tables.
-/
namespace Go.Proofs.YtlidhfijmcelpaaGreatDoor
open Go Go.RowKit
def lkT {α : Type} : List (Nat × α) → Nat → Option α
 | [], _ => none
 | (k, a) :: l, t => bif Nat.beq k t then some a else lkT l t
theorem W6 {α : Type} {f : Nat → Option α} : ∀ {L : List (Nat × α)} {t : Nat} {d : α}, L.map (fun p => f p.1) = L.map (fun p => some p.2) → lkT L t = some d → f t = some d
 | [], _, _, _, h => by cases h
 | (k, a) :: L, t, d, h, hk => by
  rw [List.map_cons, List.map_cons, List.cons.injEq] at h
  unfold lkT at hk
  cases hb : Nat.beq k t with
  | true => rw [hb] at hk; rw [← Nat.eq_of_beq_eq_true hb, h.1]; exact hk
  | false => rw [hb] at hk; exact W6 h.2 hk
theorem z87 : Tryz.prog.follows .mixedOrders = true := by kernel_rfl
def tbu : List (Nat × TypeDesc) := [(3, (.int .i64)), (4, (.bool)), (5, (.int .u8)), (9, (.string)), (22, (.slice 5)), (23, (.array 32 5)), (24, (.slice 30)), (25, (.slice 3)), (26, (.array 2 25)), (27, (.slice 25)), (29, (.struct #[.mk "Base" 9 0 false "" "" 0, .mk "Late" 4 1 false "" "" 16, .mk "Psks" 25 2 false "" "" 24, .mk "Pre" 26 3 false "" "" 48, .mk "Turns" 27 5 false "" "" 96])), (30, (.array 32 5)), (31, (.int .u64)), (33, (.struct #[.mk "Has" 4 0 false "" "" 0, .mk "Key" 30 1 false "" "" 1, .mk "N" 31 33 false "" "" 40])), (35, (.struct #[.mk "Cipher" 33 0 false "" "" 0, .mk "Chain" 30 34 false "" "" 48, .mk "Hash" 30 66 false "" "" 80])), (37, (.struct #[.mk "Pattern" 29 0 false "" "" 0, .mk "First" 4 6 false "" "" 120, .mk "Turn" 3 7 false "" "" 128, .mk "Dead" 4 8 false "" "" 136, .mk "Sym" 35 9 false "" "" 144, .mk "Own" 30 107 false "" "" 256, .mk "Fresh" 30 139 false "" "" 288, .mk "Has" 4 171 false "" "" 320, .mk "Their" 30 172 false "" "" 321, .mk "Knows" 4 204 false "" "" 353, .mk "Newest" 30 205 false "" "" 354, .mk "Saw" 4 237 false "" "" 386, .mk "Psks" 24 238 false "" "" 392, .mk "Used" 3 239 false "" "" 416])), (79, (.array 3 30)), (105, (.slice 9)), (109, (.int .u32)), (110, (.array 8 109)), (111, (.array 64 5)), (113, (.struct #[.mk "H" 110 0 false "" "" 0, .mk "Held" 111 8 false "" "" 32, .mk "N" 3 72 false "" "" 96, .mk "Len" 3 73 false "" "" 104])), (120, (.array 16 31)), (122, (.struct #[.mk "x" 120 0 false "" "signet/signetref" 0, .mk "z" 120 16 false "" "signet/signetref" 128])), (127, (.array 4 31)), (138, (.slice 141)), (141, (.struct #[.mk "who" 3 0 false "" "signet/signetref" 0, .mk "token" 3 1 false "" "signet/signetref" 8])), (146, (.array 12 5)), (154, (.slice 22)), (158, (.int .u64)), (168, (.array 32 31)), (170, (.array 3 4)), (171, (.array 2 170)), (172, (.array 8 4)), (174, (.struct #[.mk "keys" 171 0 false "" "signet/pattern" 0, .mk "been" 172 6 false "" "signet/pattern" 6])), (186, (.array 2 127)), (188, (.array 2 186)), (195, (.array 256 5)), (198, (.array 4 109)), (199, (.array 4 198)), (213, (.array 16 5)), (216, (.array 16 109)), (227, (.array 2 30)), (244, (.array 2 31)), (245, (.array 3 31)), (247, (.struct #[.mk "R" 244 0 false "" "" 0, .mk "Pad" 244 2 false "" "" 16, .mk "Acc" 245 4 false "" "" 32, .mk "Held" 213 7 false "" "" 56, .mk "N" 3 23 false "" "" 72])), (255, (.array 16 3)), (256, (.array 10 255)), (272, (.array 2 3)), (286, (.array 64 5)), (290, (.array 16 109)), (294, (.array 5 31)), (295, (.array 5 31)), (300, (.array 8 31)), (310, (.array 3 31))]
theorem zjd : tbu.map (fun p => (fun t => Tryz.prog.underlying t) p.1) = tbu.map (fun p => some p.2) := by kernel_rfl
set_option maxRecDepth 100000 in
theorem Tu {T : TypeId} {d : TypeDesc} (h : lkT tbu T = some d) : Tryz.prog.underlying T = some d := W6 (L := tbu) (f := fun t => Tryz.prog.underlying t) zjd h
theorem Uu (T : TypeId) {d : TypeDesc} (h : lkT tbu T = some d := by rfl) : Tryz.prog.underlying T = some d := Tu h
def tbz : List (Nat × Nat) := [(3, 1), (4, 1), (5, 1), (9, 1), (22, 1), (23, 32), (24, 1), (25, 1), (26, 2), (27, 1), (29, 6), (30, 32), (31, 1), (33, 34), (35, 98), (37, 240), (79, 96), (109, 1), (110, 8), (111, 64), (113, 74), (120, 16), (122, 32), (127, 4), (141, 2), (146, 12), (170, 3), (171, 6), (172, 8), (186, 8), (188, 16), (198, 4), (199, 16), (213, 16), (216, 16), (227, 64), (244, 2), (245, 3), (247, 24), (255, 16), (272, 2), (286, 64), (290, 16), (294, 5), (295, 5), (300, 8), (310, 3)]
theorem zjG : tbz.map (fun p => (fun t => (Tryz.prog.info? t).map (·.size)) p.1) = tbz.map (fun p => some p.2) := by kernel_rfl
set_option maxRecDepth 100000 in
theorem Tz {T : TypeId} {d : Nat} (h : lkT tbz T = some d) : (Tryz.prog.info? T).map (·.size) = some d := W6 (L := tbz) (f := fun t => (Tryz.prog.info? t).map (·.size)) zjG h
theorem Uz (T : TypeId) {d : Nat} (h : lkT tbz T = some d := by rfl) : (Tryz.prog.info? T).map (·.size) = some d := Tz h
def tby : List (Nat × Nat) := [(3, 8), (5, 1), (9, 16), (25, 24), (30, 32), (141, 16)]
theorem zje : tby.map (fun p => (fun t => (Tryz.prog.info? t).map (·.bytes)) p.1) = tby.map (fun p => some p.2) := by kernel_rfl
set_option maxRecDepth 100000 in
theorem Ty {T : TypeId} {d : Nat} (h : lkT tby T = some d) : (Tryz.prog.info? T).map (·.bytes) = some d := W6 (L := tby) (f := fun t => (Tryz.prog.info? t).map (·.bytes)) zje h
theorem Uy (T : TypeId) {d : Nat} (h : lkT tby T = some d := by rfl) : (Tryz.prog.info? T).map (·.bytes) = some d := Ty h
def tbb : List (Nat × Value) := [(3, (.int .i64 0)), (5, (.int .u8 0)), (9, (.string ByteArray.empty)), (22, (.slice none 0 0)), (23, (.agg (arr .u8 32 fun _ => 0))), (25, (.slice none 0 0)), (26, (.agg #[.slice none 0 0, .slice none 0 0])), (29, (.agg (cells 6 [pV (.string ByteArray.empty), pV (.bool false), pV (.slice none 0 0), pV (.slice none 0 0), pV (.slice none 0 0), pV (.slice none 0 0)]))), (30, (.agg (arr .u8 32 fun _ => 0))), (33, (.agg (cells 34 [pV (.bool false), pI .u8 32 fun _ => 0, pV (.int .u64 0)]))), (35, (.agg (cells 98 [pV (.bool false), pI .u8 32 fun _ => 0, pV (.int .u64 0), pI .u8 32 fun _ => 0, pI .u8 32 fun _ => 0]))), (37, (.agg (cells 240 [pV (.string ByteArray.empty), pV (.bool false), pV (.slice none 0 0), pV (.slice none 0 0), pV (.slice none 0 0), pV (.slice none 0 0), pV (.bool false), pV (.int .i64 0), pV (.bool false), pV (.bool false), pI .u8 32 fun _ => 0, pV (.int .u64 0), pI .u8 32 fun _ => 0, pI .u8 32 fun _ => 0, pI .u8 32 fun _ => 0, pI .u8 32 fun _ => 0, pV (.bool false), pI .u8 32 fun _ => 0, pV (.bool false), pI .u8 32 fun _ => 0, pV (.bool false), pV (.slice none 0 0), pV (.int .i64 0)]))), (79, (.agg (arr .u8 96 fun _ => 0))), (110, (.agg (arr .u32 8 fun _ => 0))), (111, (.agg (arr .u8 64 fun _ => 0))), (113, (.agg (cells 74 [pI .u32 8 fun _ => 0, pI .u8 64 fun _ => 0, pV (.int .i64 0), pV (.int .i64 0)]))), (120, (.agg (arr .u64 16 fun _ => 0))), (122, (.agg (arr .u64 32 fun _ => 0))), (127, (.agg (arr .u64 4 fun _ => 0))), (141, (.agg (arr .i64 2 fun _ => 0))), (146, (.agg (arr .u8 12 fun _ => 0))), (168, (.agg (arr .u64 32 fun _ => 0))), (174, (.agg (zN 14 fun _ => .bool false))), (186, (.agg (arr .u64 8 fun _ => 0))), (188, (.agg (arr .u64 16 fun _ => 0))), (199, (.agg (arr .u32 16 fun _ => 0))), (213, (.agg (arr .u8 16 fun _ => 0))), (216, (.agg (arr .u32 16 fun _ => 0))), (227, (.agg (arr .u8 64 fun _ => 0))), (244, (.agg (arr .u64 2 fun _ => 0))), (245, (.agg (arr .u64 3 fun _ => 0))), (247, (.agg (cells 24 [pI .u64 2 fun _ => 0, pI .u64 2 fun _ => 0, pI .u64 3 fun _ => 0, pI .u8 16 fun _ => 0, pV (.int .i64 0)]))), (272, (.agg (arr .i64 2 fun _ => 0))), (286, (.agg (arr .u8 64 fun _ => 0))), (290, (.agg (arr .u32 16 fun _ => 0))), (294, (.agg (arr .u64 5 fun _ => 0))), (295, (.agg (arr .u64 5 fun _ => 0))), (300, (.agg (arr .u64 8 fun _ => 0))), (310, (.agg (arr .u64 3 fun _ => 0)))]
theorem ziE : tbb.map (fun p => (fun t => (Tryz.prog.info? t).bind (·.zero)) p.1) = tbb.map (fun p => some p.2) := by kernel_rfl
set_option maxRecDepth 100000 in
theorem Tb {T : TypeId} {d : Value} (h : lkT tbb T = some d) : (Tryz.prog.info? T).bind (·.zero) = some d := W6 (L := tbb) (f := fun t => (Tryz.prog.info? t).bind (·.zero)) ziE h
theorem Ub (T : TypeId) {d : Value} (h : lkT tbb T = some d := by rfl) : (Tryz.prog.info? T).bind (·.zero) = some d := Tb h
def tbn : List Nat := [8, 9, 10, 11, 12, 13, 14, 15, 16, 17, 18, 20, 22, 23, 24, 25, 26, 27, 28, 29, 30, 31, 32, 33, 34, 35, 36, 37, 38, 39, 40, 41, 42, 43, 44, 45, 46, 47, 48, 49, 50, 51, 52, 53, 54, 55, 56, 57, 58, 59, 60, 61, 62, 63, 64, 65, 66, 67, 68, 69, 70, 71, 72, 73, 74, 75, 76, 77, 78, 79, 80, 81, 82, 83, 84, 85, 86, 87, 88, 89, 90, 91, 92, 93, 94, 95, 96, 97, 98, 99, 100, 101, 102, 103, 104, 105, 106, 107, 108, 109, 110, 111, 112, 114, 115, 116, 117, 118, 119, 120, 121, 122, 123, 124, 125, 126, 127, 128, 129, 130, 131, 132, 133, 134, 135, 136, 137, 138, 139, 140, 141, 142, 143, 144, 145, 146, 147, 148, 150, 152, 155, 156, 157, 158, 159, 160, 161, 162, 163, 164, 165, 166, 167, 168, 169, 170, 171, 172, 173, 174, 175, 176, 177, 178, 179, 180, 181, 182, 183, 184, 185, 186, 187, 188, 193, 194, 195, 196, 197, 198, 199, 200, 201, 202, 203, 204, 205, 206, 207, 208, 209, 210, 211, 212, 213, 214, 215, 216, 220, 221, 222, 223, 224, 225, 226, 227, 228, 231, 232, 233, 234, 235, 236, 237, 238, 239, 240, 241, 242, 243, 244, 245, 246, 247, 248, 249, 250, 251, 252, 253, 254, 255, 256, 257, 258, 259, 260, 261, 262, 263, 264]
theorem ziw : tbn.all (fun f => xu Tryz.prog f) = true := by kernel_rfl
theorem Un (f : FuncId) (h : tbn.contains f = true := by rfl) : xu Tryz.prog f = true := List.all_eq_true.1 ziw f (List.contains_iff_mem.1 h)
end Go.Proofs.YtlidhfijmcelpaaGreatDoor
/-
 Rules with short names.
-/
namespace Go.Proofs.YtlidhfijmcelpaaGreatDoor
open Go Go.RowKit
variable {G : Mem} {R : Reg} {ops : Array Oper} {n : Nat} {K : Env → Mm → Prop} {Q : Exit → Env → Mm → Prop} {rest : List Oper} {E : Env} {M : Mm} {d : Nat} {ty : TypeId} {pos : String} {aft : Array Edge} {T : TypeId} {T' : TypeId} {x : Operand} {y : Operand}
theorem Qs {c : Code} {c' : Code} : (y8 Tryz.prog G c n (VO (y8 Tryz.prog G c' n Q) Q) E M) → y8 Tryz.prog G (.seq c c') n Q E M := fun h => zkS h
theorem Qp {id : Nat} : (z2 Tryz.prog G V6 ops n (Q .normal) ops.toList E M) → y8 Tryz.prog G (.region id ops false) n Q E M := fun h => zgh h
theorem Qn : (K E M) → z2 Tryz.prog G R ops n K [] E M := fun h => zkq h
theorem Qk : (Q .normal E M) → y8 Tryz.prog G .skip n Q E M := fun h => ziH h
theorem Qb {id : Nat} {c : Code} : (y8 Tryz.prog G c n (z0H id Q) E M) → y8 Tryz.prog G (.block id c) n Q E M := fun h => zhV h
theorem Qe {id : Nat} : (Q (.exit id) E M) → y8 Tryz.prog G (.exit id) n Q E M := fun h => ziZ h
theorem Qr : (Q .ret E M) → y8 Tryz.prog G .ret n Q E M := fun h => zkZ h
theorem Qm {v : Value} (hx : rd E x = some v := by rfl) (hd : Nat.blt d n = true := by rfl) : (z2 Tryz.prog G R ops n K rest ((d, v) :: E) M) → z2 Tryz.prog G R ops n K (⟨some d, .move x, ty, pos, aft, none⟩ :: rest) E M := fun h => zjD hx hd h
theorem Qa {v : Value} (hx : rd E x = some v := by rfl) (hd : Nat.blt d n = true := by rfl) : (z2 Tryz.prog G R ops n K rest ((d, v) :: E) M) → z2 Tryz.prog G R ops n K (⟨some d, .assign x, ty, pos, aft, none⟩ :: rest) E M := fun h => xB hx hd h
theorem Qx {i : Nat} {vs : Array Value} {v : Value} (hx : rd E x = some (.tuple vs) := by rfl) (hv : vs[i]? = some v := by rfl) (hd : Nat.blt d n = true := by rfl) : (z2 Tryz.prog G R ops n K rest ((d, v) :: E) M) → z2 Tryz.prog G R ops n K (⟨some d, .extract x i, ty, pos, aft, none⟩ :: rest) E M := fun h => zbw hx hv hd h
theorem Qy {dd : Option Tmp} {op : Op} {g : Nat} {s : Nat} {want : Bool} {b : Bool} (hg : (ops[g]?).bind (·.dst) = some s := by rfl) (hb : lk E s = some (.bool b) := by rfl) (hw : b = want := by rfl) : (z2 Tryz.prog G R ops n K (⟨dd, op, ty, pos, aft, none⟩ :: rest) E M) → z2 Tryz.prog G R ops n K (⟨dd, op, ty, pos, aft, some (g, want)⟩ :: rest) E M := fun h => zke hg hb hw h
theorem Qo {op : Op} {g : Nat} {s : Nat} {want : Bool} {b : Bool} (hg : (ops[g]?).bind (·.dst) = some s := by rfl) (hb : lk E s = some (.bool b) := by rfl) (hw : b ≠ want := by decide) (hd : Nat.blt d n = true := by rfl) : (z2 Tryz.prog G R ops n K rest ((d, undef) :: E) M) → z2 Tryz.prog G R ops n K (⟨some d, op, ty, pos, aft, some (g, want)⟩ :: rest) E M := fun h => zli hg hb hw hd h
theorem Qw {op : Op} {g : Nat} {s : Nat} {want : Bool} (hg : (ops[g]?).bind (·.dst) = some s := by rfl) (hb : lk E s = some undef := by rfl) (hd : Nat.blt d n = true := by rfl) : (z2 Tryz.prog G R ops n K rest ((d, undef) :: E) M) → z2 Tryz.prog G R ops n K (⟨some d, op, ty, pos, aft, some (g, want)⟩ :: rest) E M := fun h => zkB hg hb hd h
theorem QT {p : Operand} {q : Operand} {r : Operand} {t : Bool} {v : Value} (hc : rd E p = some (.bool t) := by rfl) (ht : t = true := by rfl) (hv : rd E q = some v := by rfl) (hd : Nat.blt d n = true := by rfl) : (z2 Tryz.prog G R ops n K rest ((d, v) :: E) M) → z2 Tryz.prog G R ops n K (⟨some d, .pick p q r, ty, pos, aft, none⟩ :: rest) E M := fun h => zgL hc ht hv hd h
theorem QF {p : Operand} {q : Operand} {r : Operand} {t : Bool} {v : Value} (hc : rd E p = some (.bool t) := by rfl) (ht : t = false := by rfl) (hv : rd E r = some v := by rfl) (hd : Nat.blt d n = true := by rfl) : (z2 Tryz.prog G R ops n K rest ((d, v) :: E) M) → z2 Tryz.prog G R ops n K (⟨some d, .pick p q r, ty, pos, aft, none⟩ :: rest) E M := fun h => zhu hc ht hv hd h
theorem Qg {id : Nat} (hm : Tryz.prog.follows .mixedOrders = true := by exact z87) (hok : xY V6 ops (List.range ops.size) = true := by kernel_rfl) : (z2 Tryz.prog G V6 ops n (Q .normal) ops.toList E M) → y8 Tryz.prog G (.region id ops true) n Q E M := fun h => ziF hm hok h
theorem QR {id : Nat} (R : Reg) : (z2 Tryz.prog G R ops n (Q .normal) ops.toList E M) → y8 Tryz.prog G (.region id ops false) n Q E M := fun h => zct R h
theorem Qq {id : Nat} (R : Reg) (hm : Tryz.prog.follows .mixedOrders = true := by exact z87) (hok : xY R ops (List.range ops.size) = true := by kernel_rfl) : (z2 Tryz.prog G R ops n (Q .normal) ops.toList E M) → y8 Tryz.prog G (.region id ops true) n Q E M := fun h => zgl R hm hok h
theorem Ql {k : IntKind} {p : Int} {q : Int} (hx : rd E x = some (.int k p) := by rfl) (hy : rd E y = some (.int k q) := by rfl) (hd : Nat.blt d n = true := by rfl) : (z2 Tryz.prog G R ops n K rest ((d, .bool (decide (p < q))) :: E) M) → z2 Tryz.prog G R ops n K (⟨some d, .binOp .lss T x y T', ty, pos, aft, none⟩ :: rest) E M := fun h => zlb hx hy hd h
theorem QG {k : IntKind} {p : Int} {q : Int} (hx : rd E x = some (.int k p) := by rfl) (hy : rd E y = some (.int k q) := by rfl) (hd : Nat.blt d n = true := by rfl) : (z2 Tryz.prog G R ops n K rest ((d, .bool (decide (q < p))) :: E) M) → z2 Tryz.prog G R ops n K (⟨some d, .binOp .gtr T x y T', ty, pos, aft, none⟩ :: rest) E M := fun h => zlf hx hy hd h
theorem QE {k : IntKind} {p : Int} {q : Int} (hx : rd E x = some (.int k p) := by rfl) (hy : rd E y = some (.int k q) := by rfl) (hd : Nat.blt d n = true := by rfl) : (z2 Tryz.prog G R ops n K rest ((d, .bool (decide (q ≤ p))) :: E) M) → z2 Tryz.prog G R ops n K (⟨some d, .binOp .geq T x y T', ty, pos, aft, none⟩ :: rest) E M := fun h => zlh hx hy hd h
theorem Qc {k : IntKind} {p : Int} {q : Int} (hx : rd E x = some (.int k p) := by rfl) (hy : rd E y = some (.int k q) := by rfl) (hd : Nat.blt d n = true := by rfl) : (z2 Tryz.prog G R ops n K rest ((d, .bool (decide (p = q))) :: E) M) → z2 Tryz.prog G R ops n K (⟨some d, .binOp .eql T x y T', ty, pos, aft, none⟩ :: rest) E M := fun h => zle hx hy hd h
theorem QN {k : IntKind} {p : Int} {q : Int} (hx : rd E x = some (.int k p) := by rfl) (hy : rd E y = some (.int k q) := by rfl) (hd : Nat.blt d n = true := by rfl) : (z2 Tryz.prog G R ops n K rest ((d, .bool (decide (p ≠ q))) :: E) M) → z2 Tryz.prog G R ops n K (⟨some d, .binOp .neq T x y T', ty, pos, aft, none⟩ :: rest) E M := fun h => zl9 hx hy hd h
theorem Q0 {b : Bool} (hx : rd E x = some (.bool b) := by rfl) (hd : Nat.blt d n = true := by rfl) : (z2 Tryz.prog G R ops n K rest ((d, .bool (!b)) :: E) M) → z2 Tryz.prog G R ops n K (⟨some d, .unOp .not T x, ty, pos, aft, none⟩ :: rest) E M := fun h => zk2 hx hd h
theorem Qd {b : Nat} {l : Nat} {c : Array Value} {t : TypeId} {td : TypeDesc} (i : Nat) (hT : Tryz.prog.underlying T = some td := by exact Tu rfl) (hn : zz td = true := by rfl) (hs : (Tryz.prog.info? T).map (·.size) = some l := by exact Tz rfl) (hx : rd E x = some (.pointer (some ⟨b, 0, none⟩)) := by rfl) (hm : lkM M i = some ⟨b, c, t⟩ := by rfl) (hl : c.size = l := by exact (z9 _ _ _)) (hd : Nat.blt d n = true := by rfl) (hX : ∃ js, v7 M i js R := by exact ⟨[], trivial⟩) : (z2 Tryz.prog G R ops n K rest ((d, .agg c) :: E) M) → z2 Tryz.prog G R ops n K (⟨some d, .load T x, ty, pos, aft, none⟩ :: rest) E M := fun h => zF (i := i) hT hn hs hx hm hl hd hX h
theorem QD {b : Nat} {l : Nat} {c : Array Value} {t : TypeId} {td : TypeDesc} (i : Nat) (hT : Tryz.prog.underlying T = some td := by exact Tu rfl) (hn : zz td = true := by rfl) (hs : (Tryz.prog.info? T).map (·.size) = some l := by exact Tz rfl) (hx : rd E x = some (.pointer (some ⟨b, 0, none⟩)) := by rfl) (hm : lkM M i = some ⟨b, c, t⟩ := by rfl) (hl : c.size = l := by exact (z3 _ _)) (hd : Nat.blt d n = true := by rfl) (hX : ∃ js, v7 M i js R := by exact ⟨[], trivial⟩) : (z2 Tryz.prog G R ops n K rest ((d, .agg c) :: E) M) → z2 Tryz.prog G R ops n K (⟨some d, .load T x, ty, pos, aft, none⟩ :: rest) E M := fun h => zF (i := i) hT hn hs hx hm hl hd hX h
theorem Q1 {b : Nat} {o : Nat} {c : Array Value} {t : TypeId} {v : Value} {td : TypeDesc} (i : Nat) (hT : Tryz.prog.underlying T = some td := by exact Tu rfl) (hn : zz td = false := by rfl) (hx : rd E x = some (.pointer (some ⟨b, o, none⟩)) := by rfl) (hm : lkM M i = some ⟨b, c, t⟩ := by rfl) (hc : c[o]? = some v := by exact (zO (by omega))) (hd : Nat.blt d n = true := by rfl) (hX : ∃ js, v7 M i js R := by exact ⟨[], trivial⟩) : (z2 Tryz.prog G R ops n K rest ((d, v) :: E) M) → z2 Tryz.prog G R ops n K (⟨some d, .load T x, ty, pos, aft, none⟩ :: rest) E M := fun h => y7 (i := i) hT hn hx hm hc hd hX h
theorem Qt {b : Nat} {l : Nat} {c : Array Value} {c' : Array Value} {t : TypeId} (i : Nat) (hs : (Tryz.prog.info? T).map (·.size) = some l := by exact Tz rfl) (hx : rd E x = some (.pointer (some ⟨b, 0, none⟩)) := by rfl) (hy : rd E y = some (.agg c') := by rfl) (hl : c'.size = l := by exact (z9 _ _ _)) (hv : ∀ v ∈ c', v.oneCell' = true := by exact zU) (hm : lkM M i = some ⟨b, c, t⟩ := by rfl) (ho : c'.size = c.size := by exact (ye _ _ _ _ _)) (hX : R.X = [] ∨ b ∈ R.X := by exact (.inl rfl)) (hY : R.Y = none := by rfl) : (z2 Tryz.prog G R ops n K rest E ((i, some ⟨b, c', t⟩) :: M)) → z2 Tryz.prog G R ops n K (⟨none, .store T x y, ty, pos, aft, none⟩ :: rest) E M := fun h => z5 (i := i) hs hx hy hl hv hm ho hX h
theorem Qu {b : Nat} {o : Nat} {l : Nat} {v : Nat} {k : IntKind} {f : Nat → Nat} {t : TypeId} (i : Nat) (hs : (Tryz.prog.info? T).map (·.size) = some 1 := by exact Tz rfl) (hx : rd E x = some (.pointer (some ⟨b, o, none⟩)) := by rfl) (hy : rd E y = some (.int k (v : Int)) := by rfl) (hm : lkM M i = some ⟨b, arr k l f, t⟩ := by rfl) (ho : o < l := by omega) (hX : R.X = [] ∨ b ∈ R.X := by exact (.inl rfl)) (hY : R.Y = none := by rfl) : (z2 Tryz.prog G R ops n K rest E ((i, some ⟨b, arr k l (upd f o v), t⟩) :: M)) → z2 Tryz.prog G R ops n K (⟨none, .store T x y, ty, pos, aft, none⟩ :: rest) E M := fun h => xT (i := i) hs hx hy hm ho hX h
theorem Qf {b : Nat} {o : Nat} {f : Nat} {sz : Nat} {fs : Array Field} {fd : Field} (o' : Nat) (hT : Tryz.prog.underlying T = some (.struct fs) := by exact Tu rfl) (hf : fs[f]? = some fd := by rfl) (hs : (Tryz.prog.info? fd.type).map (·.size) = some (sz + 1) := by exact Tz rfl) (hx : rd E x = some (.pointer (some ⟨b, o, none⟩)) := by rfl) (ho : o + fd.offset = o' := by rfl) (hd : Nat.blt d n = true := by rfl) : (z2 Tryz.prog G R ops n K rest ((d, .pointer (some ⟨b, o', none⟩)) :: E) M) → z2 Tryz.prog G R ops n K (⟨some d, .fieldAddr T x f, ty, pos, aft, none⟩ :: rest) E M := fun h => zkk o' hT hf hs hx ho hd h
theorem Qi {b : Nat} {j : Nat} {l : Nat} {k : IntKind} {e : TypeId} (hT : Tryz.prog.underlying T = some (.array l e) := by exact Tu rfl) (hs : (Tryz.prog.info? e).map (·.size) = some 1 := by exact Tz rfl) (hx : rd E x = some (.pointer (some ⟨b, 0, none⟩)) := by rfl) (hy : rd E y = some (.int k (j : Int)) := by rfl) (hj : j < l := by omega) (hd : Nat.blt d n = true := by rfl) : (z2 Tryz.prog G R ops n K rest ((d, .pointer (some ⟨b, j, none⟩)) :: E) M) → z2 Tryz.prog G R ops n K (⟨some d, .indexAddr T x y, ty, pos, aft, none⟩ :: rest) E M := fun h => Zh hT hs hx hy hj hd h
theorem Qj {b : Nat} {l : Nat} {k : IntKind} {e : TypeId} (j : Nat) (hT : Tryz.prog.underlying T = some (.array l e) := by exact Tu rfl) (hs : (Tryz.prog.info? e).map (·.size) = some 1 := by exact Tz rfl) (hx : rd E x = some (.pointer (some ⟨b, 0, none⟩)) := by rfl) (hy : rd E y = some (.int k (j : Int)) := by rfl) (hj : j < l := by omega) (hd : Nat.blt d n = true := by rfl) : (z2 Tryz.prog G R ops n K rest ((d, .pointer (some ⟨b, j, none⟩)) :: E) M) → z2 Tryz.prog G R ops n K (⟨some d, .indexAddr T x y, ty, pos, aft, none⟩ :: rest) E M := fun h => Zh (j := j) hT hs hx hy hj hd h
theorem QA {b : Nat} {o : Nat} {l : Nat} {z : Nat} {k : IntKind} {e : TypeId} (o' : Nat) (j : Nat) (hT : Tryz.prog.underlying T = some (.array l e) := by exact Tu rfl) (hs : (Tryz.prog.info? e).map (·.size) = some (z + 1) := by exact Tz rfl) (hx : rd E x = some (.pointer (some ⟨b, o, none⟩)) := by rfl) (hy : rd E y = some (.int k (j : Int)) := by rfl) (hj : j < l := by omega) (ho : o + j * (z + 1) = o' := by omega) (hd : Nat.blt d n = true := by rfl) : (z2 Tryz.prog G R ops n K rest ((d, .pointer (some ⟨b, o', none⟩)) :: E) M) → z2 Tryz.prog G R ops n K (⟨some d, .indexAddr T x y, ty, pos, aft, none⟩ :: rest) E M := fun h => zjN (j := j) o' hT hs hx hy hj ho hd h
theorem QB {b : Nat} {o : Nat} {j : Nat} {l : Nat} {z : Nat} {k : IntKind} {e : TypeId} (o' : Nat) (hT : Tryz.prog.underlying T = some (.array l e) := by exact Tu rfl) (hs : (Tryz.prog.info? e).map (·.size) = some (z + 1) := by exact Tz rfl) (hx : rd E x = some (.pointer (some ⟨b, o, none⟩)) := by rfl) (hy : rd E y = some (.int k (j : Int)) := by rfl) (hj : j < l := by omega) (ho : o + j * (z + 1) = o' := by omega) (hd : Nat.blt d n = true := by rfl) : (z2 Tryz.prog G R ops n K rest ((d, .pointer (some ⟨b, o', none⟩)) :: E) M) → z2 Tryz.prog G R ops n K (⟨some d, .indexAddr T x y, ty, pos, aft, none⟩ :: rest) E M := fun h => zjN o' hT hs hx hy hj ho hd h
theorem Qh {v : Value} (i : Nat) (hx : rd E x = some v := by rfl) (hd : Nat.blt d n = true := by rfl) : (∀ r, z2 Tryz.prog G R ops n K rest ((d, ptr r) :: E) ((i, some ⟨r, v.cells, T⟩) :: M)) → z2 Tryz.prog G R ops n K (⟨some d, .box T x, ty, pos, aft, none⟩ :: rest) E M := fun h => zk4 i hx hd h
theorem QH {z : Value} (i : Nat) (hz : (Tryz.prog.info? T).bind (·.zero) = some z := by exact Tb rfl) (hd : Nat.blt d n = true := by rfl) : (∀ r, z2 Tryz.prog G R ops n K rest ((d, ptr r) :: E) ((i, some ⟨r, z.cells, T⟩) :: M)) → z2 Tryz.prog G R ops n K (⟨some d, .alloc T, ty, pos, aft, none⟩ :: rest) E M := fun h => zhp i hz hd h
theorem Qv {b : Nat} {o : Nat} {l : Nat} {N : Nat} {kd : IntKind} {f : Nat → Nat} {ps : List zW} {t : TypeId} {td : TypeDesc} (k : Nat) (i : Nat) (hT : Tryz.prog.underlying T = some td := by exact Tu rfl) (hn : zz td = true := by rfl) (hs : (Tryz.prog.info? T).map (·.size) = some l := by exact Tz rfl) (hx : rd E x = some (.pointer (some ⟨b, o, none⟩)) := by rfl) (hm : lkM M i = some ⟨b, cells N ps, t⟩ := by rfl) (hk : xd ps k = some (o, pI kd l f) := by rfl) (ho : o + l ≤ N := by decide) (hd : Nat.blt d n = true := by rfl) (hX : ∃ js, v7 M i js R := by exact ⟨[], trivial⟩) : (z2 Tryz.prog G R ops n K rest ((d, .agg (arr kd l f)) :: E) M) → z2 Tryz.prog G R ops n K (⟨some d, .load T x, ty, pos, aft, none⟩ :: rest) E M := fun h => YQ (i := i) k hT hn hs hx hm hk ho hd hX h
theorem QV {b : Nat} {o : Nat} {N : Nat} {v : Value} {ps : List zW} {t : TypeId} {td : TypeDesc} (k : Nat) (i : Nat) (hT : Tryz.prog.underlying T = some td := by exact Tu rfl) (hn : zz td = false := by rfl) (hx : rd E x = some (.pointer (some ⟨b, o, none⟩)) := by rfl) (hm : lkM M i = some ⟨b, cells N ps, t⟩ := by rfl) (hk : xd ps k = some (o, pV v) := by rfl) (hN : o < N := by decide) (hd : Nat.blt d n = true := by rfl) (hX : ∃ js, v7 M i js R := by exact ⟨[], trivial⟩) : (z2 Tryz.prog G R ops n K rest ((d, v) :: E) M) → z2 Tryz.prog G R ops n K (⟨some d, .load T x, ty, pos, aft, none⟩ :: rest) E M := fun h => Zd (i := i) k hT hn hx hm hk hN hd hX h
theorem QI {b : Nat} {o : Nat} {o' : Nat} {l : Nat} {N : Nat} {kd : IntKind} {f : Nat → Nat} {ps : List zW} {t : TypeId} {td : TypeDesc} (k : Nat) (j : Nat) (i : Nat) (hT : Tryz.prog.underlying T = some td := by exact Tu rfl) (hn : zz td = false := by rfl) (hx : rd E x = some (.pointer (some ⟨b, o', none⟩)) := by rfl) (hm : lkM M i = some ⟨b, cells N ps, t⟩ := by rfl) (hk : xd ps k = some (o, pI kd l f) := by rfl) (ho : o' = o + j := by rfl) (hj : j < l := by decide) (hN : o' < N := by decide) (hd : Nat.blt d n = true := by rfl) (hX : ∃ js, v7 M i js R := by exact ⟨[], trivial⟩) : (z2 Tryz.prog G R ops n K rest ((d, .int kd (f j : Int)) :: E) M) → z2 Tryz.prog G R ops n K (⟨some d, .load T x, ty, pos, aft, none⟩ :: rest) E M := fun h => z1H (i := i) k j hT hn hx hm hk ho hj hN hd hX h
theorem Q2 {p : Nat} (q : Nat) (hx : rd E x = some (ii p) := by rfl) (hy : rd E y = some (ii q) := by rfl) (hd : Nat.blt d n = true := by rfl) (hb : p + q < 9223372036854775808 := by omega) : (z2 Tryz.prog G R ops n K rest ((d, ii (p + q)) :: E) M) → z2 Tryz.prog G R ops n K (⟨some d, .binOp .add T x y T', ty, pos, aft, none⟩ :: rest) E M := fun h => y3 (q := q) hx hy hd hb h
theorem Q3 {p : Nat} {q : Nat} (hx : rd E x = some (ii p) := by rfl) (hy : rd E y = some (ii q) := by rfl) (hd : Nat.blt d n = true := by rfl) (hb : p + q < 9223372036854775808 := by omega) : (z2 Tryz.prog G R ops n K rest ((d, ii (p + q)) :: E) M) → z2 Tryz.prog G R ops n K (⟨some d, .binOp .add T x y T', ty, pos, aft, none⟩ :: rest) E M := fun h => y3 hx hy hd hb h
theorem Q4 {p : Nat} (q : Nat) (hx : rd E x = some (ii p) := by rfl) (hy : rd E y = some (ii q) := by rfl) (hd : Nat.blt d n = true := by rfl) (hq : 0 < q := by omega) : (z2 Tryz.prog G R ops n K rest ((d, ii (p % q)) :: E) M) → z2 Tryz.prog G R ops n K (⟨some d, .binOp .rem T x y T', ty, pos, aft, none⟩ :: rest) E M := fun h => zhm (q := q) hx hy hd hq h
theorem Q5 {p : Nat} (q : Nat) (hx : rd E x = some (ii p) := by rfl) (hy : rd E y = some (ii q) := by rfl) (hd : Nat.blt d n = true := by rfl) (hp : p < 9223372036854775808 := by omega) (hq : 0 < q := by omega) : (z2 Tryz.prog G R ops n K rest ((d, ii (p / q)) :: E) M) → z2 Tryz.prog G R ops n K (⟨some d, .binOp .quo T x y T', ty, pos, aft, none⟩ :: rest) E M := fun h => zh8 (q := q) hx hy hd hp hq h
theorem Q6 {p : Nat} (q : Nat) (hx : rd E x = some (ii p) := by rfl) (hy : rd E y = some (ii q) := by rfl) (hd : Nat.blt d n = true := by rfl) (hb : p * q < 9223372036854775808 := by omega) : (z2 Tryz.prog G R ops n K rest ((d, ii (p * q)) :: E) M) → z2 Tryz.prog G R ops n K (⟨some d, .binOp .mul T x y T', ty, pos, aft, none⟩ :: rest) E M := fun h => VL (q := q) hx hy hd hb h
theorem Q7 {q : Nat} (p : Nat) (hx : rd E x = some (ii p) := by rfl) (hy : rd E y = some (ii q) := by rfl) (hd : Nat.blt d n = true := by rfl) (hb : p * q < 9223372036854775808 := by omega) : (z2 Tryz.prog G R ops n K rest ((d, ii (p * q)) :: E) M) → z2 Tryz.prog G R ops n K (⟨some d, .binOp .mul T x y T', ty, pos, aft, none⟩ :: rest) E M := fun h => VL (p := p) hx hy hd hb h
theorem Q8 {k : IntKind} {p : Nat} (s : Nat) (hx : rd E x = some (u p) := by rfl) (hy : rd E y = some (.int k (s : Int)) := by rfl) (hd : Nat.blt d n = true := by rfl) (hs : s ≤ 64 := by omega) : (z2 Tryz.prog G R ops n K rest ((d, u (p / 2 ^ s)) :: E) M) → z2 Tryz.prog G R ops n K (⟨some d, .binOp .shr T x y T', ty, pos, aft, none⟩ :: rest) E M := fun h => Yq (s := s) hx hy hd hs h
theorem Q9 {p : Nat} (q : Nat) (hx : rd E x = some (u p) := by rfl) (hy : rd E y = some (u q) := by rfl) (hd : Nat.blt d n = true := by rfl) : (z2 Tryz.prog G R ops n K rest ((d, u ((p &&& q) % 18446744073709551616)) :: E) M) → z2 Tryz.prog G R ops n K (⟨some d, .binOp .and T x y T', ty, pos, aft, none⟩ :: rest) E M := fun h => VG (q := q) hx hy hd h
theorem QU {l : List Nat} (hT : Tryz.prog.underlying T = some .string := by exact Tu rfl) (hx : rd E x = some (sv l) := by rfl) (hd : Nat.blt d n = true := by rfl) (hR : yS R = true := by rfl) : (z2 Tryz.prog G R ops n K rest ((d, ii l.length) :: E) M) → z2 Tryz.prog G R ops n K (⟨some d, .call ⟨.builtin .len, #[x], #[T]⟩, ty, pos, aft, none⟩ :: rest) E M := fun h => zer hT hx hd hR h
theorem QX {j : Nat} {l : Nat} {k : IntKind} {k' : IntKind} {k2 : IntKind} {e : TypeId} {f : Nat → Nat} (hT : Tryz.prog.underlying T = some (.array l e) := by exact Tu rfl) (he : Tryz.prog.underlying e = some (.int k') := by exact Tu rfl) (hs : (Tryz.prog.info? e).map (·.size) = some 1 := by exact Tz rfl) (hx : rd E x = some (.agg (arr k l f)) := by rfl) (hy : rd E y = some (.int k2 (j : Int)) := by rfl) (hj : j < l := by omega) (hd : Nat.blt d n = true := by rfl) : (z2 Tryz.prog G R ops n K rest ((d, .int k (f j : Int)) :: E) M) → z2 Tryz.prog G R ops n K (⟨some d, .index T x y, ty, pos, aft, none⟩ :: rest) E M := fun h => zk9 hT he hs hx hy hj hd h
theorem QY {fn : Go.Fn} {fs : Array Operand} {cs : Array Operand} {vf : List Value} {vc : List Value} (h1 : rdl E fs.toList = some vf := by rfl) (h2 : rdl E cs.toList = some vc := by rfl) (hd : Nat.blt d n = true := by rfl) : (z2 Tryz.prog G R ops n K rest ((d, .func fn vf.toArray vc.toArray) :: E) M) → z2 Tryz.prog G R ops n K (⟨some d, .makeFunc fn fs cs, ty, pos, aft, none⟩ :: rest) E M := fun h => ziT h1 h2 hd h
theorem QC {e : TypeId} {v : Value} {B : Mem} {z : Nat} {k : Nat} {xs : List Value} (hv : Shows B z v k xs) (hT : Tryz.prog.underlying T = some (.slice e) := by exact Tu rfl) (hx : rd E x = some v := by rfl) (hd : Nat.blt d n = true := by rfl) (hR : yS R = true := by rfl) : (z2 Tryz.prog G R ops n K rest ((d, ii k) :: E) M) → z2 Tryz.prog G R ops n K (⟨some d, .call ⟨.builtin .len, #[x], #[T]⟩, ty, pos, aft, none⟩ :: rest) E M := fun h => zjw hv hT hx hd hR h
theorem QS {l : List Oper} {s : Nat} {v : Value} {v' : Value} (hv : v = v' := by exact (congrArg (wH _) (Nat.mul_one _))) : (z2 Tryz.prog G R ops n K l ((s, v') :: E) M) → z2 Tryz.prog G R ops n K l ((s, v) :: E) M := fun h => z6 hv h
theorem Qat {l : List Oper} {s : Nat} {v : Value} {v' : Value} (hv : v = v' := by exact (congrArg Value.bool (decide_eq_true (by omega)))) : (z2 Tryz.prog G R ops n K l ((s, v') :: E) M) → z2 Tryz.prog G R ops n K l ((s, v) :: E) M := fun h => z6 hv h
theorem Qaf {l : List Oper} {s : Nat} {v : Value} {v' : Value} (hv : v = v' := by exact (congrArg Value.bool (decide_eq_false (by omega)))) : (z2 Tryz.prog G R ops n K l ((s, v') :: E) M) → z2 Tryz.prog G R ops n K l ((s, v) :: E) M := fun h => z6 hv h
theorem Qar {l : List Oper} {s : Nat} {v : Value} {v' : Value} (hv : v = v' := by exact (congrArg Value.bool (decide_eq_true rfl))) : (z2 Tryz.prog G R ops n K l ((s, v') :: E) M) → z2 Tryz.prog G R ops n K l ((s, v) :: E) M := fun h => z6 hv h
theorem QJ {f : Nat} {o : Nat} {l : Nat} {N : Nat} {kd : IntKind} {g : Nat → Nat} {ps : List zW} {fs : Array Field} {fd : Field} {td : TypeDesc} (k : Nat) (hT : Tryz.prog.underlying T = some (.struct fs) := by exact Tu rfl) (hf : fs[f]? = some fd := by rfl) (he : Tryz.prog.underlying fd.type = some td := by exact Tu rfl) (hn : zz td = true := by rfl) (hs : (Tryz.prog.info? fd.type).map (·.size) = some l := by exact Tz rfl) (hx : rd E x = some (.agg (cells N ps)) := by rfl) (hk : xd ps k = some (o, pI kd l g) := by rfl) (ho : fd.offset = o := by rfl) (hN : o + l ≤ N := by exact (Nat.le_of_ble_eq_true rfl)) (hd : Nat.blt d n = true := by rfl) : (z2 Tryz.prog G R ops n K rest ((d, .agg (arr kd l g)) :: E) M) → z2 Tryz.prog G R ops n K (⟨some d, .field T x f, ty, pos, aft, none⟩ :: rest) E M := fun h => zdY k hT hf he hn hs hx hk ho hN hd h
theorem Qz {c : Code} (I : Nat → Env → Mm → Prop) {E0 : Env} {M0 : Mm} {k : Nat} (h0 : I k E0 M0) (hs : sub E0 E) (hl : xV M0 M) (round : ∀ k E M, I k E M → y8 Tryz.prog G c n (VO (fun E' M' => ∃ k' E'' M'', k' < k ∧ sub E'' E' ∧ xV M'' M' ∧ I k' E'' M'') Q) E M) : y8 Tryz.prog G (.loop c) n Q E M := z6V I E0 M0 k hs hl h0 round
theorem QzK {c : Code} (Ek : Env) (Mk : Mm) (I : Nat → Env → Mm → Prop) {E0 : Env} {M0 : Mm} {k : Nat} (h0 : I k E0 M0) (hs : sub (zq E0 Ek) E) (hl : xV (zx M0 Mk) M) (round : ∀ k E M, I k E M → y8 Tryz.prog G c n (VO (fun E' M' => ∃ k' E'' M'', k' < k ∧ sub (zq E'' Ek) E' ∧ xV (zx M'' Mk) M' ∧ I k' E'' M'') Q) (zq E Ek) (zx M Mk)) : y8 Tryz.prog G (.loop c) n Q E M := zh2 Ek Mk I E0 M0 k hs hl h0 round
theorem Qzr {I : Nat → Env → Mm → Prop} {k k' : Nat} {E' : Env} {M' : Mm} {E'' : Env} {M'' : Mm} (h : I k' E'' M'') (hs : sub E'' E') (hl : xV M'' M') (hk : k' < k) : ∃ k' E'' M'', k' < k ∧ sub E'' E' ∧ xV M'' M' ∧ I k' E'' M'' := ⟨_, _, _, hk, hs, hl, h⟩
theorem QzL {I : Nat → Env → Mm → Prop} {k k' : Nat} {Ek : Env} {Mk : Mm} {E' : Env} {M' : Mm} {E'' : Env} {M'' : Mm} (h : I k' E'' M'') (hs : sub (zq E'' Ek) E') (hl : xV (zx M'' Mk) M') (hk : k' < k) : ∃ k' E'' M'', k' < k ∧ sub (zq E'' Ek) E' ∧ xV (zx M'' Mk) M' ∧ I k' E'' M'' := ⟨_, _, _, hk, hs, hl, h⟩
theorem Qf1 {f : FuncId} {fn : Func} {c : Code} {vs : List Value} {v : Value} (hf : Tryz.prog.funcs[f]? = some fn) (h : y8 Tryz.prog G c n (zkf Tryz.prog fn v) (wm vs 0) []) (hb : fn.body = some c := by rfl) (hn : fn.ntmps = n := by rfl) (ha : vs.toArray.size ≤ n := by simp) : Fn Tryz.prog G f vs.toArray v := fn1 hf hb hn ha (wm vs 0) (yR vs) h
theorem Qf2 {f : FuncId} {fn : Func} {c : Code} {vs : List Value} {v v' : Value} (hf : Tryz.prog.funcs[f]? = some fn) (h : y8 Tryz.prog G c n (zkQ Tryz.prog fn v v') (wm vs 0) []) (hb : fn.body = some c := by rfl) (hn : fn.ntmps = n := by rfl) (ha : vs.toArray.size ≤ n := by simp) : Fn Tryz.prog G f vs.toArray (.tuple #[v, v']) := fn2 hf hb hn ha (wm vs 0) (yR vs) h
theorem Qf3 {f : FuncId} {fn : Func} {c : Code} {vs : List Value} {v v' v'' : Value} (hf : Tryz.prog.funcs[f]? = some fn) (h : y8 Tryz.prog G c n (zkj Tryz.prog fn v v' v'') (wm vs 0) []) (hb : fn.body = some c := by rfl) (hn : fn.ntmps = n := by rfl) (ha : vs.toArray.size ≤ n := by simp) : Fn Tryz.prog G f vs.toArray (.tuple #[v, v', v'']) := fn3 hf hb hn ha (wm vs 0) (yR vs) h
theorem QfN {f : FuncId} {fn : Func} {c : Code} {vs : List Value} {e : TypeId} {z k : Nat} {xs : List Value} (hf : Tryz.prog.funcs[f]? = some fn) (h : y8 Tryz.prog G c n (zkh Tryz.prog e z k xs fn) (wm vs 0) []) (hb : fn.body = some c := by rfl) (hn : fn.ntmps = n := by rfl) (ha : vs.toArray.size ≤ n := by simp) : Fx Tryz.prog G [] f vs.toArray (fun v l1 nw => l1 = [] ∧ ∃ v', v = v' ∧ OwnS e z v' k xs nw) := fxN hf hb hn ha (wm vs 0) (yR vs) h
theorem QfM {f : FuncId} {fn : Func} {c : Code} {vs : List Value} {e : TypeId} {z k : Nat} {xs : List Value} {u : Value} (hf : Tryz.prog.funcs[f]? = some fn) (h : y8 Tryz.prog G c n (zhZ Tryz.prog e z k xs u fn) (wm vs 0) []) (hb : fn.body = some c := by rfl) (hn : fn.ntmps = n := by rfl) (ha : vs.toArray.size ≤ n := by simp) : Fx Tryz.prog G [] f vs.toArray (fun v l1 nw => l1 = [] ∧ ∃ v', v = .tuple #[v', u] ∧ OwnS e z v' k xs nw) := zld hf hb hn ha (wm vs 0) (yR vs) h
theorem QfO {f : FuncId} {fn : Func} {c : Code} {vs : List Value} {e : TypeId} {z k : Nat} {xs : List Value} {q u : Value} (hf : Tryz.prog.funcs[f]? = some fn) (h : y8 Tryz.prog G c n (zi1 Tryz.prog e z k xs q u fn) (wm vs 0) []) (hb : fn.body = some c := by rfl) (hn : fn.ntmps = n := by rfl) (ha : vs.toArray.size ≤ n := by simp) : Fx Tryz.prog G [] f vs.toArray (fun v l1 nw => l1 = [] ∧ ∃ v', v = .tuple #[q, v', u] ∧ OwnS e z v' k xs nw) := zl7 hf hb hn ha (wm vs 0) (yR vs) h
theorem QfW {f : FuncId} {fn : Func} {c : Code} {vs : List Value} {b : Nat} {c0 c' : Array Value} {t : TypeId} (hf : Tryz.prog.funcs[f]? = some fn) (h : y8 Tryz.prog G c n (zkb b c' t fn) (wm vs 0) [(0, some ⟨b, c0, t⟩)]) (hb : fn.body = some c := by rfl) (hn : fn.ntmps = n := by rfl) (ha : vs.toArray.size ≤ n := by simp) : Fx Tryz.prog G [⟨b, c0, t⟩] f vs.toArray (fun v' l1 nw => v' = .tuple #[] ∧ l1 = [⟨b, c', t⟩] ∧ nw = []) := fxW hf hb hn ha (wm vs 0) (yR vs) h
abbrev Sh (G : Mem) (v : Value) (l : List Nat) : Prop := Shows G 1 v l.length (l.map by8)
abbrev By (l : List Nat) : Prop := ∀ b ∈ l, b < 256
abbrev L8 (n : Nat) (f : Nat → Nat) : Prop := ∀ j, j < n → f j < 256
theorem Ca {f : FuncId} {args : Array Operand} {tys : Array TypeId} {vs : List Value} {v : Value} (hF : Fn Tryz.prog G f vs.toArray v) (hargs : rdl E args.toList = some vs := by rfl) (he : xu Tryz.prog f = true := by exact Un _) (hd : Nat.blt d n = true := by rfl) (hR : yS R = true := by rfl) : (z2 Tryz.prog G R ops n K rest ((d, v) :: E) M) → z2 Tryz.prog G R ops n K (⟨some d, .call ⟨.value (.func f), args, tys⟩, ty, pos, aft, none⟩ :: rest) E M := fun h => zd hargs he hF hd hR h
theorem Av {l : List Oper} {s : Nat} {v : Value} (v' : Value) (hv : v = v' := by exact rfl) : (z2 Tryz.prog G R ops n K l ((s, v') :: E) M) → z2 Tryz.prog G R ops n K l ((s, v) :: E) M := fun h => z6 hv h
theorem Aa {l : List Oper} {s N : Nat} {k : IntKind} {f g : Nat → Nat} (hv : ∀ j, j < N → f j = g j) : (z2 Tryz.prog G R ops n K l ((s, .agg (arr k N g)) :: E) M) → z2 Tryz.prog G R ops n K l ((s, .agg (arr k N f)) :: E) M := fun h => z6 (congrArg Value.agg (zh hv)) h
theorem Ab {l : List Oper} {s : Nat} {v v' : Bool} (hv : v = v') : (z2 Tryz.prog G R ops n K l ((s, .bool v') :: E) M) → z2 Tryz.prog G R ops n K l ((s, .bool v) :: E) M := fun h => z6 (congrArg Value.bool hv) h
theorem Af {l : List Oper} {s : Nat} {f g : Nat → Nat} (hv : f = g) : (z2 Tryz.prog G R ops n K l ((s, .agg (arr .u8 32 g)) :: E) M) → z2 Tryz.prog G R ops n K l ((s, .agg (arr .u8 32 f)) :: E) M := fun h => z6 (congrArg (fun f => Value.agg (arr .u8 32 f)) hv) h
theorem Ai {l : List Oper} {s : Nat} {p q : Nat} (hv : p = q) : (z2 Tryz.prog G R ops n K l ((s, ii q) :: E) M) → z2 Tryz.prog G R ops n K l ((s, ii p) :: E) M := fun h => z6 (congrArg ii hv) h
theorem Au {l : List Oper} {s : Nat} {p q : Nat} (hv : p = q) : (z2 Tryz.prog G R ops n K l ((s, u q) :: E) M) → z2 Tryz.prog G R ops n K l ((s, u p) :: E) M := fun h => z6 (congrArg u hv) h
theorem Qcm {a b c : Prop} (h : b → a) (e : b = c) : c → a := e ▸ h
theorem Qcd {c : Operand} {p q : Code} {t : Prop} {ht : Decidable t} (hc : rd E c = some (.bool (@decide t ht)) := by rfl) : (t → y8 Tryz.prog G p n Q E M) → (¬ t → y8 Tryz.prog G q n Q E M) → y8 Tryz.prog G (.cond c p q) n Q E M := fun a b => zi hc (fun e => a (of_decide_eq_true e)) (fun e => b (of_decide_eq_false e))
theorem Qct {c : Operand} {p q : Code} (hc : rd E c = some (.bool true) := by rfl) : (y8 Tryz.prog G p n Q E M) → y8 Tryz.prog G (.cond c p q) n Q E M := fun h => zi hc (fun _ => h) (fun e => by cases e)
theorem Qcf {c : Operand} {p q : Code} (hc : rd E c = some (.bool false) := by rfl) : (y8 Tryz.prog G q n Q E M) → y8 Tryz.prog G (.cond c p q) n Q E M := fun h => zi hc (fun e => by cases e) (fun _ => h)
theorem ya {t : Nat} {b l : Nat} {c : Array Value} {t' : TypeId} {td : TypeDesc} (i : Nat) (h : lk E t = some (ptr b) := by rfl) (hm : lkM M i = some ⟨b, c, t'⟩ := by rfl) (hT : Tryz.prog.underlying T = some td := by exact Tu rfl) (hn : zz td = true := by rfl) (hs : (Tryz.prog.info? T).map (·.size) = some l := by exact Tz rfl) (hl : c.size = l := by exact (z9 _ _ _)) : Res Tryz.prog E M (.cell t T) (.agg c) := .cell h hm hT hn hs hl
theorem yb {t : Nat} {b l : Nat} {c : Array Value} {t' : TypeId} {td : TypeDesc} (i : Nat) (h : lk E t = some (ptr b) := by rfl) (hm : lkM M i = some ⟨b, c, t'⟩ := by rfl) (hT : Tryz.prog.underlying T = some td := by exact Tu rfl) (hn : zz td = true := by rfl) (hs : (Tryz.prog.info? T).map (·.size) = some l := by exact Tz rfl) (hl : c.size = l := by exact (z3 _ _)) : Res Tryz.prog E M (.cell t T) (.agg c) := .cell h hm hT hn hs hl
theorem yt {t : Nat} {v : Value} (h : lk E t = some v := by rfl) : Res Tryz.prog E M (.tmp t) v := h
theorem QW {b : Nat} {l : Nat} {c : Array Value} {c' : Array Value} {t : TypeId} (i : Nat) (hs : (Tryz.prog.info? T).map (·.size) = some l := by exact Tz rfl) (hx : rd E x = some (.pointer (some ⟨b, 0, none⟩)) := by rfl) (hy : rd E y = some (.agg c') := by rfl) (hl : c'.size = l := by exact (z3 _ _)) (hv : ∀ v ∈ c', v.oneCell' = true := by exact z7 (by repeat (first | exact trivial | refine ⟨fun _ => rfl, ?_⟩))) (hm : lkM M i = some ⟨b, c, t⟩ := by rfl) (ho : c'.size = c.size := by exact za) (hX : R.X = [] ∨ b ∈ R.X := by exact (.inl rfl)) (hY : R.Y = none := by rfl) : (z2 Tryz.prog G R ops n K rest E ((i, some ⟨b, c', t⟩) :: M)) → z2 Tryz.prog G R ops n K (⟨none, .store T x y, ty, pos, aft, none⟩ :: rest) E M := fun h_ => z5 (i := i) hs hx hy hl hv hm ho hX h_
theorem Qsa {b : Nat} {o : Nat} {N : Nat} {z : Nat} {e : TypeId} {lo : Option Operand} {hi : Option Operand} {vl : Option Value} {vh : Option Value} (l : Nat) (h : Nat) (hT : Tryz.prog.underlying T = some (.array N e) := by exact Tu rfl) (hs : (Tryz.prog.info? e).map (·.size) = some z := by exact Tz rfl) (hx : rd E x = some (.pointer (some ⟨b, o, none⟩)) := by rfl) (hlo : rdo E lo = some vl := by rfl) (hhi : rdo E hi = some vh := by rfl) (hl : isB vl l 0 := by rfl) (hh : isB vh h N := by rfl) (h1 : l ≤ h := by omega) (h2 : h ≤ N := by omega) (h3 : l < N := by omega) (hd : Nat.blt d n = true := by rfl) : (z2 Tryz.prog G R ops n K rest ((d, .slice (some ⟨b, o + l * z, none⟩) (h - l) (N - l)) :: E) M) → z2 Tryz.prog G R ops n K (⟨some d, .slice T x lo hi none, ty, pos, aft, none⟩ :: rest) E M := fun h_ => xn l h hT hs hx hlo hhi hl hh h1 h2 h3 hd h_
theorem Qls {b : Nat} {o : Nat} {l : Nat} {N : Nat} {k : IntKind} {f : Nat → Nat} {t : TypeId} {td : TypeDesc} (i : Nat) (hT : Tryz.prog.underlying T = some td := by exact Tu rfl) (hn : zz td = true := by rfl) (hs : (Tryz.prog.info? T).map (·.size) = some l := by exact Tz rfl) (hx : rd E x = some (.pointer (some ⟨b, o, none⟩)) := by rfl) (hm : lkM M i = some ⟨b, arr k N f, t⟩ := by rfl) (ho : o + l ≤ N := by omega) (hd : Nat.blt d n = true := by rfl) (hX : ∃ js, v7 M i js R := by exact ⟨[], trivial⟩) : (z2 Tryz.prog G R ops n K rest ((d, .agg (arr k l (fun t => f (o + t)))) :: E) M) → z2 Tryz.prog G R ops n K (⟨some d, .load T x, ty, pos, aft, none⟩ :: rest) E M := fun h_ => zg5 (i := i) hT hn hs hx hm ho hd hX h_
theorem Qxw {p : Nat} {q : Nat} (hx : rd E x = some (uw p) := by rfl) (hy : rd E y = some (uw q) := by rfl) (hd : Nat.blt d n = true := by rfl) : (z2 Tryz.prog G R ops n K rest ((d, uw ((p ^^^ q) % 4294967296)) :: E) M) → z2 Tryz.prog G R ops n K (⟨some d, .binOp .xor T x y T', ty, pos, aft, none⟩ :: rest) E M := fun h_ => z2P hx hy hd h_
theorem Qaw {p : Nat} {q : Nat} (hx : rd E x = some (uw p) := by rfl) (hy : rd E y = some (uw q) := by rfl) (hd : Nat.blt d n = true := by rfl) : (z2 Tryz.prog G R ops n K rest ((d, uw ((p + q) % 4294967296)) :: E) M) → z2 Tryz.prog G R ops n K (⟨some d, .binOp .add T x y T', ty, pos, aft, none⟩ :: rest) E M := fun h_ => zgm hx hy hd h_
theorem Qau {p : Nat} {q : Nat} (hx : rd E x = some (u p) := by rfl) (hy : rd E y = some (u q) := by rfl) (hd : Nat.blt d n = true := by rfl) : (z2 Tryz.prog G R ops n K rest ((d, u ((p + q) % 18446744073709551616)) :: E) M) → z2 Tryz.prog G R ops n K (⟨some d, .binOp .add T x y T', ty, pos, aft, none⟩ :: rest) E M := fun h_ => wM hx hy hd h_
theorem Qcw {k : IntKind} {dk : TypeDesc} {p : Nat} (hs : Tryz.prog.underlying T = some dk := by exact Tu rfl) (ht : Tryz.prog.underlying T' = some (.int .u32) := by exact Tu rfl) (hx : rd E x = some (.int k (p : Int)) := by rfl) (hd : Nat.blt d n = true := by rfl) (hv : xt R T T' = 1 := by rfl) : (z2 Tryz.prog G R ops n K rest ((d, uw (p % 4294967296)) :: E) M) → z2 Tryz.prog G R ops n K (⟨some d, .convert T T' x, ty, pos, aft, none⟩ :: rest) E M := fun h_ => z4R hs ht hx hd hv h_
theorem Qci {k : IntKind} {dk : TypeDesc} {p : Nat} (hs : Tryz.prog.underlying T = some dk := by exact Tu rfl) (ht : Tryz.prog.underlying T' = some (.int .i64) := by exact Tu rfl) (hx : rd E x = some (.int k (p : Int)) := by rfl) (hd : Nat.blt d n = true := by rfl) (hv : xt R T T' = 1 := by rfl) (hp : p < 9223372036854775808 := by omega) : (z2 Tryz.prog G R ops n K rest ((d, ii p) :: E) M) → z2 Tryz.prog G R ops n K (⟨some d, .convert T T' x, ty, pos, aft, none⟩ :: rest) E M := fun h_ => zed hs ht hx hd hv hp h_
theorem QcS {b : Nat} {o : Nat} {N : Nat} {len : Nat} {cap : Nat} {e : TypeId} {f : Nat → Nat} {t : TypeId} (i : Nat) (hs : Tryz.prog.underlying T = some (.slice e) := by exact Tu rfl) (he : Tryz.prog.underlying e = some (.int .u8) := by exact Tu rfl) (ht : Tryz.prog.underlying T' = some .string := by exact Tu rfl) (hx : rd E x = some (.slice (some ⟨b, o, none⟩) len cap) := by rfl) (hm : lkM M i = some ⟨b, arr .u8 N f, t⟩ := by rfl) (ho : o + len ≤ N := by omega) (hd : Nat.blt d n = true := by rfl) (hq : xt R T T' = 1 := by rfl) (hX : ∃ js, v7 M i js R := by exact ⟨[], trivial⟩) : (z2 Tryz.prog G R ops n K rest ((d, .string (strOfNums ((List.range len).map fun j => (f (o + j) : Int)))) :: E) M) → z2 Tryz.prog G R ops n K (⟨some d, .convert T T' x, ty, pos, aft, none⟩ :: rest) E M := fun h_ => z6U (i := i) hs he ht hx hm ho hd hq hX h_
theorem QlK {b : Nat} {o : Nat} {l : Nat} {N : Nat} {ps : List zW} {t : TypeId} {td : TypeDesc} (i : Nat) (k : Nat) (c : Nat) (hT : Tryz.prog.underlying T = some td := by exact Tu rfl) (hn : zz td = true := by rfl) (hs : (Tryz.prog.info? T).map (·.size) = some l := by exact Tz rfl) (hx : rd E x = some (.pointer (some ⟨b, o, none⟩)) := by rfl) (hm : lkM M i = some ⟨b, cells N ps, t⟩ := by rfl) (ho : o = xa (ps.take k) := by rfl) (hl : l = xa (x8 ps k c) := by rfl) (hN : o + l ≤ N := by exact Nat.le_of_ble_eq_true rfl) (hd : Nat.blt d n = true := by rfl) (hX : ∃ js, v7 M i js R := by exact ⟨[], trivial⟩) : (z2 Tryz.prog G R ops n K rest ((d, .agg (cells l (x8 ps k c))) :: E) M) → z2 Tryz.prog G R ops n K (⟨some d, .load T x, ty, pos, aft, none⟩ :: rest) E M := fun h_ => zkw (i := i) k c hT hn hs hx hm ho hl hN hd hX h_
theorem QtK {b : Nat} {o : Nat} {l : Nat} {N : Nat} {ps : List zW} {qs : List zW} {t : TypeId} (i : Nat) (k : Nat) (c : Nat) (hs : (Tryz.prog.info? T).map (·.size) = some l := by exact Tz rfl) (hx : rd E x = some (.pointer (some ⟨b, o, none⟩)) := by rfl) (hy : rd E y = some (.agg (cells l qs)) := by rfl) (hq : z4O qs := by repeat (first | exact trivial | refine ⟨fun _ => rfl, ?_⟩)) (hm : lkM M i = some ⟨b, cells N ps, t⟩ := by rfl) (ho : o = xa (ps.take k) := by rfl) (hl : l = xa (x8 ps k c) := by rfl) (hl2 : l = xa qs := by rfl) (hN : o + l ≤ N := by exact Nat.le_of_ble_eq_true rfl) (hX : R.X = [] ∨ b ∈ R.X := by exact (.inl rfl)) (hY : R.Y = none := by rfl) : (z2 Tryz.prog G R ops n K rest E ((i, some ⟨b, cells N (ps.take k ++ (qs ++ ps.drop (k + c))), t⟩) :: M)) → z2 Tryz.prog G R ops n K (⟨none, .store T x y, ty, pos, aft, none⟩ :: rest) E M := fun h_ => zkP (i := i) k c hs hx hy hq hm ho hl hl2 hN hX h_
theorem QtC {b : Nat} {o : Nat} {l : Nat} {N : Nat} {kd : IntKind} {f : Nat → Nat} {F : Nat → Value} {ps : List zW} {t : TypeId} (i : Nat) (k : Nat) (hs : (Tryz.prog.info? T).map (·.size) = some l := by exact Tz rfl) (hx : rd E x = some (.pointer (some ⟨b, o, none⟩)) := by rfl) (hy : rd E y = some (.agg (arr kd l f)) := by rfl) (hm : lkM M i = some ⟨b, cells N ps, t⟩ := by rfl) (hk : xd ps k = some (o, l, F) := by rfl) (ho : o + l ≤ N := by decide) (hX : R.X = [] ∨ b ∈ R.X := by exact (.inl rfl)) (hY : R.Y = none := by rfl) : (z2 Tryz.prog G R ops n K rest E ((i, some ⟨b, cells N (wc ps k (fun i => .int kd (f i : Int))), t⟩) :: M)) → z2 Tryz.prog G R ops n K (⟨none, .store T x y, ty, pos, aft, none⟩ :: rest) E M := fun h_ => zkJ (i := i) k hs hx hy hm hk ho hX h_
theorem QtV {b : Nat} {o : Nat} {N : Nat} {v : Value} {F : Nat → Value} {ps : List zW} {t : TypeId} (i : Nat) (k : Nat) (hs : (Tryz.prog.info? T).map (·.size) = some 1 := by exact Tz rfl) (hx : rd E x = some (.pointer (some ⟨b, o, none⟩)) := by rfl) (hy : rd E y = some v := by rfl) (hv : v.oneCell' = true := by rfl) (hm : lkM M i = some ⟨b, cells N ps, t⟩ := by rfl) (hk : xd ps k = some (o, 1, F) := by rfl) (hN : o < N := by decide) (hX : R.X = [] ∨ b ∈ R.X := by exact (.inl rfl)) (hY : R.Y = none := by rfl) : (z2 Tryz.prog G R ops n K rest E ((i, some ⟨b, cells N (wc ps k (fun _ => v)), t⟩) :: M)) → z2 Tryz.prog G R ops n K (⟨none, .store T x y, ty, pos, aft, none⟩ :: rest) E M := fun h_ => z2u (i := i) k hs hx hy hv hm hk hN hX h_
abbrev NN := Nat → Nat
abbrev LN := List Nat
abbrev m64 := 18446744073709551615
abbrev Fp := Fn Tryz.prog
abbrev Fq := Fx Tryz.prog
abbrev R1 (e : TypeId) (l : List Nat) : Value → Mem → Mem → Prop := fun v l1 nw => l1 = [] ∧ ∃ v', v = v' ∧ OwnS e 1 v' l.length (l.map by8) nw
abbrev R2 (e : TypeId) (l : List Nat) : Value → Mem → Mem → Prop := fun v l1 nw => l1 = [] ∧ ∃ v', v = .tuple #[v', ii 0] ∧ OwnS e 1 v' l.length (l.map by8) nw
abbrev R3 (e : TypeId) (q : Value) (l : List Nat) : Value → Mem → Mem → Prop := fun v l1 nw => l1 = [] ∧ ∃ v', v = .tuple #[q, v', ii 0] ∧ OwnS e 1 v' l.length (l.map by8) nw
theorem g3 {a b c : Prop} (h : b → a := by exact Qcm (Qa) rfl) (g : c → b := by exact Qcm Qn rfl) : c → a := fun x => h (g x)
theorem g4 {a b c : Prop} (h : b → a := by exact Qcm Qs rfl) (g : c → b := by exact Qcm Qp rfl) : c → a := fun x => h (g x)
theorem g5 {a b c : Prop} (h : b → a := by exact Qcm (Qo) rfl) (g : c → b := by exact Qcm (Qo) rfl) : c → a := fun x => h (g x)
theorem g6 {a b c : Prop} (h : b → a := by exact Qcm (g4) rfl) (g : c → b := by exact Qcm (Qm) rfl) : c → a := fun x => h (g x)
theorem g7 {a b c : Prop} (h : b → a := by exact Qcm (Qm) rfl) (g : c → b := by exact Qcm (Qy) rfl) : c → a := fun x => h (g x)
theorem g8 {a b c : Prop} (h : b → a := by exact Qcm (Qa) rfl) (g : c → b := by exact Qcm (g3) rfl) : c → a := fun x => h (g x)
theorem g9 {a b c : Prop} (h : b → a := by exact Qcm (Q2 1) rfl) (g : c → b := by exact Qcm (Qm) rfl) : c → a := fun x => h (g x)
theorem ga {a b c : Prop} (h : b → a := by exact Qcm (Qx) rfl) (g : c → b := by exact Qcm (Qx) rfl) : c → a := fun x => h (g x)
theorem gb {a b c : Prop} (h : b → a := by exact Qcm (Qm) rfl) (g : c → b := by exact Qcm (Qm) rfl) : c → a := fun x => h (g x)
theorem gc {a b c : Prop} (h : b → a := by exact Qcm (g4) rfl) (g : c → b := by exact Qcm (g3) rfl) : c → a := fun x => h (g x)
theorem gd {a b c : Prop} (h : b → a := by exact Qcm (g4) rfl) (g : c → b := by exact Qcm (QD 0) rfl) : c → a := fun x => h (g x)
theorem ge {a b c : Prop} (h : b → a := by exact Qcm Qs rfl) (g : c → b := by exact Qcm (g6) rfl) : c → a := fun x => h (g x)
theorem gf {a b c : Prop} (h : b → a := by exact Qcm (g4) rfl) (g : c → b := by exact Qcm (Ql) rfl) : c → a := fun x => h (g x)
theorem gg {a b c : Prop} (h : b → a := by exact Qcm (g5) rfl) (g : c → b := by exact Qcm (g5) rfl) : c → a := fun x => h (g x)
theorem gh {a b c : Prop} (h : b → a := by exact Qcm Qn rfl) (g : c → b := by exact Qcm (Qcf) rfl) : c → a := fun x => h (g x)
theorem gi {a b c : Prop} (h : b → a := by exact Qcm (Qm) rfl) (g : c → b := by exact Qcm (ga) rfl) : c → a := fun x => h (g x)
theorem gj {a b c : Prop} (h : b → a := by exact Qcm Qn rfl) (g : c → b := by exact Qcm (g4) rfl) : c → a := fun x => h (g x)
theorem gk {a b c : Prop} (h : b → a := by exact Qcm Qp rfl) (g : c → b := by exact Qcm (g9) rfl) : c → a := fun x => h (g x)
theorem gl {a b c : Prop} (h : b → a := by exact Qcm (gk) rfl) (g : c → b := by exact Qcm Qn rfl) : c → a := fun x => h (g x)
theorem gm {a b c : Prop} (h : b → a := by exact Qcm (g3) rfl) (g : c → b := by exact Qcm (g6) rfl) : c → a := fun x => h (g x)
theorem gn {a b c : Prop} (h : b → a := by exact Qcm (g7) rfl) (g : c → b := by exact Qcm (g7) rfl) : c → a := fun x => h (g x)
theorem go {a b c : Prop} (h : b → a := by exact Qcm (gh) rfl) (g : c → b := by exact Qcm Qk rfl) : c → a := fun x => h (g x)
theorem gp {a b c : Prop} (h : b → a := by exact Qcm (gf) rfl) (g : c → b := by exact Qcm Qn rfl) : c → a := fun x => h (g x)
theorem gq {a b c : Prop} (h : b → a := by exact Qcm (gp) rfl) (g : c → b := by exact Qcm Qs rfl) : c → a := fun x => h (g x)
theorem gr {a b c : Prop} (h : b → a := by exact Qcm Qs rfl) (g : c → b := by exact Qcm (Qg) rfl) : c → a := fun x => h (g x)
theorem gs {a b c : Prop} (h : b → a := by exact Qcm Qs rfl) (g : c → b := by exact Qcm (g4) rfl) : c → a := fun x => h (g x)
theorem gt {a b c : Prop} (h : b → a := by exact Qcm (g3) rfl) (g : c → b := by exact Qcm Qr rfl) : c → a := fun x => h (g x)
theorem gu {a b c : Prop} (h : b → a := by exact Qcm (Qi) rfl) (g : c → b := by exact Qcm (Q1 0) rfl) : c → a := fun x => h (g x)
theorem gv {a b c : Prop} (h : b → a := by exact Qcm Qn rfl) (g : c → b := by exact Qcm (Qct) rfl) : c → a := fun x => h (g x)
theorem gw {a b c : Prop} (h : b → a := by exact Qcm (g5) rfl) (g : c → b := by exact Qcm (Qo) rfl) : c → a := fun x => h (g x)
theorem gx {a b c : Prop} (h : b → a := by exact Qcm (Qf 33) rfl) (g : c → b := by exact Qcm (QV 2 0) rfl) : c → a := fun x => h (g x)
theorem gy {a b c : Prop} (h : b → a := by exact Qcm (Qf 9) rfl) (g : c → b := by exact Qcm (QlK 0 9 5) rfl) : c → a := fun x => h (g x)
theorem gz {a b c : Prop} (h : b → a := by exact Qcm (gc) rfl) (g : c → b := by exact Qcm Qr rfl) : c → a := fun x => h (g x)
theorem h8 {a b c : Prop} (h : b → a := by exact Qcm (g8) rfl) (g : c → b := by exact Qcm Qr rfl) : c → a := fun x => h (g x)
theorem j0 {a b c : Prop} (h : b → a := by exact Qcm (Qf 0) rfl) (g : c → b := by exact Qcm (QV 0 0) rfl) : c → a := fun x => h (g x)
theorem j1 {a b c : Prop} (h : b → a := by exact Qcm (Qf 72) rfl) (g : c → b := by exact Qcm (QV 2 0) rfl) : c → a := fun x => h (g x)
theorem j3 {a b c : Prop} (h : b → a := by exact Qcm (g3) rfl) (g : c → b := by exact Qcm (g4) rfl) : c → a := fun x => h (g x)
theorem j4 {a b c : Prop} (h : b → a := by exact Qcm (Qt 1) rfl) (g : c → b := by exact Qcm Qn rfl) : c → a := fun x => h (g x)
theorem j5 {a b c : Prop} (h : b → a := by exact Qcm (Qm) rfl) (g : c → b := by exact Qcm (gg) rfl) : c → a := fun x => h (g x)
theorem j6 {a b c : Prop} (h : b → a := by exact Qcm (Qy) rfl) (g : c → b := by exact Qcm (QV 4 0) rfl) : c → a := fun x => h (g x)
theorem j7 {a b c : Prop} (h : b → a := by exact Qcm (Qf 9) rfl) (g : c → b := by exact Qcm (QtK 0 9 5) rfl) : c → a := fun x => h (g x)
theorem j8 {a b c : Prop} (h : b → a := by exact Qcm (Qaf) rfl) (g : c → b := by exact Qcm (go) rfl) : c → a := fun x => h (g x)
theorem j9 {a b c : Prop} (h : b → a := by exact Qcm (Qf 0) rfl) (g : c → b := by exact Qcm (Qv 0 0) rfl) : c → a := fun x => h (g x)
theorem ja {a b c : Prop} (h : b → a := by exact Qcm (g8) rfl) (g : c → b := by exact Qcm (ge) rfl) : c → a := fun x => h (g x)
theorem jb {a b c : Prop} (h : b → a := by exact Qcm (g3) rfl) (g : c → b := by exact Qcm (gl) rfl) : c → a := fun x => h (g x)
theorem jc {a b c : Prop} (h : b → a := by exact Qcm Qn rfl) (g : c → b := by exact Qcm (gl) rfl) : c → a := fun x => h (g x)
theorem jd {a b c : Prop} (h : b → a := by exact Qcm (Qf 5) rfl) (g : c → b := by exact Qcm (QV 5 0) rfl) : c → a := fun x => h (g x)
theorem je {a b c : Prop} (h : b → a := by exact Qcm Qp rfl) (g : c → b := by exact Qcm (Qm) rfl) : c → a := fun x => h (g x)
theorem jf {a b c : Prop} (h : b → a := by exact Qcm Qn rfl) (g : c → b := by exact Qcm (gr) rfl) : c → a := fun x => h (g x)
theorem jg {a b c : Prop} (h : b → a := by exact Qcm (ge) rfl) (g : c → b := by exact Qcm Qn rfl) : c → a := fun x => h (g x)
theorem jh {a b c : Prop} (h : b → a := by exact Qcm (Qf 23) rfl) (g : c → b := by exact Qcm (j6) rfl) : c → a := fun x => h (g x)
theorem ji {a b c : Prop} (h : b → a := by exact Qcm (jg) rfl) (g : c → b := by exact Qcm Qb rfl) : c → a := fun x => h (g x)
theorem jj {a b c : Prop} (h : b → a := by exact Qcm (Qi) rfl) (g : c → b := by exact Qcm (Qu 0) rfl) : c → a := fun x => h (g x)
theorem jk {a b c : Prop} (h : b → a := by exact Qcm (QW 1) rfl) (g : c → b := by exact Qcm (h8) rfl) : c → a := fun x => h (g x)
theorem jl {a b c : Prop} (h : b → a := by exact Qcm (Q1 3) rfl) (g : c → b := by exact Qcm (Qm) rfl) : c → a := fun x => h (g x)
theorem jm {a b c : Prop} (h : b → a := by exact Qcm (gm) rfl) (g : c → b := by exact Qcm (QN) rfl) : c → a := fun x => h (g x)
theorem jn {a b c : Prop} (h : b → a := by exact Qcm (gi) rfl) (g : c → b := by exact Qcm (Qx) rfl) : c → a := fun x => h (g x)
theorem jo {a b c : Prop} (h : b → a := by exact Qcm Qe rfl) (g : c → b := by exact Qcm (g4) rfl) : c → a := fun x => h (g x)
theorem jp {a b c : Prop} (h : b → a := by exact Qcm Qb rfl) (g : c → b := by exact Qcm (g6) rfl) : c → a := fun x => h (g x)
theorem jq {a b c : Prop} (h : b → a := by exact Qcm Qs rfl) (g : c → b := by exact Qcm (jp) rfl) : c → a := fun x => h (g x)
theorem jr {a b c : Prop} (h : b → a := by exact Qcm Qk rfl) (g : c → b := by exact Qcm (jq) rfl) : c → a := fun x => h (g x)
theorem jt {a b c : Prop} (h : b → a := by exact Qcm (go) rfl) (g : c → b := by exact Qcm (gs) rfl) : c → a := fun x => h (g x)
end Go.Proofs.YtlidhfijmcelpaaGreatDoor
attribute [local simp] Go.Proofs.YtlidhfijmcelpaaGreatDoor.By Go.Proofs.YtlidhfijmcelpaaGreatDoor.L8
namespace Go.Proofs.YtlidhfijmcelpaaGreatDoor
open Go Go.RowKit
theorem zl2 : Tryz.prog.eqGuardType Tryz.prog.depth 23 = false := by kernel_rfl
theorem z0j : Tryz.prog.eqGuardType Tryz.prog.depth 30 = false := by kernel_rfl
theorem zdf : Tryz.prog.eqGuardType Tryz.prog.depth 33 = false := by kernel_rfl
theorem vN : Tryz.prog.eqGuardType Tryz.prog.depth 244 = false := by kernel_rfl
theorem zeo : Tryz.prog.eqGuardType Tryz.prog.depth 245 = false := by kernel_rfl
theorem vM (w : World) : (((#[.mk "Has" 4 0 false "" "" 0, .mk "Key" 30 1 false "" "" 1, .mk "N" 31 33 false "" "" 40] : Array Field).mapM fun f => do pure (f.offset, ← sizeOf f.type) : Sem (Array (Nat × Nat)))).run Tryz.prog w = .ok #[(0, 1), (1, 32), (33, 1)] w := wD (l := [(0, 1), (1, 32), (33, 1)]) (by kernel_rfl) w
theorem z0b (w : World) : (((#[.mk "Cipher" 33 0 false "" "" 0, .mk "Chain" 30 34 false "" "" 48, .mk "Hash" 30 66 false "" "" 80] : Array Field).mapM fun f => do pure (f.offset, ← sizeOf f.type) : Sem (Array (Nat × Nat)))).run Tryz.prog w = .ok #[(0, 34), (34, 32), (66, 32)] w := wD (l := [(0, 34), (34, 32), (66, 32)]) (by kernel_rfl) w
theorem z33 (w : World) : (((#[.mk "H" 110 0 false "" "" 0, .mk "Held" 111 8 false "" "" 32, .mk "N" 3 72 false "" "" 96, .mk "Len" 3 73 false "" "" 104] : Array Field).mapM fun f => do pure (f.offset, ← sizeOf f.type) : Sem (Array (Nat × Nat)))).run Tryz.prog w = .ok #[(0, 8), (8, 64), (72, 1), (73, 1)] w := wD (l := [(0, 8), (8, 64), (72, 1), (73, 1)]) (by kernel_rfl) w
theorem z36 (w : World) : (((#[.mk "x" 120 0 false "" "signet/signetref" 0, .mk "z" 120 16 false "" "signet/signetref" 128] : Array Field).mapM fun f => do pure (f.offset, ← sizeOf f.type) : Sem (Array (Nat × Nat)))).run Tryz.prog w = .ok #[(0, 16), (16, 16)] w := wD (l := [(0, 16), (16, 16)]) (by kernel_rfl) w
theorem zdt (w : World) : (((#[.mk "who" 3 0 false "" "signet/signetref" 0, .mk "token" 3 1 false "" "signet/signetref" 8] : Array Field).mapM fun f => do pure (f.offset, ← sizeOf f.type) : Sem (Array (Nat × Nat)))).run Tryz.prog w = .ok #[(0, 1), (1, 1)] w := wD (l := [(0, 1), (1, 1)]) (by kernel_rfl) w
theorem zex (w : World) : (((#[.mk "R" 244 0 false "" "" 0, .mk "Pad" 244 2 false "" "" 16, .mk "Acc" 245 4 false "" "" 32, .mk "Held" 213 7 false "" "" 56, .mk "N" 3 23 false "" "" 72] : Array Field).mapM fun f => do pure (f.offset, ← sizeOf f.type) : Sem (Array (Nat × Nat)))).run Tryz.prog w = .ok #[(0, 2), (2, 2), (4, 3), (7, 16), (23, 1)] w := wD (l := [(0, 2), (2, 2), (4, 3), (7, 16), (23, 1)]) (by kernel_rfl) w
theorem z4M : ((Tryz.prog.info? 5).map (·.size)).isSome = true := by kernel_rfl
theorem zk5 : ((Tryz.prog.info? 31).map (·.size)).isSome = true := by kernel_rfl
theorem z3C : Tryz.prog.underlying 33 = some (.struct #[.mk "Has" 4 0 false "" "" 0, .mk "Key" 30 1 false "" "" 1, .mk "N" 31 33 false "" "" 40]) := by kernel_rfl
theorem z0v : Tryz.prog.underlying 4 = some (.bool) := by kernel_rfl
theorem vw : Tryz.prog.underlying 30 = some (.array 32 5) := by kernel_rfl
theorem Xr : (Tryz.prog.info? 30).map (·.size) = some 32 := by kernel_rfl
theorem z2H : Tryz.prog.underlying 5 = some (.int .u8) := by kernel_rfl
theorem z3u : (Tryz.prog.info? 5).map (·.size) = some 1 := by kernel_rfl
theorem XY : Tryz.prog.underlying 31 = some (.int .u64) := by kernel_rfl
theorem zf5 {f0 g0 : Bool} {f1 g1 : NN} {f2 g2 : Int} : Eqv Tryz.prog 10000 33 (.agg (cells 34 [pV (.bool f0), pI .u8 32 f1, pV (.int .u64 f2)])) (.agg (cells 34 [pV (.bool g0), pI .u8 32 g1, pV (.int .u64 g2)])) ([(f0 == g0), zP 32 f1 g1, (f2 == g2)].all id) := z7g z3C (by kernel_rfl) ⟨⟨by decide, _, _, vA (k := 0) z0v rfl rfl rfl (Nat.le_of_ble_eq_true rfl), vA (k := 0) z0v rfl rfl rfl (Nat.le_of_ble_eq_true rfl), zbV z0v⟩, ⟨by decide, _, _, Zj (k := 1) vw rfl Xr rfl rfl (Nat.le_of_ble_eq_true rfl), Zj (k := 1) vw rfl Xr rfl rfl (Nat.le_of_ble_eq_true rfl), zgG vw z2H z3u⟩, ⟨by decide, _, _, vA (k := 2) XY rfl rfl rfl (Nat.le_of_ble_eq_true rfl), vA (k := 2) XY rfl rfl rfl (Nat.le_of_ble_eq_true rfl), zgS XY⟩, trivial⟩
end Go.Proofs.YtlidhfijmcelpaaGreatDoor
