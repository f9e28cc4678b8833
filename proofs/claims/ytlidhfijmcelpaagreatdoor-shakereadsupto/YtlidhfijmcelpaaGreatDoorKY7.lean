import Derived.Test.YtlidhfijmcelpaaGreatDoorKY6
import Derived.Test.YtlidhfijmcelpaaGreatDoorRows
import Derived.ProofKit
import Derived.OpenShut
import Derived.LaidMore
import Derived.Lay
import Derived.MakeChecks
set_option maxRecDepth 30000
namespace Go.Proofs.YtlidhfijmcelpaaGreatDoor
open Go Go.RowKit
theorem zea {x : Nat} (h : x < 4294967296) : (x ^^^ 0 % 4294967296) % 4294967296 = x := by simp; omega
theorem z1M {h s : Nat → Nat} {many : Nat} (hs : ∀ t, t < 16 → s t = if t % 8 < 8 then w00 h t else 0) : ∀ t, t < 16 → upd (upd s 12 ((s 12 ^^^ many % 4294967296) % 4294967296)) 13 ((upd s 12 ((s 12 ^^^ many % 4294967296) % 4294967296) 13 ^^^ 0 % 4294967296) % 4294967296) t = w0 h many false t := fun t ht => by
 have e : upd s 12 ((s 12 ^^^ many % 4294967296) % 4294967296) 13 = ivf 5 := by
  rw [yL _ _ (by decide), hs 13 (by decide), if_pos (by decide)]; rfl
 rw [e, zea (zjE 5)]
 by_cases h1 : t = 13
 ·rw [h1, VA]; rfl
 ·rw [yL _ _ h1]; exact z4b hs t ht
theorem zfa {h s : Nat → Nat} {many : Nat} (hs : ∀ t, t < 16 → s t = if t % 8 < 8 then w00 h t else 0) : ∀ t, t < 16 → upd (upd (upd s 12 ((s 12 ^^^ many % 4294967296) % 4294967296)) 13 ((upd s 12 ((s 12 ^^^ many % 4294967296) % 4294967296) 13 ^^^ 0 % 4294967296) % 4294967296)) 14 ((4294967295 ^^^ upd (upd s 12 ((s 12 ^^^ many % 4294967296) % 4294967296)) 13 ((upd s 12 ((s 12 ^^^ many % 4294967296) % 4294967296) 13 ^^^ 0 % 4294967296) % 4294967296) 14) % 4294967296) t = w0 h many true t := fun t ht => by
 have e := z1M (many := many) hs
 by_cases h1 : t = 14
 ·rw [h1, VA, e 14 (by decide)]; rfl
 ·rw [yL _ _ h1, e t ht]
  unfold w0
  by_cases h2 : t = 12
  ·rw [if_pos h2, if_pos h2]
  ·rw [if_neg h2, if_neg h2, if_neg (by simp), if_neg (by simp [h1])]
theorem zey (w : Nat → Nat) : ∀ n i, i < 4 * n → (hol w n).getD i 0 = w (i / 4) / 256 ^ (i % 4) % 256
 | 0, i, h => by omega
 | n + 1, i, h => by
  rw [hol, List.getD_eq_getElem?_getD]
  by_cases hi : i < 4 * n
  ·rw [List.getElem?_append_left (by rw [XF]; exact hi), ← List.getD_eq_getElem?_getD, zey w n i hi]
  ·rw [List.getElem?_append_right (by rw [XF]; omega), XF, List.getElem?_eq_getElem (by rw [zL]; omega)]
   rw [show i / 4 = n by omega, show i % 4 = i - 4 * n by omega]
   simp [xR]
theorem zgj (w : Nat → Nat) {i : Nat} (hi : i < 32) : w (i / 4) / 2 ^ (i % 4 * 8) % 256 = Yq w i := by
 unfold Yq
 rw [zey w 8 i (by omega), Nat.mul_comm (i % 4) 8, Nat.pow_mul]
def Vf (S : List Nat) (p j : Nat) : Nat := if j < p - 64 * yK p then S.getD (64 * yK p + j) 0 else 0
def ZT (h d : Nat → Nat) (n ln : Nat) (l : List Nat) (hh g : Nat → Nat) (nn q : Nat) : Prop :=
 ln ≤ q ∧ q ≤ ln + l.length ∧ hh = Zb h (ln - n) (sS d n l) (yK (n + (q - ln))) ∧ (∀ j, j < 64 → g j = Vf (sS d n l) (n + (q - ln)) j) ∧ nn = n + (q - ln) - 64 * yK (n + (q - ln))
theorem zk7 (d : Nat → Nat) {n j : Nat} (l : List Nat) (h : j < n) : (sS d n l).getD j 0 = d j := by
 unfold sS
 rw [List.getD_eq_getElem?_getD, List.getElem?_append_left (by simpa using h), List.getElem?_map, List.getElem?_range h]
 rfl
theorem z8y (d : Nat → Nat) (n j : Nat) (l : List Nat) : (sS d n l).getD (n + j) 0 = l.getD j 0 := by
 unfold sS
 rw [List.getD_eq_getElem?_getD, List.getElem?_append_right (by simp), List.length_map, List.length_range, Nat.add_sub_cancel_left, ← List.getD_eq_getElem?_getD]
theorem z3t (l : List Nat) (c j : Nat) : (l.drop c).getD j 0 = l.getD (c + j) 0 := by
 rw [List.getD_eq_getElem?_getD, List.getElem?_drop, ← List.getD_eq_getElem?_getD]
theorem zb9 {h d : Nat → Nat} {n ln : Nat} (l : List Nat) (hok : okB n ln d = true) : ZT h d n ln l h d n ln := by
 obtain ⟨_, hnl, hn, _, hz⟩ := Wi hok
 have hb : yK (n + (ln - ln)) = 0 := by unfold yK; omega
 refine ⟨Nat.le_refl _, by omega, by rw [hb]; rfl, fun j hj => ?_, by rw [hb]; omega⟩
 unfold Vf
 rw [hb]
 by_cases h1 : j < n
 ·rw [if_pos (by omega), show 64 * 0 + j = j by omega, zk7 d l h1]
 ·rw [if_neg (by omega), hz j (by omega) hj]
theorem ziH {h d hh g : Nat → Nat} {n ln nn q : Nat} {l : List Nat} (hd : ∀ j, j < 64 → d j < 256) (hn : n ≤ 64) (hl : ∀ b ∈ l, b < 256) (hi : ZT h d n ln l hh g nn q) : ∀ j, j < 64 → g j < 256 := fun j hj => by
 rw [hi.2.2.2.1 j hj]
 unfold Vf
 split
 ·exact ZW (z9i (n := n) (fun j hj => hd j (by omega)) hl) _
 ·decide
theorem zjt {h d hh g : Nat → Nat} {n ln nn q : Nat} {l : List Nat} (hi : ZT h d n ln l hh g nn q) : nn ≤ 64 := by
 rw [hi.2.2.2.2]; unfold yK; omega
theorem z5Y {h d hh g : Nat → Nat} {n ln nn q : Nat} {l : List Nat} (hnl : n ≤ ln) (hi : ZT h d n ln l hh g nn q) (hN : nn = 64) (hm : (ln - n) % 64 = 0) {k : Nat} (hk : k = min (l.drop (q - ln)).length 64) (h0 : 0 < (l.drop (q - ln)).length) {hh' g' : Nat → Nat} {nn' q' : Nat} (e1 : hh' = sqz hh ((List.range 64).map g) q false) (e2 : ∀ j, j < 64 → g' j = if 0 ≤ j ∧ j < 0 + k then (l.drop (q - ln)).getD (j - 0) 0 else 0) (e3 : nn' = 0 + k) (e4 : q' = q + k) : ZT h d n ln l hh' g' nn' q' := by
 obtain ⟨i1, i2, i3, i4, i5⟩ := hi
 rw [List.length_drop] at hk h0
 obtain ⟨B, hB⟩ : ∃ B, B = yK (n + (q - ln)) := ⟨_, rfl⟩
 have hp : n + (q - ln) = 64 * (B + 1) := by have := hB; unfold yK at this; omega
 have hp' : n + (q' - ln) = 64 * (B + 1) + k := by omega
 have hB' : yK (n + (q' - ln)) = B + 1 := by unfold yK; omega
 have hfull : (List.range 64).map g = ((sS d n l).drop (64 * B)).take 64 := by
  apply List.ext_getElem
  ·simp [V3]; omega
  ·intro j h1 h2
   simp only [List.getElem_map, List.getElem_range, List.getElem_take, List.getElem_drop]
   have hj : j < 64 := by simpa using h1
   rw [i4 j hj]
   unfold Vf
   rw [← hB, if_pos (by omega), List.getD_eq_getElem?_getD, List.getElem?_eq_getElem (by rw [V3]; omega)]
   rfl
 refine ⟨by omega, by omega, ?_, fun j hj => ?_, by rw [hB']; omega⟩
 ·rw [e1, hB', Zb, hfull, i3, ← hB, show ln - n + 64 * (B + 1) = q by omega]
 ·rw [e2 j hj]
  unfold Vf
  rw [hB']
  by_cases h1 : j < k
  ·rw [if_pos (by omega), if_pos (by omega), z3t, Nat.sub_zero, show 64 * (B + 1) + j = n + (q - ln + j) by omega, z8y]
  ·rw [if_neg (by omega), if_neg (by omega)]
theorem z4z {h d hh g : Nat → Nat} {n ln nn q : Nat} {l : List Nat} (hi : ZT h d n ln l hh g nn q) (hN : nn < 64) {k : Nat} (hk : k = min (l.drop (q - ln)).length (64 - nn)) (h0 : 0 < (l.drop (q - ln)).length) {g' : Nat → Nat} {nn' q' : Nat} (e2 : ∀ j, j < 64 → g' j = if nn ≤ j ∧ j < nn + k then (l.drop (q - ln)).getD (j - nn) 0 else g j) (e3 : nn' = nn + k) (e4 : q' = q + k) : ZT h d n ln l hh g' nn' q' := by
 obtain ⟨i1, i2, i3, i4, i5⟩ := hi
 rw [List.length_drop] at hk h0
 obtain ⟨B, hB⟩ : ∃ B, B = yK (n + (q - ln)) := ⟨_, rfl⟩
 rw [← hB] at i3 i5
 have hpB : 64 * B ≤ n + (q - ln) := by rw [hB]; exact VU _
 have hB' : yK (n + (q' - ln)) = B := by have := hB; unfold yK at this ⊢; omega
 refine ⟨by omega, by omega, by rw [hB']; exact i3, fun j hj => ?_, by rw [hB']; omega⟩
 rw [e2 j hj]
 unfold Vf
 rw [hB']
 by_cases h1 : nn ≤ j ∧ j < nn + k
 ·rw [if_pos h1, if_pos (by omega), z3t, show 64 * B + j = n + (q - ln + (j - nn)) by omega, z8y]
 ·rw [if_neg h1, i4 j hj]
  unfold Vf
  rw [← hB]
  by_cases h2 : j < nn
  ·rw [if_pos (by omega), if_pos (by omega)]
  ·rw [if_neg (by omega), if_neg (by omega)]
theorem z2n {B : Mem} {bv : Value} {l : List Nat} {q ln k : Nat} (h : Shows B 1 bv (l.drop (q - ln)).length ((l.drop (q - ln)).map by8)) (hk : k ≤ (l.drop (q - ln)).length) (hq : ln ≤ q) : Shows B 1 (yr 1 bv k (l.drop (q - ln)).length) (l.drop (q + k - ln)).length ((l.drop (q + k - ln)).map by8) :=
 h.cut hk (Nat.le_refl _) (by rw [List.drop_drop, List.take_of_length_le (by simp; omega), show q - ln + k = q + k - ln by omega])
theorem zft {h h' d d' : Nat → Nat} {n n' ln ln' : Nat} (hh : h = h') (hd : ∀ j, j < 64 → d j = d' j) (hn : n = n') (hl : ln = ln') : Value.agg (cells 74 [pI .u32 8 h, pI .u8 64 d, pV (.int .i64 (n : Int)), pV (.int .i64 (ln : Int))]) = Value.agg (cells 74 [pI .u32 8 h', pI .u8 64 d', pV (.int .i64 (n' : Int)), pV (.int .i64 (ln' : Int))]) := by
 subst hh hn hl
 congr 1
 exact Vh ⟨rfl, fun _ _ => rfl, rfl, fun i hi => congrArg (fun z : Nat => Value.int .u8 (z : Int)) (hd i hi), rfl, fun _ _ => rfl, rfl, fun _ _ => rfl, trivial⟩
theorem ze2 {h d hh g : Nat → Nat} {n ln nn q : Nat} {l : List Nat} (hi : ZT h d n ln l hh g nn q) (h0 : (l.drop (q - ln)).length = 0) : hh = Zb h (ln - n) (sS d n l) (yK (sS d n l).length) ∧ (∀ j, j < 64 → g j = ((sS d n l).drop (64 * yK (sS d n l).length)).getD j 0) ∧ nn = ((sS d n l).drop (64 * yK (sS d n l).length)).length ∧ q = ln + l.length := by
 obtain ⟨i1, i2, i3, i4, i5⟩ := hi
 rw [List.length_drop] at h0
 have hp : n + (q - ln) = (sS d n l).length := by rw [V3]; omega
 rw [hp] at i3 i4 i5
 refine ⟨i3, fun j hj => ?_, by rw [i5, List.length_drop], by omega⟩
 rw [i4 j hj, z3t]
 unfold Vf
 by_cases h1 : j < (sS d n l).length - 64 * yK (sS d n l).length
 ·rw [if_pos h1]
 ·rw [if_neg h1, List.getD_eq_getElem?_getD, List.getElem?_eq_none (by omega)]; rfl
end Go.Proofs.YtlidhfijmcelpaaGreatDoor
namespace Go.Proofs.YtlidhfijmcelpaaGreatDoor
open Go Go.RowKit
section
variable {P : Program} {G : Mem} {R : Reg} {ops : Array Oper} {K : Act → Mem → Prop} {rest : List Oper} {a : Act} {m : Mem} {d : Option Tmp} {ty : TypeId} {pos : String} {aft : Array Edge}
variable {T T' : TypeId} {x y : Operand}
theorem z4A {e : TypeId} {oa : Option Addr} {len cap : Nat} (hT : P.underlying T = some (.slice e)) (hx : a.eval x = .slice oa len cap) (hy : a.eval y = y4) (h : z8 P G R ops K rest (a.put d (.bool oa.isNone)) m) :
  z8 P G R ops K (⟨d, .binOp .eql T x y T', ty, pos, aft, none⟩ :: rest) a m :=
 zJ (fun w => by
  have h1 : (Op.equalIn 10000 T (.slice oa len cap) (.slice none 0 0)).run P w = .ok oa.isNone w := by
   unfold Op.equalIn
   rw [Sem.run_bind, run_underlying hT]
   cases oa <;> rfl
  rw [hx, hy]
  simp only [Sem.run_bind, eqGuard, binOp, Op.equal, Op.maxDepth]
  simp [h1]) h
end
section
variable {P : Program} {G : Mem} {R : Reg} {ops : Array Oper} {n : Nat} {K : Env → Mm → Prop} {Q : Exit → Env → Mm → Prop} {rest : List Oper} {E : Env} {M : Mm} {d : Nat} {ty : TypeId} {pos : String} {aft : Array Edge}
variable {T T' : TypeId} {x y : Operand}
theorem z39 {e : TypeId} {v : Value} {B : Mem} {z k : Nat} {xs : List Value} (hv : Shows B z v k xs) (hT : P.underlying T = some (.slice e)) (hx : rd E x = some v) (hy : rd E y = some y4) (hd : Nat.blt d n = true)
  (h : ∀ b : Bool, (b = true → k = 0) → z2 P G R ops n K rest ((d, .bool b) :: E) M) : z2 P G R ops n K (⟨some d, .binOp .eql T x y T', ty, pos, aft, none⟩ :: rest) E M := fun _ _ ha hM => by
 rcases hv with ⟨h0, _, oa, cap, rfl, _⟩ | ⟨b, o, cap, c, t, rfl, _⟩
 ·exact z4A hT (ha.rd hx) (ha.rd hy) (h _ (fun _ => h0) _ _ (ha.put hd _) hM)
 ·exact z4A hT (ha.rd hx) (ha.rd hy) (h _ (fun hb => by cases hb) _ _ (ha.put hd _) hM)
end
section
variable {P : Program} {G : Mem} {R : Reg} {ops : Array Oper} {K : Act → Mem → Prop} {rest : List Oper} {a : Act} {m : Mem} {d : Option Tmp} {ty : TypeId} {pos : String} {aft : Array Edge}
variable {T T' : TypeId} {x y : Operand}
theorem ziS {p q : Bool} (hT : P.underlying T = some .bool) (hx : a.eval x = .bool p) (hy : a.eval y = .bool q) (h : z8 P G R ops K rest (a.put d (.bool (p != q))) m) :
  z8 P G R ops K (⟨d, .binOp .neq T x y T', ty, pos, aft, none⟩ :: rest) a m :=
 zJ (fun w => by
  have h1 : (Op.equalIn 10000 T (.bool p) (.bool q)).run P w = .ok (p == q) w := run_equalIn_bool' w 9999 T p q hT
  rw [hx, hy]
  simp only [Sem.run_bind, eqGuard, binOp, Op.equal, Op.maxDepth]
  simp [h1, bne]) h
end
section
variable {P : Program} {G : Mem} {R : Reg} {ops : Array Oper} {n : Nat} {K : Env → Mm → Prop} {rest : List Oper} {E : Env} {M : Mm} {d : Nat} {ty : TypeId} {pos : String} {aft : Array Edge}
variable {T T' : TypeId} {x y : Operand}
theorem zl4 {p q : Bool} (hT : P.underlying T = some .bool) (hx : rd E x = some (.bool p)) (hy : rd E y = some (.bool q)) (hd : Nat.blt d n = true) (h : z2 P G R ops n K rest ((d, .bool (p != q)) :: E) M) :
  z2 P G R ops n K (⟨some d, .binOp .neq T x y T', ty, pos, aft, none⟩ :: rest) E M := fun _ _ ha hM => ziS hT (ha.rd hx) (ha.rd hy) (h _ _ (ha.put hd _) hM)
end
section
variable {P : Program} {G : Mem} {n : Nat}
def zkf (P : Program) (S : Value → Mem → Prop) (fn : Func) : Exit → Env → Mm → Prop
 | .normal, E, M | .ret, E, M => ∃ r r' r'' v v' v'' fz, fn.results = #[r, r', r''] ∧ Res P E M r v ∧ Res P E M r' v' ∧ Res P E M r'' v'' ∧ S (.tuple #[v, v', v'']) fz ∧ Bag fz M
 | _, _, _ => False
theorem zih {f : FuncId} {fn : Func} {c : Code} {args : Array Value} {S : Value → Mem → Prop} (hf : P.funcs[f]? = some fn) (hb : fn.body = some c) (hn : fn.ntmps = n) (ha : args.size ≤ n) (E : Env) (hE : ∀ t v, lk E t = some v → args[t]? = some v)
  (h : yc P G c n (zkf P S fn) E []) : Fx P G [] f args (fun v l1 nw => l1 = [] ∧ S v nw) :=
 z0P hf hb (yG (h _ [] ⟨by simp [hn]; omega, rfl, fun t v ht => by
  have := hE t v ht
  have hlt := (Array.getElem?_eq_some_iff.1 this).1
  rw [Array.getElem?_append_left hlt]; exact this⟩ (FitsM.nil _)) fun e' a m ⟨E', M', h1, h0, h2⟩ => by
   have key : (∃ r r' r'' v v' v'' fz, fn.results = #[r, r', r''] ∧ Res P E' M' r v ∧ Res P E' M' r' v' ∧ Res P E' M' r'' v'' ∧ S (.tuple #[v, v', v'']) fz ∧ Bag fz M') → a.defers = [] ∧ ∃ v l1 nw, (l1 = [] ∧ S v nw) ∧ (nw.map (·.b)).Nodup ∧ (∀ x ∈ nw, x.b ∉ ([] : Mem).map (·.b)) ∧ (∀ x ∈ l1 ++ nw, x ∈ m) ∧ ∀ w, MemIn m w → (results fn a.tmps).run P w = .ok v w := fun ⟨r, r', r'', v, v', v'', fz, hr, hR, hR', hR'', ho, hb⟩ =>
    ⟨h1.defers, .tuple #[v, v', v''], [], fz, ⟨rfl, ho⟩, (h0.bag_in hb).1, by simp, fun x hx => (h0.bag_in hb).2 x (by simpa using hx), fun w hw => by
     have := yR h1 h0 hw hR
     have t' := yR h1 h0 hw hR'
     have t'' := yR h1 h0 hw hR''
     rw [yT, hr, zfu]
     simp [this, t', t'']⟩
   cases e' <;> first | exact key h2 | exact h2.elim)
end
end Go.Proofs.YtlidhfijmcelpaaGreatDoor
namespace Go.Proofs.YtlidhfijmcelpaaGreatDoor
open Go Go.RowKit
theorem zhl {late : Bool} {p0 p1 : List Int} {ts : List (List Int)} (h : zN late p0 p1 ts = 0) : ts.length ≤ 5 ∧ ∀ i, i < ts.length → ∃ q : List Nat, ts.getD i [] = ci q ∧ (∀ x ∈ q, 1 ≤ x ∧ x ≤ 7) ∧ q.length ≤ 6 := by
 unfold zN at h
 by_cases h0 : ts.length = 0 ∨ 5 < ts.length
 ·rw [if_pos h0] at h; cases h
 rw [if_neg h0] at h
 by_cases h1 : zZ (p0 :: p1 :: ts) = 0
 ·refine ⟨by omega, fun i hi => ?_⟩
  have hm : ts.getD i [] ∈ ts := by
   rw [List.getD_eq_getElem?_getD, List.getElem?_eq_getElem hi]; exact List.getElem_mem hi
  have hw := wV h1 _ (List.mem_cons_of_mem _ (List.mem_cons_of_mem _ hm))
  generalize ts.getD i [] = l at hw ⊢
  obtain ⟨hl, hw⟩ := hw
  rw [List.any_eq_false] at hw
  have hin : ∀ x ∈ l, 1 ≤ x ∧ x ≤ 7 := fun x hx => by
   have := hw x hx
   unfold xk at this
   simp only [Bool.or_eq_true, decide_eq_true_eq, not_or] at this
   omega
  refine ⟨l.map Int.toNat, ?_, fun x hx => ?_, by rw [List.length_map]; exact hl⟩
  ·rw [ci, List.map_map]
   exact ((List.map_congr_left (f := id) (fun x hx => by have := hin x hx; show x = ((x.toNat : Nat) : Int); omega)).symm.trans (List.map_id _)).symm
  ·obtain ⟨y, hy, rfl⟩ := List.mem_map.1 hx
   have := hin y hy; omega
 ·rw [if_neg h1] at h; exact absurd h h1
abbrev z6F (dd : Bool) (tn : Int) (n : Nat) (us : Int) (pf : Nat) : Bool := ((((dd || decide (tn < 0)) || decide ((n : Int) ≤ tn)) || decide (us < 0)) || decide (((pf : Nat) : Int) ≠ 0))
theorem zjr {dd : Bool} {tn us : Int} {n pf : Nat} {f0 late : Bool} (h : z6F dd tn n us pf = true) : YZ dd tn n us f0 late pf = false := by
 unfold YZ
 split
 ·rfl
 ·next h9 =>
  simp only [not_or] at h9
  obtain ⟨a, b, c, d⟩ := h9
  have : decide ((pf : Int) = 0) = false := by
   simp only [z6F, Bool.or_eq_true, decide_eq_true_eq] at h
   rcases h with ((((h | h) | h) | h) | h)
   ·exact absurd h a
   ·exact absurd h c
   ·exact absurd h d
   ·exact absurd h b
   ·exact decide_eq_false h
  rw [this, Bool.and_false]
theorem zek {dd : Bool} {tn us : Int} {n pf : Nat} (h : z6F dd tn n us pf = false) : dd = false ∧ 0 ≤ tn ∧ tn < n ∧ 0 ≤ us ∧ pf = 0 := by
 simp only [z6F, Bool.or_eq_false_iff, decide_eq_false_iff_not] at h
 obtain ⟨⟨⟨⟨a, b⟩, c⟩, d⟩, e⟩ := h
 exact ⟨a, by omega, by omega, by omega, by omega⟩
theorem ziV {dd : Bool} {tq : Nat} {us : Int} {n pf : Nat} {f0 late : Bool} (h : z6F dd ((tq : Nat) : Int) n us pf = false) : YZ dd ((tq : Nat) : Int) n us f0 late pf = (f0 == (decide (((tq % 2 : Nat) : Int) = 0) != late)) := by
 obtain ⟨a, b, c, d, e⟩ := zek h
 unfold YZ
 rw [if_neg (by rw [a]; simp only [not_or]; exact ⟨by decide, by omega, by omega, by omega⟩), e, Int.toNat_natCast]
 simp
theorem zi8 (a b : Bool) : ((!a) == b) = !(b == a) := by cases a <;> cases b <;> rfl
end Go.Proofs.YtlidhfijmcelpaaGreatDoor
namespace Go.Proofs.YtlidhfijmcelpaaGreatDoor
open Go Go.ChangeShapes Go.WideShapes Go.ChangeAt Go.RowKit
section
variable {H : Type} {enc : TypeId × Value → H} {P : Program} {w : World} {base : Nat} {spare : Nat → Bool} {held : Bool}
end
theorem zgZ (z : Int) (h : (Lit.int .u8 z).wf = true) : ∃ c : Nat, z = (c : Int) ∧ c < 256 := by
 have := zkt z h
 exact ⟨z.toNat, by omega, by omega⟩
end Go.Proofs.YtlidhfijmcelpaaGreatDoor
namespace Go.Proofs.YtlidhfijmcelpaaGreatDoor
open Go Go.ChangeShapes Go.WideShapes Go.ChangeAt Go.RowKit
section
variable {P : Program} {G : Mem}
end
theorem zhc {cs : Array Value} {off : Nat} {v : Value} (h : (cs.toList.drop off).take 1 = [v]) : ∀ j, j < 1 → cs[off + j]? = some v := fun j hj => by
 have h0 : ((cs.toList.drop off).take 1)[0]? = some v := by rw [h]; rfl
 obtain rfl : j = 0 := by omega
 simpa using h0
theorem YM {cs : Array Value} {l : List Value} (h : (cs.toList.drop 0).take 6 = l) (i : Nat) (hi : i < 6) {v : Value} (hv : l[i]? = some v) : ∀ j, j < 1 → cs[i + j]? = some v := fun j hj => by
 obtain rfl : j = 0 := by omega
 rw [← h, List.getElem?_take_of_lt hi] at hv
 simpa using hv
theorem zl5 {cs : Array Value} {off : Nat} {g : Nat → Nat} (h : ∀ j, j < 1 → cs[off + j]? = some (.int .u64 (g j : Int))) : ∀ j, j < 1 → cs[off + j]? = some (u (g 0)) := fun j hj => by
 obtain rfl : j = 0 := by omega
 exact h 0 hj
end Go.Proofs.YtlidhfijmcelpaaGreatDoor
namespace Go.Proofs.YtlidhfijmcelpaaGreatDoor
open Go Go.ChangeShapes Go.WideShapes Go.ChangeAt Go.RowKit
section
variable {H : Type} {enc : TypeId × Value → H} {P : Program} {t e : TypeId}
theorem zd9 (d : DataW H) : 1 ≤ Rows.uptoBulk d := by
 cases d with
 | lit l => cases l <;> simp [Rows.uptoBulk]
 | _ => simp [Rows.uptoBulk]
theorem z03 : ∀ l : List (DataW H), l.length ≤ Rows.uptoBulkAll l
 | [] => by simp
 | d :: l => by
  have h1 := zd9 d
  have h2 := z03 l
  simp only [Rows.uptoBulkAll, List.length_cons]
  omega
theorem XS : ∀ {l : List (DataW H)} {j : Nat} {d : DataW H}, l[j]? = some d → Rows.uptoBulk d ≤ Rows.uptoBulkAll l
 | x :: l, 0, d, h => by
  have : x = d := by simpa using h
  subst this
  simp only [Rows.uptoBulkAll]; omega
 | x :: l, j + 1, d, h => by
  have := XS (l := l) (j := j) (d := d) (by simpa using h)
  simp only [Rows.uptoBulkAll]; omega
theorem z91 {ds : List (DataW H)} (h : Rows.uptoSmall H ds = true) {j : Nat} {d : DataW H} (hd : ds[j]? = some d) : Rows.uptoBulk d ≤ 1048576 := Nat.le_trans (XS hd) (of_decide_eq_true h)
theorem z9P {W : World} {base : Nat} {s : Nat → Bool} {held : Bool} {v : Value} {d : DataW H} {ps : List MemPlace} {B : Mem} {n : Nat} {xs : List Value} (ht : P.underlying t = some (.slice e)) (he : P.underlying e = some (.int .u8)) (hc : P.cellsOf e = 1)
  (hd : DataW.Trod enc P W base s held t v d ps) (hw : Rows.uptoBulk d ≤ 1048576) (hv : Shows B 1 v n xs) : n ≤ 1048576 := by
 have hcell : ∃ a len cap, v = .slice a len cap := by
  rcases hv with ⟨_, _, oa, c, h1, _⟩ | ⟨b, o, c, cs, t, h1, _⟩
  ·exact ⟨_, _, _, h1⟩
  ·exact ⟨_, _, _, h1⟩
 obtain ⟨a0, len0, cap0, rfl⟩ := hcell
 have hn := z1U hv
 subst hn
 obtain ⟨fuel, hf⟩ := hd
 rcases open_ints ht he hc hf with ⟨h1, _⟩ | ⟨a, len, cap, zs, h1, _, hlc, hcm, hzl, hx, hz, _⟩
 ·have h1 : [Value.slice a0 len0 cap0] = [.slice none 0 0] := h1
  injection h1 with h1 _
  injection h1 with _ h2
  omega
 ·have h1 : [Value.slice a0 len0 cap0] = [.slice (some a) len cap] := h1
  injection h1 with h1 _
  injection h1 with _ h2
  have hlz : len ≤ zs.length := by rw [hzl]; split <;> omega
  injection hx with hx _
  subst hx
  have h3 := z03 (lits (H := H) .u8 (zs.take len))
  have hl : (lits (H := H) .u8 (zs.take len)).length = len := by simp [lits]; omega
  simp only [Rows.uptoBulk] at hw
  omega
end
end Go.Proofs.YtlidhfijmcelpaaGreatDoor
namespace Go.Proofs.YtlidhfijmcelpaaGreatDoor
open Go Go.ChangeShapes Go.WideShapes Go.ChangeAt Go.RowKit
def vz (P : Program) (G : Mem) : Nat → TypeId → List Value → Prop
 | 0, _, _ => False
 | d + 1, t, cs => match P.underlying t with
  | some (.int k) => ∃ z, cs = [.int k z] ∧ (Lit.int k z).wf = true
  | some .bool => ∃ b, cs = [.bool b]
  | some .string => ∃ l : List Nat, cs = [sv l] ∧ (∀ b ∈ l, b < 256) ∧ l.length ≤ maxLen
  | some (.struct fs) => cs.length = P.cellsOf t ∧ ∀ (i : Nat) f, fs[i]? = some f → vz P G d f.type ((cs.drop f.offset).take (P.cellsOf f.type))
  | some (.array n e) => cs.length = P.cellsOf t ∧ ∀ i, i < n → vz P G d e ((cs.drop (i * P.cellsOf e)).take (P.cellsOf e))
  | some (.slice e) => ∃ v xs n, cs = [v] ∧ n ≤ 1048576 ∧ Shows G (P.cellsOf e) v n xs ∧ ∀ i, i < n → vz P G d e ((xs.drop (i * P.cellsOf e)).take (P.cellsOf e))
  | _ => False
abbrev v3 (P : Program) (G : Mem) (t : TypeId) (cs : List Value) (d : Dat) : Prop := vz P G d t cs
section
variable {P : Program} {G : Mem}
theorem vC {G' : Mem} (hs : ∀ x ∈ G, x ∈ G') : ∀ (d : Nat) {t : TypeId} {cs : List Value}, vz P G d t cs → vz P G' d t cs
 | 0, _, _, h => h
 | d + 1, t, cs, h => by
  unfold vz at h ⊢
  cases hu : P.underlying t with
  | none => rw [hu] at h; exact h
  | some td =>
   rw [hu] at h
   cases td with
   | struct fs => exact ⟨h.1, fun i f hf => vC hs d (h.2 i f hf)⟩
   | array n e => exact ⟨h.1, fun i hi => vC hs d (h.2 i hi)⟩
   | slice e =>
    obtain ⟨v, xs, n, h1, h2, h3, h4⟩ := h
    exact ⟨v, xs, n, h1, h2, h3.mono hs, fun i hi => vC hs d (h4 i hi)⟩
   | _ => exact h
theorem z1k {W : World} {n d : Nat} (T : Nat → TypeId) (C : Nat → List Value) (h : ∀ i, i < n → ∃ G, vz P G d (T i) (C i) ∧ MemR G W) : ∃ G : Mem, MemR G W ∧ ∀ i, i < n → vz P G d (T i) (C i) := by
 induction n with
 | zero => exact ⟨[], by simp [MemR], fun i hi => absurd hi (Nat.not_lt_zero i)⟩
 | succ n ih =>
  obtain ⟨G, h2, h3⟩ := ih fun i hi => h i (by omega)
  obtain ⟨G', h4, h5⟩ := h n (by omega)
  refine ⟨G ++ G', fun x hx => (List.mem_append.1 hx).elim (h2 x) (h5 x), fun i hi => ?_⟩
  by_cases hin : i < n
  ·exact vC (fun x hx => List.mem_append_left _ hx) d (h3 i hin)
  ·obtain rfl : i = n := by omega
   exact vC (fun x hx => List.mem_append_right _ hx) d h4
variable {H : Type} {enc : TypeId × Value → H}
variable {H : Type} {enc : TypeId × Value → H}
theorem zaX {W : World} {base : Nat} {s : Nat → Bool} {held : Bool} {L : List TypeId} (hL : z3K P L = true) : ∀ (fuel : Nat) (t : TypeId) (cs : List Value) (x : DataW H × List MemPlace), t ∈ L → DataW.trod enc P W base s held fuel t cs = some x → Rows.uptoBulk x.1 ≤ 1048576 → ∃ G, vz P G fuel t cs ∧ MemR G W := by
 intro fuel
 induction fuel with
 | zero => intro t cs x _ h _; simp [DataW.trod] at h
 | succ m ih =>
  intro t cs x ht h hb9
  have hc := zb6 hL ht
  cases hu : P.underlying t with
  | none => rw [hu] at hc; cases hc
  | some td =>
   rw [hu] at hc
   cases td with
   | int k =>
    obtain ⟨z, rfl, _, hw⟩ := DataW.trod_int hu h
    exact ⟨[], by unfold vz; rw [hu]; exact ⟨z, rfl, hw⟩, by simp [MemR]⟩
   | bool =>
    obtain ⟨b, rfl, _⟩ := DataW.trod_bool hu h
    exact ⟨[], by unfold vz; rw [hu]; exact ⟨b, rfl⟩, by simp [MemR]⟩
   | string =>
    obtain ⟨b, rfl, _, hm⟩ := DataW.trod_string hu h
    obtain ⟨l, hl, rfl⟩ := zcW b
    exact ⟨[], by unfold vz; rw [hu]; exact ⟨l, rfl, hl, by rw [← xI]; exact hm⟩, by simp [MemR]⟩
   | struct fs =>
    obtain ⟨xs, m', e1, hx9, hlen, hn, hel⟩ := DataW.trod_struct hu h
    have hb8 : Rows.uptoBulkAll (xs.map (·.1)) ≤ 1048576 := by rw [hx9] at hb9; simp only [Rows.uptoBulk] at hb9; omega
    have e1 : m = m' := by omega
    subst e1
    obtain ⟨G, h2, h3⟩ := z1k (P := P) (W := W) (n := fs.size) (d := m) (fun i => (fs[i]?.map (·.type)).getD 0) (fun i => match fs[i]? with
     | some f => (cs.drop f.offset).take (P.cellsOf f.type)
     | none => []) fun i hi => by
      have hf : fs[i]? = some fs[i] := Array.getElem?_eq_getElem hi
      have := hel i fs[i] hf
      rw [List.getElem?_eq_getElem (by omega)] at this
      have hmem : fs[i].type ∈ L := by
       have := (Array.all_eq_true.1 hc) i hi
       simpa using this
      simp only [hf, Option.map_some, Option.getD_some]
      exact ih _ _ _ hmem this (Nat.le_trans (XS (j := i) (by rw [List.getElem?_map, List.getElem?_eq_getElem (by omega)]; rfl)) hb8)
    refine ⟨G, ?_, h2⟩
    unfold vz
    rw [hu]
    refine ⟨hlen, fun i f hf => ?_⟩
    have := h3 i (Array.getElem?_eq_some_iff.1 hf).1
    simp only [hf, Option.map_some, Option.getD_some] at this
    exact this
   | array n e =>
    obtain ⟨xs, m', e1, hx9, hlen, hn, hel⟩ := DataW.trod_array hu h
    have hb8 : Rows.uptoBulkAll (xs.map (·.1)) ≤ 1048576 := by rw [hx9] at hb9; simp only [Rows.uptoBulk] at hb9; omega
    have e1 : m = m' := by omega
    subst e1
    have hmem : e ∈ L := by simpa using hc
    obtain ⟨G, h2, h3⟩ := z1k (P := P) (W := W) (n := n) (d := m) (fun _ => e) (fun i => (cs.drop (i * P.cellsOf e)).take (P.cellsOf e)) fun i hi => by
     have := hel i hi
     rw [List.getElem?_eq_getElem (by omega)] at this
     exact ih _ _ _ hmem this (Nat.le_trans (XS (j := i) (by rw [List.getElem?_map, List.getElem?_eq_getElem (by omega)]; rfl)) hb8)
    refine ⟨G, ?_, h2⟩
    unfold vz
    rw [hu]
    exact ⟨hlen, h3⟩
   | slice e =>
    have hc : (L.contains e && decide (0 < P.cellsOf e)) = true := hc
    rw [Bool.and_eq_true, decide_eq_true_eq] at hc
    have hmem : e ∈ L := by simpa using hc.1
    have hz := hc.2
    rcases DataW.trod_slice hu h with ⟨rfl, _⟩ | ⟨a, len, cap, elems, rest, m', e1, rfl, hx9, hb, hl, hm, hlen, hel, _, _⟩
    ·exact ⟨[], by unfold vz; rw [hu]; exact ⟨_, [], 0, rfl, Nat.zero_le _, .inl ⟨rfl, rfl, none, 0, rfl, fun _ => rfl⟩, fun i hi => absurd hi (Nat.not_lt_zero i)⟩, by simp [MemR]⟩
    have hb8 : Rows.uptoBulkAll (elems.map (·.1)) ≤ 1048576 := by rw [hx9] at hb9; simp only [Rows.uptoBulk] at hb9; omega
    have hl8 : len ≤ 1048576 := by have h9 := z03 (elems.map (·.1)); rw [List.length_map] at h9; omega
    have e1 : m = m' := by omega
    subst e1
    obtain ⟨z, hze⟩ : ∃ z, z = P.cellsOf e := ⟨_, rfl⟩
    rw [← hze] at hz hel
    have hE : ∀ i, i < len → ∃ ci y, W.cells? base (a.add (i * z)) z = some ci ∧ DataW.trod enc P W base s held m e ci = some y ∧ Rows.uptoBulk y.1 ≤ 1048576 := fun i hi => by
     have := hel i hi
     rw [List.getElem?_eq_getElem (by omega)] at this
     cases hcc : W.cells? base (a.add (i * z)) z with
     | none => rw [hcc] at this; cases this
     | some ci => rw [hcc] at this; exact ⟨ci, _, rfl, this, (Nat.le_trans (XS (j := i) (by rw [List.getElem?_map, List.getElem?_eq_getElem (by omega)]; rfl)) hb8)⟩
    by_cases h0 : len = 0
    ·subst h0
     exact ⟨[], by unfold vz; rw [hu]; exact ⟨_, [], 0, rfl, Nat.zero_le _, .inl ⟨rfl, rfl, some a, cap, rfl, fun h => by cases h⟩, fun i hi => absurd hi (Nat.not_lt_zero i)⟩, by simp [MemR]⟩
    obtain ⟨c0, y0, hc0, _⟩ := hE 0 (by omega)
    obtain ⟨b, off, spot⟩ := a
    have hg0 := (World.cells?_some hc0).2.2 0 hz
    have hl0 := (World.cells?_some hc0).2.1
    rw [List.getElem?_eq_getElem (by omega)] at hg0
    have hspot : spot = none := by simpa [Addr.add] using World.cell?_spot hg0
    subst hspot
    obtain ⟨cs0, et, fr, hbk⟩ := Vi (b := b) (o := off) (by simpa [Addr.add] using hg0)
    have hcl : ∀ o, W.cell? ⟨b, o, none⟩ = cs0[o]? := fun o => by simp [World.cell?, hbk]
    have hadd : ∀ i r, (Addr.add (Addr.add ⟨b, off, none⟩ (i * z)) r) = ⟨b, off + (i * z + r), none⟩ := fun i r => by
     rw [Go.WideShapes.add_plain, Go.WideShapes.add_plain, Nat.add_assoc]
    have hcell : ∀ i, i < len → ∀ ci, W.cells? base (Addr.add ⟨b, off, none⟩ (i * z)) z = some ci → ∀ r, r < z → cs0[off + (i * z + r)]? = ci[r]? := fun i _ ci hci r hr => by
     rw [← hcl, ← hadd i r]
     exact (World.cells?_some hci).2.2 r hr
    have hbound : off + len * z ≤ cs0.size := by
     obtain ⟨ci, y, hci, _⟩ := hE (len - 1) (by omega)
     have h1 := hcell (len - 1) (by omega) ci hci (z - 1) (by omega)
     rw [List.getElem?_eq_getElem (by have := (World.cells?_some hci).2.1; omega)] at h1
     have h2 := (Array.getElem?_eq_some_iff.1 h1).1
     have h3 : (len - 1) * z + z = len * z := by rw [← Nat.succ_mul]; congr 1; omega
     omega
    obtain ⟨xs, hxs⟩ : ∃ xs, xs = (cs0.toList.drop off).take (len * z) := ⟨_, rfl⟩
    have hxl : xs.length = len * z := by rw [hxs]; simp; omega
    have hxj : ∀ j, j < len * z → xs[j]? = cs0[off + j]? := fun j hj => by rw [hxs, List.getElem?_take_of_lt hj, List.getElem?_drop]; simp
    obtain ⟨G, h2, h3⟩ := z1k (P := P) (W := W) (n := len) (d := m) (fun _ => e) (fun i => (xs.drop (i * z)).take z) fun i hi => by
     obtain ⟨ci, y, hci, hy, hyb⟩ := hE i hi
     have hcl2 := (World.cells?_some hci).2.1
     have hle : i * z + z ≤ len * z := by rw [← Nat.succ_mul]; exact Nat.mul_le_mul_right _ hi
     have : (xs.drop (i * z)).take z = ci := by
      apply List.ext_getElem?
      intro r
      by_cases hr : r < z
      ·rw [List.getElem?_take_of_lt hr, List.getElem?_drop, hxj _ (by omega)]
       exact hcell i hi ci hci r hr
      ·rw [List.getElem?_eq_none (by rw [List.length_take]; omega), List.getElem?_eq_none (by omega)]
     rw [this]
     exact ih _ _ _ hmem hy hyb
    refine ⟨⟨b, cs0, et⟩ :: G, ?_, fun x hx => ?_⟩
    ·unfold vz
     rw [hu]
     refine ⟨_, xs, len, rfl, hl8, .inr ⟨b, off, cap, cs0, et, rfl, by omega, List.mem_cons_self, by rw [← hze]; exact hxl, by rw [← hze]; exact hbound, fun j u hj => ?_⟩, fun i hi => ?_⟩
     ·rw [← hxj j (by rw [← hxl]; exact (List.getElem?_eq_some_iff.1 hj).1)]; exact hj
     ·rw [← hze]
      exact vC (fun x hx => List.mem_cons_of_mem _ hx) m (h3 i hi)
    ·rcases List.mem_cons.1 hx with rfl | hx
     ·exact ⟨(Array.getElem?_eq_some_iff.1 hbk).1, fun o _ => hcl o⟩
     ·exact h2 x hx
   | _ => cases hc
theorem zbP {W : World} {base : Nat} {s : Nat → Bool} {held : Bool} {t : TypeId} {v : Value} {d : DataW H} {ps : List MemPlace} (L : List TypeId) (hL : z3K P L = true) (ht : t ∈ L) (hd : DataW.Trod enc P W base s held t v d ps) (hb9 : Rows.uptoBulk d ≤ 1048576) : ∃ x G, v3 P G t v.cells.toList x ∧ MemR G W := by
 obtain ⟨fuel, hf⟩ := hd
 exact ⟨fuel, zaX hL fuel t _ _ ht hf hb9⟩
end
section
variable {P : Program} {G : Mem}
theorem z4d {t : TypeId} {cs : List Value} {d : Dat} {k : IntKind} (hu : P.underlying t = some (.int k)) (h : v3 P G t cs d) : ∃ z, cs = [.int k z] ∧ (Lit.int k z).wf = true := by
 cases d with
 | zero => exact h.elim
 | succ d => unfold v3 vz at h; rw [hu] at h; exact h
theorem zbq {t : TypeId} {cs : List Value} {d : Dat} (hu : P.underlying t = some .bool) (h : v3 P G t cs d) : ∃ b, cs = [.bool b] := by
 cases d with
 | zero => exact h.elim
 | succ d => unfold v3 vz at h; rw [hu] at h; exact h
theorem zf1 {t : TypeId} {cs : List Value} {d : Dat} (hu : P.underlying t = some .string) (h : v3 P G t cs d) : ∃ l : List Nat, cs = [sv l] ∧ (∀ b ∈ l, b < 256) ∧ l.length ≤ maxLen := by
 cases d with
 | zero => exact h.elim
 | succ d => unfold v3 vz at h; rw [hu] at h; exact h
theorem Vc {t : TypeId} {cs : List Value} {d : Dat} {fs : Array Field} (hu : P.underlying t = some (.struct fs)) (h : v3 P G t cs d) : ∃ d', cs.length = P.cellsOf t ∧ ∀ (i : Nat) f, fs[i]? = some f → v3 P G f.type ((cs.drop f.offset).take (P.cellsOf f.type)) d' := by
 cases d with
 | zero => exact h.elim
 | succ d => unfold v3 vz at h; rw [hu] at h; exact ⟨d, h⟩
theorem Xb {t e : TypeId} {cs : List Value} {d : Dat} (hu : P.underlying t = some (.slice e)) (h : v3 P G t cs d) : ∃ d' v xs n, cs = [v] ∧ n ≤ 1048576 ∧ Shows G (P.cellsOf e) v n xs ∧ ∀ i, i < n → v3 P G e ((xs.drop (i * P.cellsOf e)).take (P.cellsOf e)) d' := by
 cases d with
 | zero => exact h.elim
 | succ d => unfold v3 vz at h; rw [hu] at h; exact ⟨d, h⟩
theorem Xe {α : Type} {e : TypeId} {z n : Nat} {d : Dat} (C : α → List Value) (Q : α → Prop) {xs : List Value} (hx : xs.length = n * z) (hE : ∀ cs d, v3 P G e cs d → ∃ x, cs = C x ∧ Q x)
  (he : ∀ i, i < n → v3 P G e ((xs.drop (i * z)).take z) d) : ∃ rs : List α, rs.length = n ∧ xs = rs.flatMap C ∧ ∀ r ∈ rs, Q r := by
 induction n generalizing xs with
 | zero => exact ⟨[], rfl, by simpa using hx, by simp⟩
 | succ m ih =>
  have h0 := he 0 (by omega)
  rw [Nat.zero_mul, List.drop_zero] at h0
  obtain ⟨r, hr, hq⟩ := hE _ _ h0
  obtain ⟨rs, h1, h2, h3⟩ := ih (xs := xs.drop z) (by rw [List.length_drop, hx, Nat.succ_mul]; omega) fun i hi => by
   have := he (i + 1) (by omega)
   rw [List.drop_drop, show z + i * z = (i + 1) * z by rw [Nat.succ_mul]; omega]
   exact this
  refine ⟨r :: rs, by simp [h1], ?_, fun x hx' => ?_⟩
  ·rw [List.flatMap_cons, ← h2, ← hr, List.take_append_drop]
  ·rcases List.mem_cons.1 hx' with rfl | hx'
   ·exact hq
   ·exact h3 x hx'
theorem z1a {t e : TypeId} {n : Nat} {cs : List Value} {d : Dat} (hu : P.underlying t = some (.array n e)) (h : v3 P G t cs d) : ∃ d', cs.length = P.cellsOf t ∧ ∀ i, i < n → v3 P G e ((cs.drop (i * P.cellsOf e)).take (P.cellsOf e)) d' := by
 cases d with
 | zero => exact h.elim
 | succ d => unfold v3 vz at h; rw [hu] at h; exact ⟨d, h⟩
theorem YV {t e : TypeId} {cs : List Value} {d : Dat} (hu : P.underlying t = some (.slice e)) (he : P.underlying e = some (.int .i64)) (hc : P.cellsOf e = 1) (h : v3 P G t cs d) : ∃ v, ∃ l : List Int, cs = [v] ∧ Shows G 1 v l.length (l.map iv) ∧ l.length ≤ 1048576 ∧ ∀ z ∈ l, (Lit.int .i64 z).wf = true := by
 obtain ⟨d', v, xs, n, rfl, hm, hv, hE⟩ := Xb hu h
 rw [hc] at hv hE
 obtain ⟨l, h1, rfl, h3⟩ := Xe (fun z => [iv z]) (fun z => (Lit.int .i64 z).wf = true) hv.len (fun cs d h => by
  obtain ⟨z, h1, h2⟩ := z4d he h
  exact ⟨z, h1, h2⟩) hE
 rw [← h1, z0W] at hv
 exact ⟨v, l, rfl, hv, by omega, h3⟩
theorem z6U {t s e : TypeId} {cs : List Value} {d : Dat} (hu : P.underlying t = some (.slice s)) (hs : P.underlying s = some (.slice e)) (he : P.underlying e = some (.int .i64)) (hcs : P.cellsOf s = 1) (hc : P.cellsOf e = 1) (h : v3 P G t cs d) : ∃ v vs ls, cs = [v] ∧ Shows G 1 v vs.length vs ∧ zm G vs ls ∧ vs.length ≤ 1048576 ∧ ∀ q ∈ ls, q.length ≤ 1048576 := by
 obtain ⟨d', v, xs, n, rfl, hm, hv, hE⟩ := Xb hu h
 rw [hcs] at hv hE
 obtain ⟨l, h1, rfl, h3⟩ := Xe (fun p : Value × List Int => [p.1]) (fun p => Shows G 1 p.1 p.2.length (p.2.map iv) ∧ p.2.length ≤ 1048576) hv.len (fun cs d h => by
  obtain ⟨w, q, h1, h2, h3, _⟩ := YV hs he hc h
  exact ⟨(w, q), h1, h2, h3⟩) hE
 rw [z0W (fun p : Value × List Int => p.1)] at hv
 refine ⟨v, l.map (·.1), l.map (·.2), rfl, by rw [List.length_map, h1]; exact hv, ⟨by simp, fun i hi => ?_⟩, by rw [List.length_map]; omega, fun q hq => by obtain ⟨x, hx, rfl⟩ := List.mem_map.1 hq; exact (h3 x hx).2⟩
 have hi' : i < l.length := by simpa using hi
 have := (h3 l[i] (List.getElem_mem hi')).1
 simpa [List.getD_eq_getElem?_getD, hi'] using this
theorem zcI {t ar sl ss e : TypeId} {cs : List Value} {d : Dat} {f0 f1 f2 f3 f4 : Field} (ht : P.underlying t = some (.struct #[f0, f1, f2, f3, f4])) (hc : P.cellsOf t = 6)
  (o0 : f0.offset = 0) (o1 : f1.offset = 1) (o2 : f2.offset = 2) (o3 : f3.offset = 3) (o4 : f4.offset = 5) (t2 : f2.type = sl) (t3 : f3.type = ar) (t4 : f4.type = ss) (u0 : P.underlying f0.type = some .string) (u1 : P.underlying f1.type = some .bool) (u2 : P.underlying sl = some (.slice e)) (u3 : P.underlying ar = some (.array 2 sl)) (u4 : P.underlying ss = some (.slice sl)) (u5 : P.underlying e = some (.int .i64))
  (c0 : P.cellsOf f0.type = 1) (c1 : P.cellsOf f1.type = 1) (c2 : P.cellsOf sl = 1) (c3 : P.cellsOf ar = 2) (c4 : P.cellsOf ss = 1) (c5 : P.cellsOf e = 1) (h : v3 P G t cs d) :
  ∃ (base : List Nat) (late : Bool) (vp v0 v1 vt : Value) (ps p0 p1 : List Int) (tvs : List Value) (ts : List (List Int)), cs = [sv base, .bool late, vp, v0, v1, vt] ∧ (∀ b ∈ base, b < 256) ∧ base.length ≤ maxLen ∧ (Shows G 1 vp ps.length (ps.map iv) ∧ ps.length ≤ 1048576) ∧ Shows G 1 vt tvs.length tvs ∧ (zm G (v0 :: v1 :: tvs) (p0 :: p1 :: ts) ∧ tvs.length ≤ 1048576 ∧ ∀ q ∈ p0 :: p1 :: ts, q.length ≤ 1048576) := by
 obtain ⟨d', hl, he⟩ := Vc ht h
 rw [hc] at hl
 match cs, hl with
 | [w0, w1, w2, w3, w4, w5], _ =>
  have e0 := he 0 f0 rfl
  have e1 := he 1 f1 rfl
  have e2 := he 2 f2 rfl
  have e3 := he 3 f3 rfl
  have e4 := he 4 f4 rfl
  rw [o0, c0] at e0
  rw [o1, c1] at e1
  rw [o2, t2, c2] at e2
  rw [o3, t3, c3] at e3
  rw [o4, t4, c4] at e4
  obtain ⟨base, h0, hb, hm⟩ := zf1 u0 e0
  obtain ⟨late, h1⟩ := zbq u1 e1
  obtain ⟨vp, ps, h2, hp, hpm, _⟩ := YV u2 u5 c5 e2
  obtain ⟨vt, tvs, ts, h4, hvt, hT, hTm, hTq⟩ := z6U u4 u2 u5 c2 c5 e4
  obtain ⟨d2, _, hee⟩ := z1a u3 e3
  rw [c2] at hee
  obtain ⟨v0, p0, h5, hv0, hm0, _⟩ := YV u2 u5 c5 (hee 0 (by decide))
  obtain ⟨v1, p1, h6, hv1, hm1, _⟩ := YV u2 u5 c5 (hee 1 (by decide))
  simp at h0 h1 h2 h4 h5 h6
  refine ⟨base, late, vp, v0, v1, vt, ps, p0, p1, tvs, ts, by rw [h0, h1, h2, h4, h5, h6], hb, hm, ⟨hp, hpm⟩, hvt, ⟨by simp [hT.1], fun i hi => ?_⟩, hTm, fun q hq => ?_⟩
  case refine_2 =>
   rcases List.mem_cons.1 hq with rfl | hq
   ·exact hm0
   rcases List.mem_cons.1 hq with rfl | hq
   ·exact hm1
   ·exact hTq q hq
  match i with
  | 0 => exact hv0
  | 1 => exact hv1
  | i + 2 => exact hT.2 i (by simpa using hi)
theorem zcL {t e : TypeId} {cs : List Value} {d : Dat} (ht : P.underlying t = some (.array 32 e)) (he : P.underlying e = some (.int .u8)) (hc : P.cellsOf e = 1) (hct : P.cellsOf t = 32) (h : v3 P G t cs d) : ∃ f, cs = z5c f ∧ B32 f := by
 obtain ⟨d', hl, hi⟩ := z1a ht h
 rw [hct] at hl
 rw [hc] at hi
 have key : ∀ i, i < 32 → ∃ c : Nat, cs[i]? = some (by8 c) ∧ c < 256 := fun i h32 => by
  obtain ⟨z, h1, h2⟩ := z4d he (hi i h32)
  obtain ⟨c, rfl, hc2⟩ := zgZ z h2
  rw [Nat.mul_one] at h1
  have h3 : ((cs.drop i).take 1)[0]? = some (by8 c) := by rw [h1]; rfl
  exact ⟨c, by simpa using h3, hc2⟩
 refine ⟨fun i => match cs[i]? with
  | some (.int _ z) => z.toNat
  | _ => 0, ?_, fun i h32 => ?_⟩
 ·apply List.ext_getElem?
  intro i
  by_cases h32 : i < 32
  ·obtain ⟨c, h1, _⟩ := key i h32
   rw [h1]
   simp [z5c, ky, List.getElem?_range h32, h1]
  ·rw [List.getElem?_eq_none (by omega), List.getElem?_eq_none (by simp; omega)]
 ·obtain ⟨c, h1, h2⟩ := key i h32
  simp only [h1]
  simpa using h2
theorem zb4 {t k e : TypeId} {cs : List Value} {d : Dat} (hu : P.underlying t = some (.slice k)) (ht : P.underlying k = some (.array 32 e)) (he : P.underlying e = some (.int .u8)) (hc : P.cellsOf e = 1) (hct : P.cellsOf k = 32) (h : v3 P G t cs d) :
  ∃ v, ∃ ps : List (Nat → Nat), cs = [v] ∧ Shows G 32 v ps.length (psC ps) ∧ (∀ p ∈ ps, B32 p) ∧ ps.length ≤ 1048576 := by
 obtain ⟨d', v, xs, n, rfl, hm, hv, hE⟩ := Xb hu h
 rw [hct] at hv hE
 obtain ⟨l, h1, rfl, h3⟩ := Xe z5c B32 hv.len (fun cs d h => zcL ht he hc hct h) hE
 exact ⟨v, l, rfl, by rw [h1]; exact hv, h3, by omega⟩
end
end Go.Proofs.YtlidhfijmcelpaaGreatDoor
namespace Go.Proofs.YtlidhfijmcelpaaGreatDoor
open Go.ChangeShapes Go.WideShapes Go.ChangeAt Go.RowKit
section
variable {P : Program} {W : World}
def RdT (P : Program) (W : World) (t : TypeId) (cs : List Value) (d : DataW Unit) : Prop := ∃ fuel p, DataW.trod (fun _ => ()) P W 0 (fun _ => true) false fuel t cs = some (d, p)
def z9S (P : Program) (W : World) (n : String) (d : DataW Unit) : Prop := ∃ g t cs, P.globalNamed n = some g ∧ (P.globals[g]?).map (·.type) = some t ∧ W.var? P n = some cs ∧ RdT P W t cs.toList d
theorem z2j : ∀ {l : List (String × DataW Unit)} {ps : List MemPlace}, DataW.LaidVars P W l ps → ∀ x ∈ l, z9S P W x.1 x.2
 | [], _, _, x, hx => absurd hx List.not_mem_nil
 | (n, d) :: r, ps, h, x, hx => by
  obtain ⟨g, t, cs, fuel, p, q, h1, h2, h3, h4, h5, _⟩ := h
  rcases List.mem_cons.1 hx with rfl | hx
  ·exact ⟨g, t, cs, h1, h2, h3, fuel, p, h4⟩
  ·exact z2j h5 x hx
theorem z9Q {l : List (String × DataW Unit)} (hp : (l.all fun x => x.2.handleName?.isNone) = true) (h : laidMetH P l W) : ∀ x ∈ l, z9S P W x.1 x.2 := by
 rw [MakeChecks.laidMetH_plain _ _ _ hp] at h
 obtain ⟨ps, h1, _⟩ := h
 exact z2j h1
theorem zhN {cs : List Value} {r : Nat} {v : Value} (h : (cs.drop r).take 1 = [v]) : cs[r]? = some v := by
 have h0 : ((cs.drop r).take 1)[0]? = some v := by rw [h]; rfl
 simpa using h0
theorem z3P {k : IntKind} {N : Nat} {e T : TypeId} {zs : List Int} {cs : List Value} (hT : P.underlying T = some (.array N e)) (he : P.underlying e = some (.int k)) (hc : P.cellsOf e = 1) (h : RdT P W T cs (.agg (zs.map fun n => .lit (.int k n)))) : ∀ r, r < N → cs[r]? = some (.int k (zs.getD r 0)) := by
 obtain ⟨fuel, p, hd⟩ := h
 obtain ⟨xs, m, _, ex, _, hl, hel⟩ := DataW.trod_array hT hd
 have e3 : (xs.map (·.1)) = zs.map fun n => .lit (.int k n) := (DataW.agg.inj (Prod.mk.inj ex).1).symm
 have hlen : zs.length = N := by
  have := congrArg List.length e3
  simpa [hl] using this.symm
 intro r hr
 have hE := hel r hr
 rw [hc, Nat.mul_one, List.getElem?_eq_getElem (by omega)] at hE
 obtain ⟨z, e1, e2, _⟩ := DataW.trod_int he hE
 have e4 : (xs.map (·.1))[r]? = (zs.map fun n => (DataW.lit (.int k n) : DataW Unit))[r]? := by rw [e3]
 rw [List.getElem?_map, List.getElem?_map, List.getElem?_eq_getElem (by omega : r < xs.length), List.getElem?_eq_getElem (by omega : r < zs.length), e2] at e4
 have hz : z = zs.getD r 0 := by
  simp only [Option.map_some, Option.some.injEq, DataW.lit.injEq, Lit.int.injEq, true_and] at e4
  rw [e4, List.getD, List.getElem?_eq_getElem (by omega : r < zs.length)]; rfl
 rw [← hz]
 exact zhN e1
theorem zgY {k : IntKind} {M N : Nat} {e E T : TypeId} {rs : List (List Int)} {cs : List Value} (hT : P.underlying T = some (.array M E)) (hE : P.underlying E = some (.array N e)) (he : P.underlying e = some (.int k)) (hc : P.cellsOf e = 1) (hcE : P.cellsOf E = N)
  (h : RdT P W T cs (.agg (rs.map fun row => .agg (row.map fun n => .lit (.int k n))))) : ∀ r, r < M * N → cs[r]? = some (.int k ((rs.getD (r / N) []).getD (r % N) 0)) := by
 obtain ⟨fuel, p, hd⟩ := h
 obtain ⟨xs, m, _, ex, _, hl, hel⟩ := DataW.trod_array hT hd
 have e3 : (xs.map (·.1)) = rs.map fun row => .agg (row.map fun n => .lit (.int k n)) := (DataW.agg.inj (Prod.mk.inj ex).1).symm
 have hlen : rs.length = M := by
  have := congrArg List.length e3
  simpa [hl] using this.symm
 intro r hr
 have hN : 0 < N := Nat.pos_of_ne_zero fun h0 => by subst h0; simp at hr
 have hi : r / N < M := Nat.div_lt_of_lt_mul (by rw [Nat.mul_comm]; exact hr)
 have hj : r % N < N := Nat.mod_lt _ hN
 have hR := hel (r / N) hi
 rw [hcE, List.getElem?_eq_getElem (by omega)] at hR
 have e4 : (xs.map (·.1))[r / N]? = (rs.map fun row => (DataW.agg (row.map fun n => .lit (.int k n)) : DataW Unit))[r / N]? := by rw [e3]
 rw [List.getElem?_map, List.getElem?_map, List.getElem?_eq_getElem (by omega : r / N < xs.length), List.getElem?_eq_getElem (by omega : r / N < rs.length)] at e4
 simp only [Option.map_some, Option.some.injEq] at e4
 have hg : rs.getD (r / N) [] = rs[r / N] := by rw [List.getD, List.getElem?_eq_getElem (by omega : r / N < rs.length)]; rfl
 rw [hg]
 have hrow := z3P (P := P) (W := W) (zs := rs[r / N]) hE he hc ⟨m, (xs[r / N]).2, by rw [hR, ← e4]⟩ (r % N) hj
 rw [← hrow, List.getElem?_take_of_lt hj, List.getElem?_drop]
 congr 1
 have := Nat.div_add_mod r N
 rw [Nat.mul_comm]; omega
theorem z3V {n : String} {g N : Nat} {T : TypeId} {k : IntKind} {f : Nat → Nat} {d : DataW Unit} (hg : P.globalNamed n = some g) (ht : (P.globals[g]?).map (·.type) = some T) (hN : 0 < N) (h : z9S P W n d) (hr : ∀ cs, RdT P W T cs d → ∀ r, r < N → cs[r]? = some (.int k (f r : Int))) : RIn W ⟨g, arr k N f, T⟩ := by
 obtain ⟨g', t, cs, h1, h2, h3, h4⟩ := h
 obtain rfl := Option.some.inj (hg.symm.trans h1)
 obtain rfl := Option.some.inj (ht.symm.trans h2)
 have key : ∀ r, r < N → W.cell? ⟨g, r, none⟩ = some (.int k (f r : Int)) := fun r hrr => by
  rw [World.var?_cell hg h3 r]
  have := hr cs.toList h4 r hrr
  simpa using this
 refine ⟨?_, fun o ho => ?_⟩
 ·have h0 := key 0 hN
  unfold World.cell? at h0
  cases hh : W.heap[g]? with
  | none => rw [hh] at h0; cases h0
  | some b => exact (Array.getElem?_eq_some_iff.1 hh).1
 ·have ho : o < N := by simpa [zd] using ho
  show W.cell? ⟨g, o, none⟩ = (arr k N f)[o]?
  rw [zP ho]; exact key o ho
theorem zdz : MemR [] W := fun _ h => absurd h List.not_mem_nil
theorem WZ {x : Blk} {m : Mem} (h : RIn W x) (hm : MemR m W) : MemR (x :: m) W := fun y hy => by
 rcases List.mem_cons.1 hy with rfl | hy
 ·exact h
 ·exact hm y hy
theorem z5n {m m' : Mem} (h : MemR m W) (hm : MemR m' W) : MemR (m ++ m') W := fun y hy => by
 rcases List.mem_append.1 hy with hy | hy
 ·exact h y hy
 ·exact hm y hy
end
end Go.Proofs.YtlidhfijmcelpaaGreatDoor
/-
 Facts on this program's types, in tables.
-/
namespace Go.Proofs.YtlidhfijmcelpaaGreatDoor
open Go Go.RowKit
def lkT {α : Type} : List (Nat × α) → Nat → Option α
 | [], _ => none
 | (k, a) :: l, t => bif Nat.beq k t then some a else lkT l t
theorem XY {α : Type} {f : Nat → Option α} : ∀ {L : List (Nat × α)} {t : Nat} {d : α}, L.map (fun p => f p.1) = L.map (fun p => some p.2) → lkT L t = some d → f t = some d
 | [], _, _, _, h => by cases h
 | (k, a) :: L, t, d, h, hk => by
  rw [List.map_cons, List.map_cons, List.cons.injEq] at h
  unfold lkT at hk
  cases hb : Nat.beq k t with
  | true => rw [hb] at hk; rw [← Nat.eq_of_beq_eq_true hb, h.1]; exact hk
  | false => rw [hb] at hk; exact XY h.2 hk
theorem ziv : Tryz.prog.follows .mixedOrders = true := by kernel_rfl
def tbu : List (Nat × TypeDesc) := [(3, (.int .i64)), (4, (.bool)), (5, (.int .u8)), (9, (.string)), (22, (.slice 5)), (23, (.array 32 5)), (24, (.slice 30)), (25, (.slice 3)), (26, (.array 2 25)), (27, (.slice 25)), (29, (.struct #[.mk "Base" 9 0 false "" "" 0, .mk "Late" 4 1 false "" "" 16, .mk "Psks" 25 2 false "" "" 24, .mk "Pre" 26 3 false "" "" 48, .mk "Turns" 27 5 false "" "" 96])), (30, (.array 32 5)), (31, (.int .u64)), (33, (.struct #[.mk "Has" 4 0 false "" "" 0, .mk "Key" 30 1 false "" "" 1, .mk "N" 31 33 false "" "" 40])), (35, (.struct #[.mk "Cipher" 33 0 false "" "" 0, .mk "Chain" 30 34 false "" "" 48, .mk "Hash" 30 66 false "" "" 80])), (37, (.struct #[.mk "Pattern" 29 0 false "" "" 0, .mk "First" 4 6 false "" "" 120, .mk "Turn" 3 7 false "" "" 128, .mk "Dead" 4 8 false "" "" 136, .mk "Sym" 35 9 false "" "" 144, .mk "Own" 30 107 false "" "" 256, .mk "Fresh" 30 139 false "" "" 288, .mk "Has" 4 171 false "" "" 320, .mk "Their" 30 172 false "" "" 321, .mk "Knows" 4 204 false "" "" 353, .mk "Newest" 30 205 false "" "" 354, .mk "Saw" 4 237 false "" "" 386, .mk "Psks" 24 238 false "" "" 392, .mk "Used" 3 239 false "" "" 416])), (79, (.array 3 30)), (105, (.slice 9)), (109, (.int .u32)), (110, (.array 8 109)), (111, (.array 64 5)), (113, (.struct #[.mk "H" 110 0 false "" "" 0, .mk "Held" 111 8 false "" "" 32, .mk "N" 3 72 false "" "" 96, .mk "Len" 3 73 false "" "" 104])), (120, (.array 16 31)), (122, (.struct #[.mk "x" 120 0 false "" "signet/signetref" 0, .mk "z" 120 16 false "" "signet/signetref" 128])), (127, (.array 4 31)), (138, (.slice 141)), (141, (.struct #[.mk "who" 3 0 false "" "signet/signetref" 0, .mk "token" 3 1 false "" "signet/signetref" 8])), (146, (.array 12 5)), (154, (.slice 22)), (158, (.int .u64)), (168, (.array 32 31)), (170, (.array 3 4)), (171, (.array 2 170)), (172, (.array 8 4)), (174, (.struct #[.mk "keys" 171 0 false "" "signet/pattern" 0, .mk "been" 172 6 false "" "signet/pattern" 6])), (186, (.array 2 127)), (188, (.array 2 186)), (195, (.array 256 5)), (198, (.array 4 109)), (199, (.array 4 198)), (213, (.array 16 5)), (216, (.array 16 109)), (227, (.array 2 30)), (244, (.array 2 31)), (245, (.array 3 31)), (247, (.struct #[.mk "R" 244 0 false "" "" 0, .mk "Pad" 244 2 false "" "" 16, .mk "Acc" 245 4 false "" "" 32, .mk "Held" 213 7 false "" "" 56, .mk "N" 3 23 false "" "" 72])), (255, (.array 16 3)), (256, (.array 10 255)), (272, (.array 2 3)), (286, (.array 64 5)), (290, (.array 16 109)), (294, (.array 5 31)), (295, (.array 5 31)), (300, (.array 8 31)), (310, (.array 3 31))]
theorem zjH : tbu.map (fun p => (fun t => Tryz.prog.underlying t) p.1) = tbu.map (fun p => some p.2) := by kernel_rfl
set_option maxRecDepth 100000 in
theorem Tu {T : TypeId} {d : TypeDesc} (h : lkT tbu T = some d) : Tryz.prog.underlying T = some d := XY (L := tbu) (f := fun t => Tryz.prog.underlying t) zjH h
theorem Uu (T : TypeId) {d : TypeDesc} (h : lkT tbu T = some d := by rfl) : Tryz.prog.underlying T = some d := Tu h
def tbz : List (Nat × Nat) := [(3, 1), (4, 1), (5, 1), (9, 1), (22, 1), (23, 32), (24, 1), (25, 1), (26, 2), (27, 1), (29, 6), (30, 32), (31, 1), (33, 34), (35, 98), (37, 240), (79, 96), (109, 1), (110, 8), (111, 64), (113, 74), (120, 16), (122, 32), (127, 4), (141, 2), (146, 12), (170, 3), (171, 6), (172, 8), (186, 8), (188, 16), (198, 4), (199, 16), (213, 16), (216, 16), (227, 64), (244, 2), (245, 3), (247, 24), (255, 16), (272, 2), (286, 64), (290, 16), (294, 5), (295, 5), (300, 8), (310, 3)]
theorem zjz : tbz.map (fun p => (fun t => (Tryz.prog.info? t).map (·.size)) p.1) = tbz.map (fun p => some p.2) := by kernel_rfl
set_option maxRecDepth 100000 in
theorem Tz {T : TypeId} {d : Nat} (h : lkT tbz T = some d) : (Tryz.prog.info? T).map (·.size) = some d := XY (L := tbz) (f := fun t => (Tryz.prog.info? t).map (·.size)) zjz h
theorem Uz (T : TypeId) {d : Nat} (h : lkT tbz T = some d := by rfl) : (Tryz.prog.info? T).map (·.size) = some d := Tz h
def tby : List (Nat × Nat) := [(3, 8), (5, 1), (9, 16), (25, 24), (30, 32), (141, 16)]
theorem zjY : tby.map (fun p => (fun t => (Tryz.prog.info? t).map (·.bytes)) p.1) = tby.map (fun p => some p.2) := by kernel_rfl
set_option maxRecDepth 100000 in
theorem Ty {T : TypeId} {d : Nat} (h : lkT tby T = some d) : (Tryz.prog.info? T).map (·.bytes) = some d := XY (L := tby) (f := fun t => (Tryz.prog.info? t).map (·.bytes)) zjY h
theorem Uy (T : TypeId) {d : Nat} (h : lkT tby T = some d := by rfl) : (Tryz.prog.info? T).map (·.bytes) = some d := Ty h
def tbb : List (Nat × Value) := [(3, (.int .i64 0)), (5, (.int .u8 0)), (9, (.string ByteArray.empty)), (22, (.slice none 0 0)), (23, (.agg (arr .u8 32 fun _ => 0))), (25, (.slice none 0 0)), (26, (.agg #[.slice none 0 0, .slice none 0 0])), (29, (.agg (cells 6 [pV (.string ByteArray.empty), pV (.bool false), pV (.slice none 0 0), pV (.slice none 0 0), pV (.slice none 0 0), pV (.slice none 0 0)]))), (30, (.agg (arr .u8 32 fun _ => 0))), (33, (.agg (cells 34 [pV (.bool false), pI .u8 32 fun _ => 0, pV (.int .u64 0)]))), (35, (.agg (cells 98 [pV (.bool false), pI .u8 32 fun _ => 0, pV (.int .u64 0), pI .u8 32 fun _ => 0, pI .u8 32 fun _ => 0]))), (37, (.agg (cells 240 [pV (.string ByteArray.empty), pV (.bool false), pV (.slice none 0 0), pV (.slice none 0 0), pV (.slice none 0 0), pV (.slice none 0 0), pV (.bool false), pV (.int .i64 0), pV (.bool false), pV (.bool false), pI .u8 32 fun _ => 0, pV (.int .u64 0), pI .u8 32 fun _ => 0, pI .u8 32 fun _ => 0, pI .u8 32 fun _ => 0, pI .u8 32 fun _ => 0, pV (.bool false), pI .u8 32 fun _ => 0, pV (.bool false), pI .u8 32 fun _ => 0, pV (.bool false), pV (.slice none 0 0), pV (.int .i64 0)]))), (79, (.agg (arr .u8 96 fun _ => 0))), (110, (.agg (arr .u32 8 fun _ => 0))), (111, (.agg (arr .u8 64 fun _ => 0))), (113, (.agg (cells 74 [pI .u32 8 fun _ => 0, pI .u8 64 fun _ => 0, pV (.int .i64 0), pV (.int .i64 0)]))), (120, (.agg (arr .u64 16 fun _ => 0))), (122, (.agg (arr .u64 32 fun _ => 0))), (127, (.agg (arr .u64 4 fun _ => 0))), (141, (.agg (arr .i64 2 fun _ => 0))), (146, (.agg (arr .u8 12 fun _ => 0))), (168, (.agg (arr .u64 32 fun _ => 0))), (174, (.agg (zM 14 fun _ => .bool false))), (186, (.agg (arr .u64 8 fun _ => 0))), (188, (.agg (arr .u64 16 fun _ => 0))), (199, (.agg (arr .u32 16 fun _ => 0))), (213, (.agg (arr .u8 16 fun _ => 0))), (216, (.agg (arr .u32 16 fun _ => 0))), (227, (.agg (arr .u8 64 fun _ => 0))), (244, (.agg (arr .u64 2 fun _ => 0))), (245, (.agg (arr .u64 3 fun _ => 0))), (247, (.agg (cells 24 [pI .u64 2 fun _ => 0, pI .u64 2 fun _ => 0, pI .u64 3 fun _ => 0, pI .u8 16 fun _ => 0, pV (.int .i64 0)]))), (272, (.agg (arr .i64 2 fun _ => 0))), (286, (.agg (arr .u8 64 fun _ => 0))), (290, (.agg (arr .u32 16 fun _ => 0))), (294, (.agg (arr .u64 5 fun _ => 0))), (295, (.agg (arr .u64 5 fun _ => 0))), (300, (.agg (arr .u64 8 fun _ => 0))), (310, (.agg (arr .u64 3 fun _ => 0)))]
theorem zkb : tbb.map (fun p => (fun t => (Tryz.prog.info? t).bind (·.zero)) p.1) = tbb.map (fun p => some p.2) := by kernel_rfl
set_option maxRecDepth 100000 in
theorem Tb {T : TypeId} {d : Value} (h : lkT tbb T = some d) : (Tryz.prog.info? T).bind (·.zero) = some d := XY (L := tbb) (f := fun t => (Tryz.prog.info? t).bind (·.zero)) zkb h
theorem Ub (T : TypeId) {d : Value} (h : lkT tbb T = some d := by rfl) : (Tryz.prog.info? T).bind (·.zero) = some d := Tb h
def tbn : List Nat := [8, 9, 10, 11, 12, 13, 14, 15, 16, 17, 18, 20, 22, 23, 24, 25, 26, 27, 28, 29, 30, 31, 32, 33, 34, 35, 36, 37, 38, 39, 40, 41, 42, 43, 44, 45, 46, 47, 48, 49, 50, 51, 52, 53, 54, 55, 56, 57, 58, 59, 60, 61, 62, 63, 64, 65, 66, 67, 68, 69, 70, 71, 72, 73, 74, 75, 76, 77, 78, 79, 80, 81, 82, 83, 84, 85, 86, 87, 88, 89, 90, 91, 92, 93, 94, 95, 96, 97, 98, 99, 100, 101, 102, 103, 104, 105, 106, 107, 108, 109, 110, 111, 112, 114, 115, 116, 117, 118, 119, 120, 121, 122, 123, 124, 125, 126, 127, 128, 129, 130, 131, 132, 133, 134, 135, 136, 137, 138, 139, 140, 141, 142, 143, 144, 145, 146, 147, 148, 150, 152, 155, 156, 157, 158, 159, 160, 161, 162, 163, 164, 165, 166, 167, 168, 169, 170, 171, 172, 173, 174, 175, 176, 177, 178, 179, 180, 181, 182, 183, 184, 185, 186, 187, 188, 193, 194, 195, 196, 197, 198, 199, 200, 201, 202, 203, 204, 205, 206, 207, 208, 209, 210, 211, 212, 213, 214, 215, 216, 220, 221, 222, 223, 224, 225, 226, 227, 228, 231, 232, 233, 234, 235, 236, 237, 238, 239, 240, 241, 242, 243, 244, 245, 246, 247, 248, 249, 250, 251, 252, 253, 254, 255, 256, 257, 258, 259, 260, 261, 262, 263, 264]
theorem zjR : tbn.all (fun f => xF Tryz.prog f) = true := by kernel_rfl
theorem Un (f : FuncId) (h : tbn.contains f = true := by rfl) : xF Tryz.prog f = true := List.all_eq_true.1 zjR f (List.contains_iff_mem.1 h)
end Go.Proofs.YtlidhfijmcelpaaGreatDoor
