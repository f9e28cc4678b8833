import Derived.Test.YtlidhfijmcelpaaGreatDoorKY4
set_option maxRecDepth 30000
namespace Go.Proofs.YtlidhfijmcelpaaGreatDoor
open Go Go.ChangeShapes Go.WideShapes Go.ChangeAt Go.RowKit
structure TT where
 kind : Int
 id : Int
 other : Int
 args : List TT
theorem TT.ind {p : TT → Prop} (h : ∀ t : TT, (∀ a ∈ t.args, p a) → p t) (t : TT) : p t :=
 TT.rec (motive_1 := p) (motive_2 := fun l => ∀ a ∈ l, p a) (fun k i o l hl => h ⟨k, i, o, l⟩ hl) (by simp) (fun a l h1 h2 b hb => by rcases List.mem_cons.1 hb with rfl | hb; exact h1; exact h2 b hb) t
def TV (G : Mem) : TT → Value → Prop
 | ⟨k, i, o, l⟩, v => ∃ c xs, v = .agg #[iv k, iv i, iv o, c] ∧ l.length ≤ maxLen ∧ Shows G 4 c l.length xs ∧ ∀ a, a ∈ l → ∀ j, l[j]? = some a → TV G a (.agg ((xs.drop (j * 4)).take 4).toArray)
def TL (G : Mem) (l : List TT) (c : Value) (xs : List Value) : Prop := l.length ≤ maxLen ∧ Shows G 4 c l.length xs ∧ ∀ j (h : j < l.length), TV G l[j] (.agg ((xs.drop (j * 4)).take 4).toArray)
theorem z3s {G : Mem} {t : TT} {v : Value} : TV G t v ↔ ∃ c xs, v = .agg #[iv t.kind, iv t.id, iv t.other, c] ∧ TL G t.args c xs := by
 cases t
 rw [TV]
 constructor
 ·rintro ⟨c, xs, e, h1, h2, h3⟩
  exact ⟨c, xs, e, h1, h2, fun j hj => h3 _ (List.getElem_mem hj) j (List.getElem?_eq_getElem hj)⟩
 ·rintro ⟨c, xs, e, h1, h2, h3⟩
  refine ⟨c, xs, e, h1, h2, fun a _ j hj => ?_⟩
  obtain ⟨hj', rfl⟩ := List.getElem?_eq_some_iff.1 hj
  exact h3 j hj'
theorem TV.mono {G G' : Mem} (hs : ∀ x ∈ G, x ∈ G') {t : TT} : ∀ {v : Value}, TV G t v → TV G' t v := by
 refine TT.ind (p := fun t => ∀ {v : Value}, TV G t v → TV G' t v) (fun t ih v h => ?_) t
 obtain ⟨c, xs, e, h1, h2, h3⟩ := z3s.1 h
 exact z3s.2 ⟨c, xs, e, h1, h2.mono hs, fun j hj => ih _ (List.getElem_mem hj) (h3 j hj)⟩
theorem TL.mono {G G' : Mem} (hs : ∀ x ∈ G, x ∈ G') {l : List TT} {c : Value} {xs : List Value} (h : TL G l c xs) : TL G' l c xs :=
 ⟨h.1, h.2.1.mono hs, fun j hj => (h.2.2 j hj).mono hs⟩
theorem TL.at {G : Mem} {l : List TT} {c : Value} {xs : List Value} (h : TL G l c xs) {j : Nat} (hj : j < l.length) : ∃ c' ys, (xs.drop (j * 4)).take 4 = [iv l[j].kind, iv l[j].id, iv l[j].other, c'] ∧ TL G l[j].args c' ys := by
 obtain ⟨c', ys, e, hl⟩ := z3s.1 (h.2.2 j hj)
 refine ⟨c', ys, ?_, hl⟩
 have := congrArg (fun v => match v with | .agg a => a.toList | _ => []) e
 simpa using this
def wdt (k : Int) : Nat := if k = 5 then 1 else if k = 4 ∨ k = 6 then 2 else if k = 7 then 3 else 0
def zlo (k i o : Int) : Bool := if k = 3 then decide (0 ≤ i) && decide (i ≤ o) else if k = 1 ∨ k = 2 ∨ k = 6 then decide (0 ≤ i) && decide (o = 0) else decide (i = 0) && decide (o = 0)
def zlh : List Nat → Nat
 | [] => 0
 | x :: l => if x = 0 then zlh l else x
def TT.form : TT → Nat
 | ⟨k, i, o, l⟩ => if k < 1 ∨ 7 < k then 2 else if l.length ≠ wdt k ∨ zlo k i o = false then 3 else zlh (l.map TT.form)
section
variable {P : Program} {H : Type} {enc : TypeId × Value → H}
end
end Go.Proofs.YtlidhfijmcelpaaGreatDoor
namespace Go.Proofs.YtlidhfijmcelpaaGreatDoor
open Go Go.RowKit
section
variable {P : Program} {G : Mem} {R : Reg} {ops : Array Oper} {K : Act → Mem → Prop} {rest : List Oper} {a : Act} {m : Mem} {d : Option Tmp} {ty : TypeId} {pos : String} {aft : Array Edge}
variable {T T' : TypeId} {x y : Operand}
end
section
variable {P : Program} {G : Mem} {R : Reg} {ops : Array Oper} {n : Nat} {K : Env → Mm → Prop} {rest : List Oper} {E : Env} {M : Mm} {d : Nat} {ty : TypeId} {pos : String} {aft : Array Edge}
variable {T T' : TypeId} {x y : Operand}
end
def TO (G : Mem) (L : List TT) (xs : List Value) : Prop := xs.length = L.length * 4 ∧ ∀ j (h : j < L.length), TV G L[j] (.agg ((xs.drop (j * 4)).take 4).toArray)
theorem TO.nil {G : Mem} : TO G [] [] := ⟨rfl, fun j h => absurd h (Nat.not_lt_zero j)⟩
theorem TO.mono {G G' : Mem} (hs : ∀ x ∈ G, x ∈ G') {L : List TT} {xs : List Value} (h : TO G L xs) : TO G' L xs := ⟨h.1, fun j hj => (h.2 j hj).mono hs⟩
theorem TO.ones {G : Mem} {L : List TT} {xs : List Value} (h : TO G L xs) : ∀ u ∈ xs, u.oneCell' = true := fun u hu => by
 obtain ⟨p, hp, rfl⟩ := List.mem_iff_getElem.1 hu
 have hj : p / 4 < L.length := by rw [h.1] at hp; omega
 obtain ⟨c', ys, e, hl⟩ := z3s.1 (h.2 (p / 4) hj)
 have e2 : (xs.drop (p / 4 * 4)).take 4 = [iv L[p / 4].kind, iv L[p / 4].id, iv L[p / 4].other, c'] := by
  have := congrArg (fun v => match v with | .agg a => a.toList | _ => []) e
  simpa using this
 have hg : ((xs.drop (p / 4 * 4)).take 4)[p % 4]? = some xs[p] := by
  rw [List.getElem?_take_of_lt (by omega), List.getElem?_drop, show p / 4 * 4 + p % 4 = p by omega, List.getElem?_eq_getElem hp]
 rw [e2] at hg
 have hm : xs[p] ∈ [iv L[p / 4].kind, iv L[p / 4].id, iv L[p / 4].other, c'] := List.mem_of_getElem? hg
 simp only [List.mem_cons, List.not_mem_nil, or_false] at hm
 rcases hm with h1 | h1 | h1 | h1
 ·rw [h1]; rfl
 ·rw [h1]; rfl
 ·rw [h1]; rfl
 ·rw [h1]; exact zD hl.2.1
end Go.Proofs.YtlidhfijmcelpaaGreatDoor
namespace Go.Proofs.YtlidhfijmcelpaaGreatDoor
open Go Go.RowKit
section
variable {P : Program} {G : Mem} {R : Reg} {ops : Array Oper} {n : Nat} {K : Env → Mm → Prop} {Q : Exit → Env → Mm → Prop} {rest : List Oper} {E : Env} {M : Mm} {d : Nat} {ty : TypeId} {pos : String} {aft : Array Edge}
end
end Go.Proofs.YtlidhfijmcelpaaGreatDoor
namespace Go.Proofs.YtlidhfijmcelpaaGreatDoor
def d26 (x j : Nat) : Nat := x / 2 ^ (26 * j) % 67108864
abbrev p5 (x : Nat) : Value := .agg (arr .u64 5 (d26 x))
theorem yU (x j : Nat) : d26 x j < 67108864 := Nat.mod_lt _ (by decide)
def v26 (f : Nat → Nat) : Nat → Nat
 | 0 => 0
 | k + 1 => v26 f k + f k * 2 ^ (26 * k)
theorem z5y (f : Nat → Nat) (k : Nat) : v26 f (k + 1) = v26 f k + f k * 2 ^ (26 * k) := rfl
theorem z2t (k : Nat) : 0 < 2 ^ (26 * k) := Nat.pow_pos (by decide)
theorem Xj (k : Nat) : 2 ^ (26 * (k + 1)) = 2 ^ (26 * k) * 67108864 := by rw [show 26 * (k + 1) = 26 * k + 26 by omega, Nat.pow_add]
theorem z1X {f g : Nat → Nat} : ∀ k, (∀ j, j < k → f j = g j) → v26 f k = v26 g k
 | 0, _ => rfl
 | k + 1, h => by unfold v26; rw [z1X k (fun j hj => h j (by omega)), h k (by omega)]
theorem z3C (f : Nat → Nat) : ∀ k, (∀ j, j < k → f j < 67108864) → v26 f k < 2 ^ (26 * k)
 | 0, _ => by simp [v26]
 | k + 1, h => by
  have h1 := z3C f k (fun j hj => h j (by omega))
  have h2 := h k (by omega)
  unfold v26
  have h3 : f k * 2 ^ (26 * k) ≤ 67108863 * 2 ^ (26 * k) := Nat.mul_le_mul_right _ (by omega)
  rw [Xj]; omega
theorem Wf (x : Nat) : ∀ k, v26 (d26 x) k = x % 2 ^ (26 * k)
 | 0 => by simp [v26, Nat.mod_one]
 | k + 1 => by
  unfold v26
  rw [Wf x k, Xj, Nat.mod_mul, Nat.mul_comm (2 ^ (26 * k))]
  rfl
theorem YN (f : Nat → Nat) (k v : Nat) : ∀ n, k < n → v26 (upd f k v) n + f k * 2 ^ (26 * k) = v26 f n + v * 2 ^ (26 * k)
 | 0, h => by omega
 | n + 1, h => by
  unfold v26
  by_cases e : k = n
  ·subst e
   have h1 : v26 (upd f k v) k = v26 f k := z1X k fun j hj => by unfold upd; rw [if_neg (by omega)]
   have h2 : upd f k v k = v := by unfold upd; rw [if_pos rfl]
   rw [h1, h2]; omega
  ·have ih := YN f k v n (by omega)
   have h2 : upd f k v n = f n := by unfold upd; rw [if_neg (fun h => e h.symm)]
   rw [h2]; omega
theorem zgE (s t i k : Nat) (h : i < k) : d26 (s + t * 2 ^ (26 * k)) i = d26 s i := by
 unfold d26
 have e : (2 : Nat) ^ (26 * k) = 2 ^ (26 * i) * (67108864 * 2 ^ (26 * (k - i - 1))) := by
  rw [show (67108864 : Nat) = 2 ^ 26 by decide, ← Nat.pow_add, ← Nat.pow_add]; congr 1; omega
 rw [e, ← Nat.mul_assoc, Nat.mul_comm t, Nat.mul_assoc, Nat.add_mul_div_left _ _ (z2t i), ← Nat.mul_assoc, Nat.mul_comm t, Nat.mul_assoc, Nat.add_mul_mod_self_left]
theorem z9t (f : Nat → Nat) : ∀ n, (∀ j, j < n → f j < 67108864) → ∀ j, j < n → d26 (v26 f n) j = f j
 | 0, _, j, h => by omega
 | n + 1, hf, j, h => by
  have h1 := z3C f n (fun j hj => hf j (by omega))
  unfold v26
  by_cases e : j = n
  ·subst e
   unfold d26
   rw [Nat.mul_comm (f j), Nat.add_mul_div_left _ _ (z2t j), Nat.div_eq_of_lt h1, Nat.zero_add]
   exact Nat.mod_eq_of_lt (hf j (by omega))
  ·rw [zgE _ _ j n (by omega)]
   exact z9t f n (fun j hj => hf j (by omega)) j (by omega)
theorem zc8 {s : Nat → Nat} {j v : Nat} : v26 (upd s j v) (j + 1) = v26 s j + v * 2 ^ (26 * j) := by
 have := YN s j v (j + 1) (by omega)
 have h2 : v26 s (j + 1) = v26 s j + s j * 2 ^ (26 * j) := rfl
 omega
theorem zhU {s s2 : Nat → Nat} {j c : Nat} (h : v26 s2 j + c * 2 ^ (26 * j) = v26 s j) (hs : s2 j = s j) :
  v26 (upd s2 j ((c + s2 j) % 67108864)) (j + 1) + (c + s2 j) / 67108864 * 2 ^ (26 * (j + 1)) = v26 s (j + 1) := by
 rw [zc8, Xj]
 have h2 : v26 s (j + 1) = v26 s j + s j * 2 ^ (26 * j) := rfl
 rw [h2, ← hs, ← h]
 have e := Nat.div_add_mod (c + s2 j) 67108864
 have e2 : (c + s2 j) % 67108864 * 2 ^ (26 * j) + (c + s2 j) / 67108864 * (2 ^ (26 * j) * 67108864) = (c + s2 j) * 2 ^ (26 * j) := by
  conv => rhs; rw [← e]
  rw [Nat.add_mul, Nat.mul_comm 67108864, Nat.mul_assoc, Nat.mul_comm 67108864]
  omega
 rw [Nat.add_mul] at e2
 omega
def QQ : Nat := 2 ^ 130 - 5
theorem z1i : QQ = 1361129467683753853853498429727072845819 := by decide
theorem z2S : 0 < QQ := by decide
theorem YA (f : Nat → Nat) : v26 f 5 = f 0 + f 1 * 67108864 + f 2 * 4503599627370496 + f 3 * 302231454903657293676544 + f 4 * 20282409603651670423947251286016 := by
 simp only [v26]
 omega
def z7I (k : Nat) : Nat := if k = 0 then 2 ^ 130 * 2 ^ 35 else if k = 1 then 2 ^ 130 + 2 ^ 38 else 2 ^ 130
theorem zbj (T k : Nat) (h : T < z7I k) : T % 2 ^ 130 + 5 * (T / 2 ^ 130) < z7I (k + 1) := by
 unfold z7I at *
 by_cases h0 : k = 0
 ·subst h0; simp at h ⊢; omega
 ·by_cases h1 : k = 1
  ·subst h1; simp at h ⊢; omega
  ·rw [if_neg h0, if_neg h1] at h
   rw [if_neg (by omega), if_neg (by omega)]; omega
theorem zeQ (T : Nat) : (T % 2 ^ 130 + 5 * (T / 2 ^ 130)) % QQ = T % QQ := by
 have e := Nat.div_add_mod T (2 ^ 130)
 generalize T / 2 ^ 130 = h at *
 generalize T % 2 ^ 130 = l at *
 have e3 : T = l + 5 * h + QQ * h := by rw [z1i]; omega
 rw [e3, Nat.add_mul_mod_self_left]
theorem zax (f : Nat → Nat) (hf : ∀ j, j < 5 → f j < 2 ^ 60) : v26 f 5 < z7I 0 := by
 rw [YA]
 have h0 := hf 0 (by decide)
 have h1 := hf 1 (by decide)
 have h2 := hf 2 (by decide)
 have h3 := hf 3 (by decide)
 have h4 := hf 4 (by decide)
 unfold z7I
 simp
 omega
theorem zix {f : Nat → Nat} {x : Nat} (hf : ∀ j, j < 5 → f j < 67108864) (h : v26 f 5 = x) : Value.agg (arr .u64 5 f) = p5 x := by
 rw [p5, ← h]
 congr 1
 exact zg fun j hj => (z9t f 5 hf j hj).symm
end Go.Proofs.YtlidhfijmcelpaaGreatDoor
namespace Go.Proofs.YtlidhfijmcelpaaGreatDoor
theorem m26 (x : Nat) : (x &&& 67108863) % 18446744073709551616 = x % 67108864 := by
 have h := Nat.and_two_pow_sub_one_eq_mod x 26
 rw [show (2 : Nat) ^ 26 - 1 = 67108863 by decide] at h
 rw [h]
 have : x % 2 ^ 26 < 2 ^ 26 := Nat.mod_lt _ (by decide)
 rw [Nat.mod_eq_of_lt (by omega)]
theorem orW (a b k : Nat) (hk : k ≤ 64) (ha : a < 2 ^ k) : (a ||| b * 2 ^ k % 18446744073709551616) % 18446744073709551616 = (a + b * 2 ^ k) % 18446744073709551616 := by
 have e64 : (18446744073709551616 : Nat) = 2 ^ (64 - k) * 2 ^ k := by rw [← Nat.pow_add, Nat.sub_add_cancel hk]
 have hb : b * 2 ^ k % 18446744073709551616 = b % 2 ^ (64 - k) * 2 ^ k := by rw [e64, Nat.mul_mod_mul_right]
 have ho : a ||| b % 2 ^ (64 - k) * 2 ^ k = a + b % 2 ^ (64 - k) * 2 ^ k := by
  rw [Nat.or_comm, Nat.mul_comm, ← Nat.two_pow_add_eq_or_of_lt ha, Nat.add_comm]
 rw [hb, ho, ← hb, Nat.add_mod_mod]
def w3 (f : Nat → Nat) : Nat := f 0 + f 1 * 2 ^ 64 + f 2 * 2 ^ 128
section
variable {f : Nat → Nat}
theorem ze5 (h0 : f 0 < 18446744073709551616) (h1 : f 1 < 18446744073709551616) (h2 : f 2 < 4) : w3 f < 2 ^ 130 := by unfold w3; omega
theorem po0 : (f 0 &&& 67108863) % 18446744073709551616 = d26 (w3 f) 0 := by
 rw [m26]; unfold d26 w3; simp only [Nat.mul_zero, Nat.pow_zero, Nat.div_one]; omega
theorem po1 : (f 0 / 2 ^ 26 &&& 67108863) % 18446744073709551616 = d26 (w3 f) 1 := by
 rw [m26]; unfold d26 w3; simp only [Nat.reduceMul]; omega
theorem po2 (h0 : f 0 < 18446744073709551616) : ((f 0 / 2 ^ 52 ||| f 1 * 2 ^ 12 % 18446744073709551616) % 18446744073709551616 &&& 67108863) % 18446744073709551616 = d26 (w3 f) 2 := by
 rw [m26, orW _ _ 12 (by decide) (by omega)]; unfold d26 w3; simp only [Nat.reduceMul]; omega
theorem po3 (h0 : f 0 < 18446744073709551616) : (f 1 / 2 ^ 14 &&& 67108863) % 18446744073709551616 = d26 (w3 f) 3 := by
 rw [m26]; unfold d26 w3; simp only [Nat.reduceMul]; omega
theorem po4 (h0 : f 0 < 18446744073709551616) (h1 : f 1 < 18446744073709551616) (h2 : f 2 < 4) : (f 1 / 2 ^ 40 ||| f 2 * 2 ^ 24 % 18446744073709551616) % 18446744073709551616 = d26 (w3 f) 4 := by
 rw [orW _ _ 24 (by decide) (by omega)]; unfold d26 w3; simp only [Nat.reduceMul]; omega
end
section
variable {x : Nat}
theorem z0c (hx : x < 2 ^ 130) : x = d26 x 0 + d26 x 1 * 67108864 + d26 x 2 * 4503599627370496 + d26 x 3 * 302231454903657293676544 + d26 x 4 * 20282409603651670423947251286016 := by
 have h := Wf x 5
 rw [YA] at h
 rw [h]
 exact (Nat.mod_eq_of_lt hx).symm
theorem wh0 (hx : x < 2 ^ 130) : ((d26 x 0 ||| d26 x 1 * 2 ^ 26 % 18446744073709551616) % 18446744073709551616 ||| d26 x 2 * 2 ^ 52 % 18446744073709551616) % 18446744073709551616 = wd x 0 := by
 have e := z0c hx
 have l0 := yU x 0
 have l1 := yU x 1
 have l2 := yU x 2
 have l3 := yU x 3
 rw [orW _ _ 26 (by decide) (by omega), orW _ _ 52 (by decide) (by omega)]
 unfold wd
 generalize d26 x 0 = a at *
 generalize d26 x 1 = b at *
 generalize d26 x 2 = c at *
 generalize d26 x 3 = d at *
 generalize d26 x 4 = g at *
 simp only [Nat.mul_zero, Nat.pow_zero, Nat.div_one]
 omega
theorem wh1 (hx : x < 2 ^ 130) : ((d26 x 2 / 2 ^ 12 ||| d26 x 3 * 2 ^ 14 % 18446744073709551616) % 18446744073709551616 ||| d26 x 4 * 2 ^ 40 % 18446744073709551616) % 18446744073709551616 = wd x 1 := by
 have e := z0c hx
 have l0 := yU x 0
 have l1 := yU x 1
 have l2 := yU x 2
 have l3 := yU x 3
 rw [orW _ _ 14 (by decide) (by omega), orW _ _ 40 (by decide) (by omega)]
 unfold wd
 generalize d26 x 0 = a at *
 generalize d26 x 1 = b at *
 generalize d26 x 2 = c at *
 generalize d26 x 3 = d at *
 generalize d26 x 4 = g at *
 simp only [Nat.reduceMul]
 omega
theorem wh2 (hx : x < 2 ^ 130) : d26 x 4 / 2 ^ 24 = wd x 2 := by
 have e := z0c hx
 have l0 := yU x 0
 have l1 := yU x 1
 have l2 := yU x 2
 have l3 := yU x 3
 have l4 := yU x 4
 unfold wd
 generalize d26 x 0 = a at *
 generalize d26 x 1 = b at *
 generalize d26 x 2 = c at *
 generalize d26 x 3 = d at *
 generalize d26 x 4 = g at *
 simp only [Nat.reduceMul]
 omega
end
theorem z4V {s s2 : Nat → Nat} {c : Nat} (h : v26 s2 5 + c * 2 ^ (26 * 5) = v26 s 5) (hl : ∀ j, j < 5 → s2 j < 67108864) : v26 s2 5 = v26 s 5 % 2 ^ 130 ∧ c = v26 s 5 / 2 ^ 130 := by
 have h1 := z3C s2 5 hl
 simp only [Nat.reduceMul] at h h1
 generalize v26 s2 5 = A at *
 generalize v26 s 5 = B at *
 omega
theorem z2E {s s2 : Nat → Nat} {c : Nat} (h : v26 s2 5 + c * 2 ^ (26 * 5) = v26 s 5) (hl : ∀ j, j < 5 → s2 j < 67108864) : v26 (upd s2 0 (s2 0 + 5 * c)) 5 = v26 s 5 % 2 ^ 130 + 5 * (v26 s 5 / 2 ^ 130) := by
 obtain ⟨h1, h2⟩ := z4V h hl
 have h3 := YN s2 0 (s2 0 + 5 * c) 5 (by decide)
 rw [Nat.mul_zero, Nat.pow_zero, Nat.mul_one, Nat.mul_one] at h3
 rw [← h1, ← h2]
 omega
theorem zeP {s s2 : Nat → Nat} {c k : Nat} (h : v26 s2 5 + c * 2 ^ (26 * 5) = v26 s 5) (hl : ∀ j, j < 5 → s2 j < 67108864) (hb : v26 s 5 < z7I k) : k + 1 = 3 → ∀ j, j < 5 → upd s2 0 (s2 0 + 5 * c) j < 67108864 := by
 intro hk j hj
 have hk2 : k = 2 := by omega
 subst hk2
 have h1 := (z4V h hl).2
 have h2 : c = 0 := by rw [h1]; exact Nat.div_eq_of_lt hb
 subst h2
 unfold upd
 split
 ·exact hl 0 (by decide)
 ·exact hl j hj
theorem z9H {s2 : Nat → Nat} {c : Nat} (hl : ∀ j, j < 5 → s2 j < 67108864) (hc : c < 34359738368) : ∀ j, j < 5 → upd s2 0 (s2 0 + 5 * c) j < 1152921504606846976 := by
 intro j hj
 have h1 := hl j hj
 have h2 := hl 0 (by decide)
 unfold upd
 split <;> omega
theorem Wd {f : Nat → Nat} {j v t : Nat} (h : t ≠ j) : upd f j v t = f t := by unfold upd; rw [if_neg h]
theorem z3z {f : Nat → Nat} {j v : Nat} : upd f j v j = v := by unfold upd; rw [if_pos rfl]
theorem z2p {s : Nat → Nat} {k v : Nat} (h : ∀ j, j < k → s j < 67108864) : ∀ j, j < k + 1 → upd s k (v % 67108864) j < 67108864 := by
 intro j hj
 unfold upd
 split
 ·exact Nat.mod_lt _ (by decide)
 ·exact h j (by omega)
theorem zhe {s : Nat → Nat} : v26 (upd s 0 (s 0 + 5)) 5 = v26 s 5 + 5 := by
 have h := YN s 0 (s 0 + 5) 5 (by decide)
 rw [Nat.mul_zero, Nat.pow_zero, Nat.mul_one, Nat.mul_one] at h
 omega
theorem zkB {q : Nat → Nat} {i v w : Nat} (h : ∀ j, j < i → q j < 67108864) : ∀ j, j < i + 1 → upd (upd q (i + 1) v) i (w % 67108864) j < 67108864 := by
 intro j hj
 unfold upd
 split
 ·exact Nat.mod_lt _ (by decide)
 ·rw [if_neg (by omega)]; exact h j (by omega)
theorem zjd {q : Nat → Nat} {i v w : Nat} (h : ∀ j, i < j → j < 5 → q j < 67108864) : ∀ j, i + 1 < j → j < 5 → upd (upd q (i + 1) v) i w j < 67108864 := by
 intro j hj h5
 unfold upd
 rw [if_neg (by omega), if_neg (by omega)]
 exact h j (by omega) h5
theorem zjG {q : Nat → Nat} {i w : Nat} (hi : i < 4) (h : ∀ j, i < j → j < 5 → q j < 67108864) (h2 : q i < 67108869) : upd (upd q (i + 1) (q (i + 1) + q i / 67108864)) i w (i + 1) < 67108869 := by
 unfold upd
 rw [if_neg (by omega), if_pos rfl]
 have := h (i + 1) (by omega) (by omega)
 omega
theorem zjA {q : Nat → Nat} {i : Nat} (hi : i < 4) : v26 (upd (upd q (i + 1) (q (i + 1) + q i / 67108864)) i (q i % 67108864)) 5 = v26 q 5 := by
 have h : i = 0 ∨ i = 1 ∨ i = 2 ∨ i = 3 := by omega
 rw [YA, YA]
 rcases h with rfl | rfl | rfl | rfl <;> simp [upd] <;> omega
theorem zk8 {q : Nat → Nat} {T : Nat} (hq : v26 q 5 = T + 5) (hl : ∀ j, j < 4 → q j < 67108864) (hT : T < 2 ^ 130) : (0 < q 4 / 2 ^ 26 ↔ QQ ≤ T) ∧ (QQ ≤ T → v26 (upd q 4 (q 4 % 67108864)) 5 = T % QQ) := by
 have h4 := z3C q 4 (fun j hj => hl j hj)
 have e : v26 q 5 = v26 q 4 + q 4 * 2 ^ (26 * 4) := rfl
 have e2 := YN q 4 (q 4 % 67108864) 5 (by decide)
 rw [z1i]
 simp only [Nat.reduceMul] at *
 generalize v26 q 4 = A at *
 generalize v26 (upd q 4 (q 4 % 67108864)) 5 = B at *
 generalize q 4 = g at *
 omega
theorem pw5 (n t : Nat) (ht : 5 ≤ t) : n * 5 * 2 ^ (26 * (t - 5)) % QQ = n * 2 ^ (26 * t) % QQ := by
 have e : 2 ^ (26 * t) = 2 ^ 130 * 2 ^ (26 * (t - 5)) := by rw [← Nat.pow_add]; congr 1; omega
 have e2 : (2 : Nat) ^ 130 = 5 + QQ := by rw [z1i]
 rw [e, e2, Nat.add_mul, Nat.mul_add, Nat.mul_assoc, show n * (QQ * 2 ^ (26 * (t - 5))) = QQ * (n * 2 ^ (26 * (t - 5))) by rw [Nat.mul_left_comm], Nat.add_mul_mod_self_left]
theorem z8F {s d e : Nat → Nat} {i j y n : Nat} (hi : i < 5) (hj : j < 5) (h : v26 s 5 % QQ = (v26 d i * y + d i * v26 e j * 2 ^ (26 * i)) % QQ)
  (hn : n = if 5 ≤ i + j then d i * e j * 5 else d i * e j) :
  v26 (upd s ((i + j) % 5) (s ((i + j) % 5) + n)) 5 % QQ = (v26 d i * y + d i * v26 e (j + 1) * 2 ^ (26 * i)) % QQ := by
 have h1 := YN s ((i + j) % 5) (s ((i + j) % 5) + n) 5 (Nat.mod_lt _ (by decide))
 rw [Nat.add_mul] at h1
 have h2 : v26 (upd s ((i + j) % 5) (s ((i + j) % 5) + n)) 5 = v26 s 5 + n * 2 ^ (26 * ((i + j) % 5)) := by omega
 have h3 : n * 2 ^ (26 * ((i + j) % 5)) % QQ = d i * e j * 2 ^ (26 * (i + j)) % QQ := by
  rw [hn]
  by_cases h5 : 5 ≤ i + j
  ·rw [if_pos h5, show (i + j) % 5 = i + j - 5 by omega]
   exact pw5 _ _ h5
  ·rw [if_neg h5, show (i + j) % 5 = i + j by omega]
 have h4 : d i * v26 e (j + 1) * 2 ^ (26 * i) = d i * v26 e j * 2 ^ (26 * i) + d i * e j * 2 ^ (26 * (i + j)) := by
  rw [z5y, Nat.mul_add, Nat.add_mul, Nat.mul_add 26 i j, Nat.pow_add, ← Nat.mul_assoc (d i) (e j), Nat.mul_assoc (d i * e j), Nat.mul_comm (2 ^ (26 * j))]
 rw [h2, h4, ← Nat.add_assoc, Nat.add_mod, h, h3, ← Nat.add_mod]
theorem zjT {d e : Nat → Nat} {i y : Nat} (hy : v26 e 5 = y) : v26 d i * y + d i * v26 e 5 * 2 ^ (26 * i) = v26 d (i + 1) * y + d (i + 1) * v26 e 0 * 2 ^ (26 * (i + 1)) := by
 rw [hy, z5y, Nat.add_mul, show v26 e 0 = 0 from rfl, Nat.mul_zero, Nat.zero_mul, Nat.add_zero, Nat.mul_assoc, Nat.mul_comm y, ← Nat.mul_assoc]
theorem zjU {x y : Nat} (hx : x < 2 ^ 130) : v26 (d26 x) 5 * y + d26 x 5 * v26 (d26 y) 0 * 2 ^ (26 * 5) = x * y := by
 rw [Wf x 5, Nat.mod_eq_of_lt hx, show v26 (d26 y) 0 = 0 from rfl, Nat.mul_zero, Nat.zero_mul, Nat.add_zero]
theorem zlj {x y i j : Nat} : d26 x i * d26 y j ≤ 4503599493152769 := Nat.mul_le_mul (show d26 x i ≤ 67108863 by have := yU x i; omega) (show d26 y j ≤ 67108863 by have := yU y j; omega)
theorem zcx {s : Nat → Nat} {r m n B : Nat} (hr : r < 5) (h : ∀ t, t < 5 → s t ≤ m * B) (hn : n ≤ B) : ∀ t, t < 5 → upd s r (s r + n) t ≤ (m + 1) * B := by
 intro t ht
 have h1 := h t ht
 have h2 := h r hr
 rw [Nat.succ_mul]
 unfold upd
 split <;> omega
end Go.Proofs.YtlidhfijmcelpaaGreatDoor
namespace Go.Proofs.YtlidhfijmcelpaaGreatDoor
open Go Go.RowKit
abbrev PV (r p a h : Nat → Nat) (n : Int) : Value := .agg (cells 24 [pI .u64 2 r, pI .u64 2 p, pI .u64 3 a, pI .u8 16 h, pV (.int .i64 n)])
theorem ZK : ∀ (a b : List Nat), leN (a ++ b) = leN a + 256 ^ a.length * leN b
 | [], b => by simp [leN]
 | x :: a, b => by
  have := ZK a b
  simp only [List.cons_append, leN, List.length_cons]
  rw [this, Nat.pow_succ, Nat.mul_add, ← Nat.mul_assoc, Nat.mul_comm 256 (256 ^ a.length), Nat.add_assoc]
theorem z2e : ∀ k, leN (List.replicate k 0) = 0
 | 0 => rfl
 | k + 1 => by rw [List.replicate_succ]; simp only [leN]; rw [z2e k]
def bl (l : List Nat) (m : Nat) : List Nat := l ++ [1] ++ List.replicate m 0
theorem zeT (l : List Nat) (m : Nat) : (bl l m).length = l.length + 1 + m := by simp [bl]; omega
theorem zgP (l : List Nat) (m : Nat) : bl l m ++ [0] = bl l (m + 1) := by
 unfold bl
 rw [List.append_assoc, List.replicate_succ', List.append_assoc]
theorem zdn (l : List Nat) (m : Nat) : leN (bl l m) = leN (l ++ [1]) := by
 unfold bl
 rw [ZK, z2e, Nat.mul_zero, Nat.add_zero]
theorem zlf {l : List Nat} (hb : ∀ b ∈ l, b < 256) (m : Nat) : ∀ b ∈ bl l m, b < 256 := by
 intro b h
 unfold bl at h
 rw [List.mem_append, List.mem_append] at h
 rcases h with (h | h) | h
 ·exact hb b h
 ·have : b = 1 := by simpa using h
  omega
 ·have := List.eq_of_mem_replicate h
  omega
def w8 (l : List Nat) (j : Nat) : Nat := leN ((l.drop (8 * j)).take 8)
theorem xW {l : List Nat} (hb : ∀ b ∈ l, b < 256) (i k : Nat) : ∀ b ∈ (l.drop i).take k, b < 256 := fun b h => hb b (List.mem_of_mem_drop (List.mem_of_mem_take h))
theorem xd {l : List Nat} (hb : ∀ b ∈ l, b < 256) (j : Nat) : w8 l j < 18446744073709551616 := by
 unfold w8
 have h1 := z0E _ (xW hb (8 * j) 8)
 have h2 : ((l.drop (8 * j)).take 8).length ≤ 8 := by rw [List.length_take]; omega
 have h3 : 256 ^ ((l.drop (8 * j)).take 8).length ≤ 256 ^ 8 := Nat.pow_le_pow_right (by decide) h2
 omega
theorem zdf {l : List Nat} (h : l.length = 24) : w3 (w8 l) = leN l := by
 have e1 : l = (l.drop 0).take 8 ++ ((l.drop 8).take 8 ++ (l.drop 16).take 8) := by
  rw [List.drop_zero]
  conv => lhs; rw [← List.take_append_drop 8 l, ← List.take_append_drop 8 (l.drop 8)]
  rw [List.drop_drop, List.take_of_length_le (l := l.drop (8 + 8)) (by simp; omega)]
 have l0 : ((l.drop 0).take 8).length = 8 := by simp; omega
 have l1 : ((l.drop 8).take 8).length = 8 := by simp; omega
 conv => rhs; rw [e1, ZK, ZK, l0, l1]
 unfold w3 w8
 simp only [Nat.mul_zero, Nat.mul_one, Nat.reduceMul, Nat.reducePow]
 omega
theorem z0i {l : List Nat} (hb : ∀ b ∈ l, b < 256) (hl : l.length ≤ 16) : leN (l ++ [1]) < 2 * 2 ^ 128 := by
 have h1 := z0E l hb
 have h2 : 256 ^ l.length ≤ 256 ^ 16 := Nat.pow_le_pow_right (by decide) hl
 rw [ZK]
 simp only [leN]
 omega
theorem ziL {l : List Nat} (hb : ∀ b ∈ l, b < 256) (hl : l.length ≤ 16) {m : Nat} (hm : (bl l m).length = 24) : w8 (bl l m) 2 < 4 := by
 have h1 := zdf hm
 have h2 := z0i hb hl
 rw [zdn] at h1
 unfold w3 at h1
 generalize leN (l ++ [1]) = B at *
 omega
theorem zfz (x y : Nat) (hx : x < 2 ^ 130) (hy : y < 2 ^ 130) : v26 (fun j => d26 x j + d26 y j) 5 = x + y := by
 have h1 := z0c hx
 have h2 := z0c hy
 rw [YA]
 omega
def pst (R A : Nat) (l : List Nat) : Nat := (A + leN (l ++ [1])) % QQ * R % QQ
theorem z13 : QQ < 2 ^ 130 := by decide
theorem Yd (x : Nat) : x % QQ < 2 ^ 130 := Nat.lt_trans (Nat.mod_lt _ z2S) z13
def k3 (r : Nat → Nat) : Nat := r 0 + r 1 * 2 ^ 64
theorem zkH (r : Nat → Nat) : w3 (upd r 2 0) = k3 r := by
 have h0 : upd r 2 0 0 = r 0 := Wd (by decide)
 have h1 : upd r 2 0 1 = r 1 := Wd (by decide)
 have h2 : upd r 2 0 2 = 0 := z3z
 unfold w3 k3
 rw [h0, h1, h2, Nat.zero_mul, Nat.add_zero]
theorem zkl {r : Nat → Nat} (h0 : r 0 < 18446744073709551616) (h1 : r 1 < 18446744073709551616) : k3 r < 2 ^ 130 := by unfold k3; omega
def msk (f : Nat → Nat) (j : Nat) : Nat := if j < 16 ∧ j % 4 = 3 then (f j &&& 15) % 256 else if 4 ≤ j ∧ j < 16 ∧ j % 4 = 0 then (f j &&& 252) % 256 else f j
def mk1 (f : Nat → Nat) (i j : Nat) : Nat := if j < 4 * i ∧ j % 4 = 3 then (f j &&& 15) % 256 else f j
def mk2 (f : Nat → Nat) (e j : Nat) : Nat := if j < 16 ∧ j % 4 = 3 then (f j &&& 15) % 256 else if 4 ≤ j ∧ j < 4 * (e + 1) ∧ j % 4 = 0 then (f j &&& 252) % 256 else f j
theorem zcj {f s : Nat → Nat} {i : Nat} (h : ∀ j, s j = mk1 f i j) : ∀ j, upd s (4 * i + 3) ((s (4 * i + 3) &&& 15) % 256) j = mk1 f (i + 1) j := by
 intro j
 unfold upd
 split
 ·rename_i e
  subst e
  rw [h]
  unfold mk1
  rw [if_neg (by omega), if_pos (by omega)]
 ·rename_i e
  rw [h]
  unfold mk1
  by_cases h1 : j < 4 * i ∧ j % 4 = 3
  ·rw [if_pos h1, if_pos (by omega)]
  ·rw [if_neg h1, if_neg (by omega)]
theorem zh9 {f : Nat → Nat} (j : Nat) : mk1 f 4 j = mk2 f 0 j := by
 unfold mk1 mk2
 by_cases h1 : j < 16 ∧ j % 4 = 3
 ·rw [if_pos (by omega), if_pos h1]
 ·rw [if_neg (by omega), if_neg h1, if_neg (by omega)]
theorem zg6 {f s : Nat → Nat} {e : Nat} (he : e < 3) (h : ∀ j, s j = mk2 f e j) : ∀ j, upd s (4 * (e + 1)) ((s (4 * (e + 1)) &&& 252) % 256) j = mk2 f (e + 1) j := by
 intro j
 unfold upd
 split
 ·rename_i e1
  subst e1
  rw [h]
  unfold mk2
  rw [if_neg (by omega), if_neg (by omega), if_neg (by omega), if_pos (by omega)]
 ·rename_i e1
  rw [h]
  unfold mk2
  by_cases h1 : j < 16 ∧ j % 4 = 3
  ·rw [if_pos h1, if_pos h1]
  ·rw [if_neg h1, if_neg h1]
   by_cases h2 : 4 ≤ j ∧ j < 4 * (e + 1) ∧ j % 4 = 0
   ·rw [if_pos h2, if_pos (by omega)]
   ·rw [if_neg h2, if_neg (by omega)]
theorem zjn {f : Nat → Nat} (hf : ∀ j, j < 32 → f j < 256) {j : Nat} (hj : j < 32) : msk f j < 256 := by
 unfold msk
 split
 ·exact Nat.mod_lt _ (by decide)
 ·split
  ·exact Nat.mod_lt _ (by decide)
  ·exact hf j hj
def bL (f : Nat → Nat) : List Nat := (List.range 32).map (msk f)
theorem z6r (f : Nat → Nat) : (bL f).length = 32 := by simp [bL]
theorem z28 {f : Nat → Nat} (hf : ∀ j, j < 32 → f j < 256) : ∀ b ∈ bL f, b < 256 := by
 intro b hb
 simp only [bL, List.mem_map, List.mem_range] at hb
 obtain ⟨j, hj, rfl⟩ := hb
 exact zjn hf hj
theorem zkv {f s : Nat → Nat} (h : ∀ j, s j = mk2 f 3 j) : (List.range 32).map s = bL f := List.map_congr_left fun j _ => h j
def lw (r : Nat → Nat) : List Nat := xR (r 0) 8 ++ xR (r 1) 8
theorem zjj (r : Nat → Nat) : (lw r).length = 16 := by simp [lw, zL]
theorem ziC (r : Nat → Nat) : ∀ b ∈ lw r, b < 256 := by
 intro b h
 unfold lw at h
 rw [List.mem_append] at h
 rcases h with h | h
 ·exact vZ _ _ b h
 ·exact vZ _ _ b h
def kq (r : Nat → Nat) (j : Nat) : Nat := (lw r).getD j 0
theorem ZW {l : List Nat} (hl : ∀ b ∈ l, b < 256) (j : Nat) : l.getD j 0 < 256 := by
 rw [List.getD_eq_getElem?_getD]
 cases h : l[j]? with
 | none => simp
 | some v => exact hl v (List.mem_of_getElem? h)
theorem z0e (r : Nat → Nat) : ∀ j, j < 32 → kq r j < 256 := fun j _ => ZW (ziC r) j
theorem YW (r : Nat → Nat) : ∀ j, j < 32 → (if 0 ≤ j ∧ j < 0 + min (lw r).length 32 then (lw r).getD (j - 0) 0 else 0) = kq r j := by
 intro j _
 have h := zjj r
 unfold kq
 split
 ·rfl
 ·rw [List.getD_eq_getElem?_getD, List.getElem?_eq_none (by omega)]; rfl
def yE (r a : Nat → Nat) (n : Int) : Bool := zO 2 (w8 (bL (kq r))) r && (decide (0 ≤ n) && (decide (n < 16) && (decide (a 2 < 4) && zO 3 (wd (w3 a % QQ)) a)))
def okh (n : Int) (h : Nat → Nat) (i : Nat) : Bool := (List.range i).all fun j => decide ((j : Int) < n) || decide (h j = 0)
theorem z0O (n : Int) (h : Nat → Nat) (i : Nat) : okh n h (i + 1) = (okh n h i && (decide ((i : Int) < n) || decide (h i = 0))) := by
 unfold okh
 rw [List.range_succ, List.all_append]
 simp
theorem zgJ (r a : Nat → Nat) (n : Int) : (zO 2 (w8 (bL (kq r))) r = false) ∨ (zO 2 (w8 (bL (kq r))) r = true ∧ ¬ 0 ≤ n) ∨ (zO 2 (w8 (bL (kq r))) r = true ∧ 0 ≤ n ∧ ¬ n < 16) ∨ (zO 2 (w8 (bL (kq r))) r = true ∧ 0 ≤ n ∧ n < 16 ∧ ¬ a 2 < 4)
  ∨ (zO 2 (w8 (bL (kq r))) r = true ∧ 0 ≤ n ∧ n < 16 ∧ a 2 < 4 ∧ zO 3 (wd (w3 a % QQ)) a = false) ∨ (zO 2 (w8 (bL (kq r))) r = true ∧ 0 ≤ n ∧ n < 16 ∧ a 2 < 4 ∧ zO 3 (wd (w3 a % QQ)) a = true) := by
 cases zO 2 (w8 (bL (kq r))) r
 ·exact .inl rfl
 ·by_cases h1 : 0 ≤ n
  ·by_cases h2 : n < 16
   ·by_cases h3 : a 2 < 4
    ·cases zO 3 (wd (w3 a % QQ)) a
     ·exact .inr (.inr (.inr (.inr (.inl ⟨rfl, h1, h2, h3, rfl⟩))))
     ·exact .inr (.inr (.inr (.inr (.inr ⟨rfl, h1, h2, h3, rfl⟩))))
    ·exact .inr (.inr (.inr (.inl ⟨rfl, h1, h2, h3⟩)))
   ·exact .inr (.inr (.inl ⟨rfl, h1, h2⟩))
  ·exact .inr (.inl ⟨rfl, h1⟩)
theorem z00 {b c e g f : Bool} (h : b = false ∨ c = false ∨ e = false ∨ g = false ∨ f = false) : false = (b && (c && (e && (g && f)))) := by
 cases b <;> cases c <;> cases e <;> cases g <;> cases f <;> simp at h ⊢
theorem ze1 {r a : Nat → Nat} {n : Int} (h0 : zO 2 (w8 (bL (kq r))) r = true) (h1 : 0 ≤ n) (h2 : n < 16) (h3 : a 2 < 4) (h4 : zO 3 (wd (w3 a % QQ)) a = true) : true = yE r a n := by
 unfold yE
 rw [h0, h4, decide_eq_true h1, decide_eq_true h2, decide_eq_true h3]
 rfl
theorem zfV {x : Nat} (hx : x < 2 ^ 130) : v26 (d26 x) 5 = x := (Wf x 5).trans (Nat.mod_eq_of_lt hx)
theorem z2d {c : Bool} {n : Int} {h : Nat → Nat} {i : Nat} (hok : (c && okh n h i) = false) : false = (c && okh n h (i + 1)) := by
 rw [z0O, ← Bool.and_assoc, hok]; rfl
theorem z2N {c : Bool} {n : Int} {h : Nat → Nat} {i : Nat} (hok : (c && okh n h i) = true) (hl : (i : Int) < n) : true = (c && okh n h (i + 1)) := by
 rw [z0O, ← Bool.and_assoc, hok, decide_eq_true hl]; rfl
theorem z1S {c : Bool} {n : Int} {h : Nat → Nat} {i : Nat} (hok : (c && okh n h i) = true) (hl : ¬ (i : Int) < n) : decide ((h i : Int) = 0) = (c && okh n h (i + 1)) := by
 rw [z0O, ← Bool.and_assoc, hok, decide_eq_false hl, Bool.true_and, Bool.false_or]
 by_cases e : h i = 0
 ·rw [e]; rfl
 ·rw [decide_eq_false e, decide_eq_false (by omega)]
theorem YI (c : Bool) (n : Int) (h : Nat → Nat) (i : Nat) : (c && okh n h i) = false ∨ ((c && okh n h i) = true ∧ (i : Int) < n) ∨ ((c && okh n h i) = true ∧ ¬ (i : Int) < n) := by
 cases (c && okh n h i)
 ·exact .inl rfl
 ·by_cases hl : (i : Int) < n
  ·exact .inr (.inl ⟨rfl, hl⟩)
  ·exact .inr (.inr ⟨rfl, hl⟩)
def wK (R A : Nat) (S : List Nat) : Nat → Nat
 | 0 => A
 | k + 1 => pst R (wK R A S k) ((S.drop (16 * k)).take 16)
theorem z98 {R A : Nat} {S : List Nat} (hA : A < 2 ^ 130) : ∀ k, wK R A S k < 2 ^ 130
 | 0 => hA
 | _ + 1 => Yd _
theorem z8i {x : Nat} (hx : x < 2 ^ 130) : w3 (wd x) = x := by
 unfold w3 wd
 simp only [Nat.mul_zero, Nat.pow_zero, Nat.div_one, Nat.mul_one, Nat.reduceMul]
 omega
theorem z3v {x : Nat} (hx : x < 2 ^ 130) : wd x 2 < 4 := by
 unfold wd
 simp only [Nat.reduceMul]
 omega
def sS (h : Nat → Nat) (n : Nat) (l : List Nat) : List Nat := (List.range n).map h ++ l
theorem V3 (h : Nat → Nat) (n : Nat) (l : List Nat) : (sS h n l).length = n + l.length := by simp [sS]
theorem z9i {h : Nat → Nat} {n : Nat} {l : List Nat} (hh : ∀ j, j < n → h j < 256) (hl : ∀ b ∈ l, b < 256) : ∀ b ∈ sS h n l, b < 256 := by
 intro b hb
 unfold sS at hb
 rw [List.mem_append] at hb
 rcases hb with hb | hb
 ·obtain ⟨j, hj, rfl⟩ := List.mem_map.1 hb
  exact hh j (List.mem_range.1 hj)
 ·exact hl b hb
theorem z9V (S : List Nat) (k : Nat) : ((S.drop (16 * k)).drop 16).take ((S.drop (16 * k)).length - 16) = S.drop (16 * (k + 1)) := by
 rw [List.drop_drop, List.take_of_length_le (by simp; omega), show 16 * k + 16 = 16 * (k + 1) by omega]
theorem zdL (L : List Nat) (h : L.length < 16) : (fun i => if i < min L.length 16 then L.getD i 0 else 0) = fun i => L.getD i 0 := by
 funext i
 by_cases hi : i < min L.length 16
 ·rw [if_pos hi]
 ·rw [if_neg hi, List.getD_eq_getElem?_getD, List.getElem?_eq_none (by omega)]; rfl
def cr (x y i : Nat) : Nat := (x % 256 ^ i + y % 256 ^ i) / 256 ^ i
def tgn (x y i : Nat) : Nat := (x + y) / 256 ^ i % 256
theorem zed (i : Nat) : 0 < 256 ^ i := Nat.pow_pos (by decide)
theorem z9y (x y : Nat) : cr x y 0 = 0 := by simp [cr, Nat.mod_one]
theorem ziu (x y i : Nat) : cr x y i ≤ 1 := by
 unfold cr
 have h1 := Nat.mod_lt x (zed i)
 have h2 := Nat.mod_lt y (zed i)
 have : (x % 256 ^ i + y % 256 ^ i) / 256 ^ i < 2 := Nat.div_lt_of_lt_mul (by omega)
 omega
theorem z86 (x y i : Nat) : (cr x y i + (x / 256 ^ i % 256 + y / 256 ^ i % 256)) / 256 = cr x y (i + 1) := by
 unfold cr
 rw [Nat.pow_succ, Nat.mod_mul, Nat.mod_mul (x := y)]
 generalize x / 256 ^ i % 256 = a
 generalize y / 256 ^ i % 256 = b
 generalize x % 256 ^ i = p
 generalize y % 256 ^ i = q
 rw [← Nat.div_div_eq_div_mul]
 congr 1
 have hp := zed i
 generalize 256 ^ i = M at *
 rw [show p + M * a + (q + M * b) = p + q + M * (a + b) by rw [Nat.mul_add]; omega, Nat.add_mul_div_left _ _ hp]
theorem zeF (x y i : Nat) : (cr x y i + (x / 256 ^ i % 256 + y / 256 ^ i % 256)) % 256 = tgn x y i := by
 unfold cr tgn
 have hp := zed i
 have ex := Nat.div_add_mod x (256 ^ i)
 have ey := Nat.div_add_mod y (256 ^ i)
 have e : (x + y) / 256 ^ i = x / 256 ^ i + y / 256 ^ i + (x % 256 ^ i + y % 256 ^ i) / 256 ^ i := by
  conv => lhs; rw [← ex, ← ey]
  generalize 256 ^ i = M at *
  rw [show M * (x / M) + x % M + (M * (y / M) + y % M) = x % M + y % M + M * (x / M + y / M) by rw [Nat.mul_add]; omega, Nat.add_mul_div_left _ _ hp]
  omega
 rw [e]
 omega
theorem zlk (x : Nat) : k3 (wd x) = x % 2 ^ 128 := by
 unfold k3 wd
 simp only [Nat.mul_zero, Nat.pow_zero, Nat.div_one, Nat.mul_one]
 omega
theorem z05 {r : Nat → Nat} (h0 : r 0 < 18446744073709551616) {i : Nat} (hi : i < 16) : (lw r)[i]? = some (k3 r / 256 ^ i % 256) := by
 unfold lw
 by_cases h : i < 8
 ·rw [List.getElem?_append_left (by rw [zL]; exact h)]
  simp only [xR, List.getElem?_map, List.getElem?_range h, Option.map_some]
  congr 1
  unfold k3
  have : i = 0 ∨ i = 1 ∨ i = 2 ∨ i = 3 ∨ i = 4 ∨ i = 5 ∨ i = 6 ∨ i = 7 := by omega
  rcases this with rfl | rfl | rfl | rfl | rfl | rfl | rfl | rfl <;> simp only [Nat.reducePow] <;> omega
 ·rw [List.getElem?_append_right (by rw [zL]; omega), zL]
  simp only [xR, List.getElem?_map, List.getElem?_range (show i - 8 < 8 by omega), Option.map_some]
  congr 1
  unfold k3
  have : i = 8 ∨ i = 9 ∨ i = 10 ∨ i = 11 ∨ i = 12 ∨ i = 13 ∨ i = 14 ∨ i = 15 := by omega
  rcases this with rfl | rfl | rfl | rfl | rfl | rfl | rfl | rfl <;> simp only [Nat.reducePow, Nat.reduceSub] <;> omega
def yx (m : List Nat) : List Nat := m.drop (16 * (m.length / 16))
theorem vE (m : List Nat) : (yx m).length = m.length % 16 := by simp [yx]; omega
theorem zc5 {m : List Nat} (h : ∀ b ∈ m, b < 256) : ∀ b ∈ yx m, b < 256 := fun b hb => h b (List.mem_of_mem_drop hb)
def ZO (R : Nat) (m : List Nat) : Nat := wK R 0 m (m.length / 16)
def wY (m : List Nat) (i : Nat) : Nat := (yx m).getD i 0
theorem zhL : wd 0 = fun _ => 0 := by funext j; simp [wd]
theorem ziJ (R A : Nat) (l : List Nat) : pst R A l < QQ := Nat.mod_lt _ z2S
theorem zfF {R A : Nat} {S : List Nat} (hA : A < QQ) : ∀ k, wK R A S k < QQ
 | 0 => hA
 | _ + 1 => ziJ _ _ _
theorem Xs (R : Nat) (m : List Nat) : ZO R m < QQ := zfF z2S _
theorem z4F (R A : Nat) (m l : List Nat) : ∀ k, 16 * k ≤ m.length → wK R A (m ++ l) k = wK R A m k
 | 0, _ => rfl
 | k + 1, h => by
  rw [wK, wK, z4F R A m l k (by omega), List.drop_append_of_le_length (by omega), List.take_append_of_le_length (by simp; omega)]
theorem z5L (m l : List Nat) (k : Nat) : (m ++ l).drop (16 * (m.length / 16 + k)) = (yx m ++ l).drop (16 * k) := by
 have e : (m ++ l).drop (16 * (m.length / 16)) = yx m ++ l := List.drop_append_of_le_length (by omega)
 rw [← e, List.drop_drop, Nat.mul_add]
theorem z4v (R : Nat) (m l : List Nat) : ∀ k, wK R 0 (m ++ l) (m.length / 16 + k) = wK R (ZO R m) (yx m ++ l) k
 | 0 => z4F R 0 m l _ (by omega)
 | k + 1 => by
  show wK R 0 (m ++ l) (m.length / 16 + k + 1) = _
  rw [wK, wK, z4v R m l k, z5L]
theorem z2Z (m l : List Nat) : sS (wY m) (yx m).length l = yx m ++ l := by
 unfold sS
 congr 1
 apply List.ext_getElem
 ·simp
 ·intro j h1 h2
  simp only [List.getElem_map, List.getElem_range]
  unfold wY
  rw [List.getD_eq_getElem?_getD, List.getElem?_eq_getElem h2]; rfl
theorem z5W (m l : List Nat) : m.length / 16 + (yx m ++ l).length / 16 = (m ++ l).length / 16 := by
 rw [List.length_append, List.length_append, vE]; omega
theorem z4J (R : Nat) (m l : List Nat) : wK R (ZO R m) (yx m ++ l) ((yx m ++ l).length / 16) = ZO R (m ++ l) := by
 rw [← z4v, z5W]; rfl
theorem z1V (m l : List Nat) : (yx m ++ l).drop (16 * ((yx m ++ l).length / 16)) = yx (m ++ l) := by
 rw [← z5L, z5W]; rfl
theorem z8v : ∀ (L : List Nat), (∀ b ∈ L, b < 256) → ∀ i (h : i < L.length), leN L / 256 ^ i % 256 = L[i]
 | [], _, i, h => by simp at h
 | b :: L, hb, 0, _ => by
  have := hb b (by simp)
  simp only [leN, Nat.pow_zero, Nat.div_one, List.getElem_cons_zero]; omega
 | b :: L, hb, i + 1, h => by
  have := hb b (by simp)
  rw [Nat.pow_succ, Nat.mul_comm (256 ^ i), ← Nat.div_div_eq_div_mul]
  simp only [leN, List.getElem_cons_succ]
  rw [show (b + 256 * leN L) / 256 = leN L by omega]
  exact z8v L (fun x hx => hb x (by simp [hx])) i (by simpa using h)
theorem z5j {L : List Nat} (hb : ∀ b ∈ L, b < 256) {k : Nat} (hk : L.length = k) : xR (leN L) k = L := by
 apply List.ext_getElem
 ·simp [xR, hk]
 ·intro j h1 h2
  simp only [xR, List.getElem_map, List.getElem_range]
  exact z8v L hb j h2
theorem zkC {L : List Nat} (hb : ∀ b ∈ L, b < 256) (hl : 16 ≤ L.length) : lw (w8 L) = L.take 16 := by
 unfold lw w8
 rw [z5j (xW hb _ _) (by simp; omega), z5j (xW hb _ _) (by simp; omega)]
 rw [show 8 * 0 = 0 by rfl, List.drop_zero, show 8 * 1 = 8 by rfl, show (16 : Nat) = 8 + 8 by rfl, List.take_add]
theorem zhs (f g : Nat → Nat) {j : Nat} (h : g j = msk f j) : msk g j = msk f j := by
 unfold msk at *
 by_cases h1 : j < 16 ∧ j % 4 = 3
 ·rw [if_pos h1] at h ⊢
  rw [if_pos h1, h]
  have : (f j &&& 15) % 256 = f j &&& 15 := Nat.mod_eq_of_lt (Nat.lt_of_le_of_lt Nat.and_le_right (by decide))
  rw [this, Nat.and_assoc]; simp [this]
 ·rw [if_neg h1] at h ⊢
  rw [if_neg h1]
  by_cases h2 : 4 ≤ j ∧ j < 16 ∧ j % 4 = 0
  ·rw [if_pos h2] at h ⊢
   rw [if_pos h2, h]
   have : (f j &&& 252) % 256 = f j &&& 252 := Nat.mod_eq_of_lt (Nat.lt_of_le_of_lt Nat.and_le_right (by decide))
   rw [this, Nat.and_assoc]; simp [this]
  ·rw [if_neg h2] at h ⊢
   rw [if_neg h2, h]
theorem vF {f : Nat → Nat} (hf : ∀ j, j < 32 → f j < 256) : zO 2 (w8 (bL (kq (w8 (bL f))))) (w8 (bL f)) = true := by
 have hb := z28 hf
 have hl := z6r f
 rw [x9]
 intro j hj
 have hk : ∀ i, i < 16 → kq (w8 (bL f)) i = msk f i := fun i hi => by
  unfold kq
  rw [zkC hb (by omega), List.getD_eq_getElem?_getD, List.getElem?_take, if_pos hi, List.getElem?_eq_getElem (by omega)]
  simp [bL]
 unfold w8
 congr 1
 apply List.ext_getElem
 ·simp [z6r]
 ·intro i h1 h2
  have hi : i < 8 := by simp at h1; omega
  simp only [List.getElem_take, List.getElem_drop, bL, List.getElem_map, List.getElem_range]
  exact zhs f _ (hk _ (by omega))
theorem zi3 {r : Nat → Nat} {A n : Nat} {h : Nat → Nat} (hr : zO 2 (w8 (bL (kq r))) r = true) (hA : A < QQ) (hn : n < 16) (hh : ∀ j, n ≤ j → j < 16 → h j = 0) : (yE r (wd A) n && okh n h 16) = true := by
 have hA3 : A < 2 ^ 130 := Nat.lt_trans hA z13
 rw [Bool.and_eq_true]
 refine ⟨(ze1 hr (by omega) (by omega) (z3v hA3) ?_).symm, ?_⟩
 ·rw [z8i hA3, Nat.mod_eq_of_lt hA]
  exact x9.2 fun _ _ => rfl
 ·unfold okh
  rw [List.all_eq_true]
  intro j hj
  have hj := List.mem_range.1 hj
  by_cases hjn : j < n
  ·simp [hjn]
  ·simp [hh j (by omega) hj]
theorem XE {r : Nat → Nat} (hr : zO 2 (w8 (bL (kq r))) r = true) (R : Nat) (m : List Nat) : (yE r (wd (ZO R m)) ((yx m).length : Nat) && okh ((yx m).length : Nat) (wY m) 16) = true :=
 zi3 hr (Xs R m) (by rw [vE]; omega) fun j h1 _ => by
  unfold wY
  rw [List.getD_eq_getElem?_getD, List.getElem?_eq_none h1]; rfl
theorem Wg {m : List Nat} (hm : ∀ b ∈ m, b < 256) (j : Nat) : wY m j < 256 := ZW (zc5 hm) j
abbrev cP (f : Nat → Nat) (m : List Nat) : Array Value := cells 24 [pI .u64 2 (w8 (bL f)), pI .u64 2 (fun j => w8 (bL f) (j + 2)), pI .u64 3 (wd (ZO (k3 (w8 (bL f))) m)), pI .u8 16 (wY m), pV (.int .i64 ((yx m).length : Nat))]
abbrev stP (f : Nat → Nat) (m : List Nat) : Value := .agg (cP f m)
theorem z8g (f : Nat → Nat) : PV (w8 (bL f)) (fun j => w8 (bL f) (j + 2)) (fun _ => 0) (fun _ => 0) 0 = stP f [] := by
 have e1 : wd (ZO (k3 (w8 (bL f))) []) = fun _ => 0 := zhL
 have e2 : wY [] = fun _ => 0 := by funext i; simp [wY, yx]
 unfold stP cP
 rw [e1, e2]; rfl
def zfA (R : Nat) (m : List Nat) : Nat := if (yx m).length = 0 then ZO R m else pst R (ZO R m) (yx m)
def ptg (f : Nat → Nat) (m : List Nat) (i : Nat) : Nat := tgn (k3 (wd (zfA (k3 (w8 (bL f))) m))) (k3 fun j => w8 (bL f) (j + 2)) i
theorem zg0 (f : Nat → Nat) (m : List Nat) (i : Nat) : ptg f m i < 256 := Nat.mod_lt _ (by decide)
theorem z2s (m : List Nat) : (List.range (yx m).length).map (wY m) = yx m := by
 have := z2Z m []
 unfold sS at this
 simpa using this
def z1G (k nn : Nat → Nat) : Nat → Nat := fun j => Yi k 0 nn j
theorem z9B (k nn : Nat → Nat) : ∀ j, j < 32 → z1G k nn j < 256 := fun _ _ => zhX _ _ _ _
def Vb (l : List Nat) : List Nat := l ++ zrs ((16 - l.length % 16) % 16)
theorem YE (l : List Nat) : (Vb l).length ≤ l.length + 15 := by simp [Vb, wC]; omega
theorem z69 {l : List Nat} (h : ∀ b ∈ l, b < 256) : ∀ b ∈ Vb l, b < 256 := fun b hb => by
 rcases List.mem_append.1 hb with hb | hb
 ·exact h b hb
 ·exact zeZ _ b hb
def Z8 (ad b : List Nat) : List Nat := Vb ad ++ Vb b ++ xR ad.length 8 ++ xR b.length 8
theorem WM (ad b : List Nat) : (Z8 ad b).length ≤ ad.length + b.length + 46 := by
 have h1 := YE ad
 have h2 := YE b
 simp [Z8, zL]; omega
theorem z6k {ad b : List Nat} (h1 : ∀ x ∈ ad, x < 256) (h2 : ∀ x ∈ b, x < 256) : ∀ x ∈ Z8 ad b, x < 256 := fun x hx => by
 unfold Z8 at hx
 rcases List.mem_append.1 hx with hx | hx
 ·rcases List.mem_append.1 hx with hx | hx
  ·rcases List.mem_append.1 hx with hx | hx
   ·exact z69 h1 x hx
   ·exact z69 h2 x hx
  ·exact vZ _ _ x hx
 ·exact vZ _ _ x hx
def zgz (k nn : Nat → Nat) (ad b : List Nat) : List Nat := (List.range 16).map (ptg (z1G k nn) (Z8 ad b))
theorem z8r (k nn : Nat → Nat) (ad b : List Nat) : ∀ x ∈ zgz k nn ad b, x < 256 := yv fun _ _ => zg0 _ _ _
def Xa (k nn : Nat → Nat) (ad b : List Nat) : Prop := zgz k nn ad (b.take (b.length - 16)) = b.drop (b.length - 16)
def X0 (k nn : Nat → Nat) (b : List Nat) : List Nat := Zc k 1 nn (b.take (b.length - 16)) 0
theorem wh (k nn : Nat → Nat) (b : List Nat) : (X0 k nn b).length = b.length - 16 := by
 simp [X0, wA]
theorem zbi (k nn : Nat → Nat) : ∀ j, j < 32 → (if 0 + 0 * 1 ≤ j ∧ j < 0 + 0 * 1 + min ((List.range 32).map fun j => Yi k 0 nn (0 + j)).length (32 - 0) then ((List.range 32).map fun j => Yi k 0 nn (0 + j)).getD (j - (0 + 0 * 1)) 0 else 0) = z1G k nn j := fun j hj => by
 rw [if_pos (by simp; omega)]
 simp [List.getD_eq_getElem?_getD, hj, z1G]
abbrev cC (has : Bool) (k : Nat → Nat) (n : Nat) : Array Value := cells 34 [pV (.bool has), pI .u8 32 k, pV (u n)]
abbrev CV (has : Bool) (k : Nat → Nat) (n : Nat) : Value := .agg (cC has k n)
abbrev CZ : Value := .agg (cells 34 [pV (.bool false), pI .u8 32 (fun _ => 0), pV (.int .u64 0)])
def xy (n j : Nat) : Nat := if 4 ≤ j then n / 256 ^ (j - 4) % 256 else 0
theorem VT (n : Nat) : ∀ j, j < 12 → xy n j < 256 := fun j _ => by
 unfold xy
 split
 ·exact Nat.mod_lt _ (by decide)
 ·decide
theorem zbs (n : Nat) : ∀ j, j < 12 → (if 4 ≤ j ∧ j < 4 + min (xR n 8).length 8 then (xR n 8).getD (j - 4) 0 else 0) = xy n j := fun j hj => by
 unfold xy
 rw [zL]
 by_cases h : 4 ≤ j
 ·rw [if_pos ⟨h, by omega⟩, if_pos h, List.getD_eq_getElem?_getD]
  simp only [xR, List.getElem?_map, List.getElem?_range (show j - 4 < 8 by omega), Option.map_some, Option.getD_some]
 ·rw [if_neg (by omega), if_neg h]
def okC (has : Bool) (k : Nat → Nat) (n : Nat) : Bool := has || (decide (n = 0) && zO 32 k (fun _ => 0))
theorem zcA (has : Bool) (k : Nat → Nat) (n : Nat) : (has = true ∧ okC has k n = true) ∨ (has = false ∧ n ≠ 0 ∧ okC has k n = false) ∨ (has = false ∧ n = 0 ∧ zO 32 k (fun _ => 0) = false ∧ okC has k n = false) ∨ (has = false ∧ n = 0 ∧ zO 32 k (fun _ => 0) = true ∧ okC has k n = true) := by
 unfold okC
 cases has
 ·right
  by_cases h : n = 0
  ·right
   cases hk : zO 32 k (fun _ => 0)
   ·exact .inl ⟨rfl, h, rfl, by simp⟩
   ·exact .inr ⟨rfl, h, rfl, by simp [h]⟩
  ·exact .inl ⟨rfl, h, by simp [h]⟩
 ·exact .inl ⟨rfl, rfl⟩
abbrev ivL : List Nat := [1779033703, 3144134277, 1013904242, 2773480762, 1359893119, 2600822924, 528734635, 1541459225]
def ivf (j : Nat) : Nat := ivL.getD j 0
theorem zjE (j : Nat) : ivf j < 4294967296 := by
 unfold ivf
 rw [List.getD_eq_getElem?_getD]
 cases h : ivL[j]? with
 | none => simp
 | some b =>
  have : b ∈ ivL := List.mem_of_getElem? h
  have all : ∀ b ∈ ivL, b < 4294967296 := by decide +kernel
  exact all b this
abbrev z7F : List Nat := [0, 1, 2, 3, 4, 5, 6, 7, 8, 9, 10, 11, 12, 13, 14, 15, 14, 10, 4, 8, 9, 15, 13, 6, 1, 12, 0, 2, 11, 7, 5, 3, 11, 8, 12, 0, 5, 2, 15, 13, 10, 14, 3, 6, 7, 1, 9, 4, 7, 9, 3, 1, 13, 12, 11, 14, 2, 6, 5, 10, 4, 0, 15, 8,
 9, 0, 5, 7, 2, 4, 10, 15, 14, 1, 11, 12, 6, 8, 3, 13, 2, 12, 6, 10, 0, 11, 8, 3, 4, 13, 7, 5, 15, 14, 1, 9, 12, 5, 1, 15, 14, 13, 4, 10, 0, 7, 6, 3, 9, 2, 8, 11, 13, 11, 7, 14, 12, 1, 3, 9, 5, 0, 15, 4, 8, 6, 2, 10,
 6, 15, 14, 9, 11, 3, 0, 8, 12, 2, 13, 7, 1, 4, 10, 5, 10, 2, 8, 4, 7, 6, 1, 5, 15, 11, 9, 14, 3, 12, 13, 0]
def sig (r i : Nat) : Nat := z7F.getD (16 * r + i) 0
theorem wF (r i : Nat) : sig r i < 16 := by
 unfold sig
 rw [List.getD_eq_getElem?_getD]
 cases h : z7F[16 * r + i]? with
 | none => simp
 | some b =>
  have : b ∈ z7F := List.mem_of_getElem? h
  have all : ∀ b ∈ z7F, b < 16 := by decide +kernel
  exact all b this
def bq (a b d e x y : Nat) : Nat × Nat × Nat × Nat :=
 let a1 := (a + (b + x) % 4294967296) % 4294967296
 let e1 := wl ((e ^^^ a1) % 4294967296) 16
 let d1 := (d + e1) % 4294967296
 let b1 := wl ((b ^^^ d1) % 4294967296) 20
 let a2 := (a1 + (b1 + y) % 4294967296) % 4294967296
 let e2 := wl ((e1 ^^^ a2) % 4294967296) 24
 let d2 := (d1 + e2) % 4294967296
 let b2 := wl ((b1 ^^^ d2) % 4294967296) 25
 (a2, b2, d2, e2)
def brn (x y : Nat → Nat) (f : Nat → Nat) (t : Nat) : Nat :=
 let q := bq (f (t % 4)) (f (4 + t % 4)) (f (8 + t % 4)) (f (12 + t % 4)) (x (t % 4)) (y (t % 4))
 if t < 4 then q.1 else if t < 8 then q.2.1 else if t < 12 then q.2.2.1 else q.2.2.2
theorem XG {x y f s : Nat → Nat} {k : Nat} (hk : k < 4) (hs : ∀ t, t < 16 → s t = if t % 4 < k then brn x y f t else f t) (q : Nat × Nat × Nat × Nat) (hq : q = bq (s k) (s (4 + k)) (s (8 + k)) (s (12 + k)) (x k) (y k)) {g : Nat → Nat} (hg : g = fun t => if t = k then q.1 else if t = 4 + k then q.2.1 else if t = 8 + k then q.2.2.1 else if t = 12 + k then q.2.2.2 else s t) :
  ∀ t, t < 16 → g t = if t % 4 < k + 1 then brn x y f t else f t := by
 have e0 : s k = f k := by rw [hs k (by omega), if_neg (by omega)]
 have e1 : s (4 + k) = f (4 + k) := by rw [hs _ (by omega), if_neg (by omega)]
 have e2 : s (8 + k) = f (8 + k) := by rw [hs _ (by omega), if_neg (by omega)]
 have e3 : s (12 + k) = f (12 + k) := by rw [hs _ (by omega), if_neg (by omega)]
 rw [e0, e1, e2, e3] at hq
 intro t ht
 rw [hg]
 by_cases hm : t % 4 = k
 ·rw [if_pos (by omega)]
  unfold brn
  rw [hm, ← hq]
  have : t = k ∨ t = 4 + k ∨ t = 8 + k ∨ t = 12 + k := by omega
  rcases this with h | h | h | h
  ·simp only; rw [if_pos h, if_pos (by omega)]
  ·simp only; rw [if_neg (by omega), if_pos h, if_neg (by omega), if_pos (by omega)]
  ·simp only; rw [if_neg (by omega), if_neg (by omega), if_pos h, if_neg (by omega), if_neg (by omega), if_pos (by omega)]
  ·simp only; rw [if_neg (by omega), if_neg (by omega), if_neg (by omega), if_pos h, if_neg (by omega), if_neg (by omega), if_neg (by omega)]
 ·simp only
  rw [if_neg (by omega), if_neg (by omega), if_neg (by omega), if_neg (by omega), hs t ht]
  by_cases hlt : t % 4 < k
  ·rw [if_pos hlt, if_pos (by omega)]
  ·rw [if_neg hlt, if_neg (by omega)]
theorem VA (f : Nat → Nat) (a v : Nat) : upd f a v a = v := if_pos rfl
theorem yL (f : Nat → Nat) {a t : Nat} (v : Nat) (h : t ≠ a) : upd f a v t = f t := if_neg h
def shp (p : Nat) (f : Nat → Nat) (t : Nat) : Nat := f (4 * (t / 4) + (t % 4 + 4 + p * (t / 4)) % 4)
def shn (p : Nat) (f : Nat → Nat) (t : Nat) : Nat := f (4 * (t / 4) + (t % 4 + 4 - p * (t / 4)) % 4)
theorem zkJ (p : Nat) (f : Nat → Nat) {k j : Nat} (hj : j < 4) : f (4 * k + (j + 4 + p * k) % 4) = shp p f (4 * k + j) := by
 unfold shp
 rw [show (4 * k + j) / 4 = k by omega, show (4 * k + j) % 4 = j by omega]
theorem zkg (p : Nat) (f : Nat → Nat) {k j : Nat} (hj : j < 4) : f (4 * k + (j + 4 - p * k) % 4) = shn p f (4 * k + j) := by
 unfold shn
 rw [show (4 * k + j) / 4 = k by omega, show (4 * k + j) % 4 = j by omega]
def xw (l : List Nat) (r p c : Nat) : Nat := wrd l (sig r (8 * p + 2 * c))
def yw (l : List Nat) (r p c : Nat) : Nat := wrd l (sig r (8 * p + 2 * c + 1))
def z9b (l : List Nat) (r p : Nat) (g : Nat → Nat) : Nat → Nat := shn p (brn (xw l r p) (yw l r p) (shp p g))
def xN (l : List Nat) (r : Nat) (g : Nat → Nat) : Nat → Nat → Nat
 | 0 => g
 | p + 1 => z9b l r p (xN l r g p)
def brs (l : List Nat) (w : Nat → Nat) : Nat → Nat → Nat
 | 0 => w
 | r + 1 => xN l r (brs l w r) 2
def w00 (h : Nat → Nat) (t : Nat) : Nat := if t < 8 then h t else ivf (t - 8)
def w0 (h : Nat → Nat) (many : Nat) (last : Bool) (t : Nat) : Nat := if t = 12 then (w00 h 12 ^^^ many % 4294967296) % 4294967296 else if t = 14 ∧ last = true then (4294967295 ^^^ w00 h 14) % 4294967296 else w00 h t
def sqz (h : Nat → Nat) (l : List Nat) (many : Nat) (last : Bool) (t : Nat) : Nat := (h t ^^^ (brs l (w0 h many last) 10 t ^^^ brs l (w0 h many last) 10 (8 + t)) % 4294967296) % 4294967296
theorem zjb (h : Nat → Nat) (l : List Nat) (many : Nat) (last : Bool) (t : Nat) : sqz h l many last t < 4294967296 := Nat.mod_lt _ (by decide)
abbrev z3E : List Nat := [48, 49, 50, 51, 52, 53, 54, 55, 56, 57, 97, 98, 99, 100, 101, 102, 101, 97, 52, 56, 57, 102, 100, 54, 49, 99, 48, 50, 98, 55, 53, 51, 98, 56, 99, 48, 53, 50, 102, 100, 97, 101, 51, 54, 55, 49, 57, 52, 55, 57, 51, 49, 100, 99, 98, 101, 50, 54, 53, 97, 52, 48, 102, 56,
 57, 48, 53, 55, 50, 52, 97, 102, 101, 49, 98, 99, 54, 56, 51, 100, 50, 99, 54, 97, 48, 98, 56, 51, 52, 100, 55, 53, 102, 101, 49, 57, 99, 53, 49, 102, 101, 100, 52, 97, 48, 55, 54, 51, 57, 50, 56, 98, 100, 98, 55, 101, 99, 49, 51, 57, 53, 48, 102, 52, 56, 54, 50, 97,
 54, 102, 101, 57, 98, 51, 48, 56, 99, 50, 100, 55, 49, 52, 97, 53, 97, 50, 56, 52, 55, 54, 49, 53, 102, 98, 57, 101, 51, 99, 100, 48]
theorem zhQ : ∀ n, n < 160 → z3E[n]? = some (z3E.getD n 0) ∧ z3E.getD n 0 < 256 ∧ (97 ≤ z3E.getD n 0 → z3E.getD n 0 - 97 + 10 = z7F.getD n 0) ∧ (¬ 97 ≤ z3E.getD n 0 → 48 ≤ z3E.getD n 0 ∧ z3E.getD n 0 - 48 = z7F.getD n 0) := by decide +kernel
theorem XA {h s : Nat → Nat} {i : Nat} (hi : i < 8) (hs : ∀ t, t < 16 → s t = if t % 8 < i then w00 h t else 0) : ∀ t, t < 16 → upd (upd s i (h i)) (8 + i) (ivf i) t = if t % 8 < i + 1 then w00 h t else 0 := fun t ht => by
 unfold upd
 by_cases h1 : t = 8 + i
 ·rw [if_pos h1, if_pos (by omega)]
  unfold w00
  rw [if_neg (by omega), show t - 8 = i by omega]
 ·rw [if_neg h1]
  by_cases h2 : t = i
  ·rw [if_pos h2, if_pos (by omega)]
   unfold w00
   rw [if_pos (by omega), h2]
  ·rw [if_neg h2, hs t ht]
   by_cases h3 : t % 8 < i
   ·rw [if_pos h3, if_pos (by omega)]
   ·rw [if_neg h3, if_neg (by omega)]
theorem z4b {h s : Nat → Nat} {many : Nat} (hs : ∀ t, t < 16 → s t = if t % 8 < 8 then w00 h t else 0) : ∀ t, t < 16 → upd s 12 ((s 12 ^^^ many % 4294967296) % 4294967296) t = w0 h many false t := fun t ht => by
 have hw : ∀ t, t < 16 → s t = w00 h t := fun t ht => by rw [hs t ht, if_pos (by omega)]
 unfold upd w0
 by_cases h1 : t = 12
 ·rw [if_pos h1, if_pos h1, hw 12 (by decide)]
 ·rw [if_neg h1, if_neg h1, if_neg (by simp), hw t ht]
theorem zgp {h s : Nat → Nat} {many : Nat} (hs : ∀ t, t < 16 → s t = if t % 8 < 8 then w00 h t else 0) : ∀ t, t < 16 → upd (upd s 12 ((s 12 ^^^ many % 4294967296) % 4294967296)) 14 ((4294967295 ^^^ upd s 12 ((s 12 ^^^ many % 4294967296) % 4294967296) 14) % 4294967296) t = w0 h many true t := fun t ht => by
 have hw : ∀ t, t < 16 → s t = w00 h t := fun t ht => by rw [hs t ht, if_pos (by omega)]
 unfold upd w0
 by_cases h1 : t = 14
 ·rw [if_pos h1, if_neg (by omega), if_neg (by omega), if_pos ⟨h1, rfl⟩, hw 14 (by decide)]
 ·rw [if_neg h1]
  by_cases h2 : t = 12
  ·rw [if_pos h2, if_pos h2, hw 12 (by decide)]
  ·rw [if_neg h2, if_neg h2, if_neg (by simp [h1]), hw t ht]
theorem z1b {h s b1 : Nat → Nat} {l : List Nat} {many : Nat} {last : Bool} {q : Nat} (hq : q < 8) (hb : b1 = brs l (w0 h many last) 10) (hs : ∀ t, t < 8 → s t = if t < q then sqz h l many last t else h t) :
  ∀ t, t < 8 → upd s q ((s q ^^^ (b1 q ^^^ b1 (8 + q)) % 4294967296) % 4294967296) t = if t < q + 1 then sqz h l many last t else h t := fun t ht => by
 have e : s q = h q := by rw [hs q hq, if_neg (by omega)]
 unfold upd
 by_cases h1 : t = q
 ·rw [if_pos h1, if_pos (by omega), e, hb, h1]; rfl
 ·rw [if_neg h1, hs t ht]
  by_cases h2 : t < q
  ·rw [if_pos h2, if_pos (by omega)]
  ·rw [if_neg h2, if_neg (by omega)]
theorem z8d {h s : Nat → Nat} {l : List Nat} {many : Nat} {last : Bool} (hs : ∀ t, t < 8 → s t = if t < 8 then sqz h l many last t else h t) : arr .u32 8 s = arr .u32 8 (sqz h l many last) := zg fun t ht => by
 rw [hs t ht, if_pos ht]
theorem z9a {s : Nat → Nat} {k x y q1 q2 q3 q4 q5 q6 q7 q8 : Nat} (hk : k < 4) (h1 : q1 = (s k + (s (4 + k) + x) % 4294967296) % 4294967296)
  (h2 : q2 = wl ((upd s k q1 (12 + k) ^^^ upd s k q1 k) % 4294967296) 16)
  (h3 : q3 = (upd (upd s k q1) (12 + k) q2 (8 + k) + upd (upd s k q1) (12 + k) q2 (12 + k)) % 4294967296)
  (h4 : q4 = wl ((upd (upd (upd s k q1) (12 + k) q2) (8 + k) q3 (4 + k) ^^^ upd (upd (upd s k q1) (12 + k) q2) (8 + k) q3 (8 + k)) % 4294967296) 20)
  (h5 : q5 = (upd (upd (upd (upd s k q1) (12 + k) q2) (8 + k) q3) (4 + k) q4 k + (upd (upd (upd (upd s k q1) (12 + k) q2) (8 + k) q3) (4 + k) q4 (4 + k) + y) % 4294967296) % 4294967296)
  (h6 : q6 = wl ((upd (upd (upd (upd (upd s k q1) (12 + k) q2) (8 + k) q3) (4 + k) q4) k q5 (12 + k) ^^^ upd (upd (upd (upd (upd s k q1) (12 + k) q2) (8 + k) q3) (4 + k) q4) k q5 k) % 4294967296) 24)
  (h7 : q7 = (upd (upd (upd (upd (upd (upd s k q1) (12 + k) q2) (8 + k) q3) (4 + k) q4) k q5) (12 + k) q6 (8 + k) + upd (upd (upd (upd (upd (upd s k q1) (12 + k) q2) (8 + k) q3) (4 + k) q4) k q5) (12 + k) q6 (12 + k)) % 4294967296)
  (h8 : q8 = wl ((upd (upd (upd (upd (upd (upd (upd s k q1) (12 + k) q2) (8 + k) q3) (4 + k) q4) k q5) (12 + k) q6) (8 + k) q7 (4 + k) ^^^ upd (upd (upd (upd (upd (upd (upd s k q1) (12 + k) q2) (8 + k) q3) (4 + k) q4) k q5) (12 + k) q6) (8 + k) q7 (8 + k)) % 4294967296) 25) :
  upd (upd (upd (upd (upd (upd (upd (upd s k q1) (12 + k) q2) (8 + k) q3) (4 + k) q4) k q5) (12 + k) q6) (8 + k) q7) (4 + k) q8 = fun t => if t = k then (bq (s k) (s (4 + k)) (s (8 + k)) (s (12 + k)) x y).1 else if t = 4 + k then (bq (s k) (s (4 + k)) (s (8 + k)) (s (12 + k)) x y).2.1 else if t = 8 + k then (bq (s k) (s (4 + k)) (s (8 + k)) (s (12 + k)) x y).2.2.1 else if t = 12 + k then (bq (s k) (s (4 + k)) (s (8 + k)) (s (12 + k)) x y).2.2.2 else s t := by
 have ab : k ≠ 4 + k := by omega
 have ac : k ≠ 8 + k := by omega
 have ad : k ≠ 12 + k := by omega
 have bc : 4 + k ≠ 8 + k := by omega
 have bd : 4 + k ≠ 12 + k := by omega
 have cd : 8 + k ≠ 12 + k := by omega
 have ba := ab.symm
 have ca := ac.symm
 have da := ad.symm
 have cb := bc.symm
 have db := bd.symm
 have dc := cd.symm
 simp only [VA, yL _ _ ab, yL _ _ ac, yL _ _ ad, yL _ _ bc, yL _ _ bd, yL _ _ cd, yL _ _ ba, yL _ _ ca, yL _ _ da, yL _ _ cb, yL _ _ db, yL _ _ dc] at h1 h2 h3 h4 h5 h6 h7 h8
 have eA : (bq (s k) (s (4 + k)) (s (8 + k)) (s (12 + k)) x y) = (q5, q8, q7, q6) := by
  unfold bq
  simp only
  rw [← h1, ← h2, ← h3, ← h4, ← h5, ← h6, ← h7, ← h8]
 rw [eA]
 funext t
 by_cases ha : t = k
 ·subst ha
  simp only [VA, yL _ _ ab, yL _ _ ac, yL _ _ ad, if_pos]
 ·by_cases hb : t = 4 + k
  ·subst hb
   simp only [VA, if_neg ha, if_pos]
  ·by_cases hc : t = 8 + k
   ·subst hc
    simp only [VA, yL _ _ cb, if_neg ha, if_neg hb, if_pos]
   ·by_cases hd : t = 12 + k
    ·subst hd
     simp only [VA, yL _ _ db, yL _ _ dc, if_neg ha, if_neg hb, if_neg hc, if_pos]
    ·simp only [if_neg ha, if_neg hb, if_neg hc, if_neg hd, yL _ _ ha, yL _ _ hb, yL _ _ hc, yL _ _ hd]
theorem z4Y (l : List Nat) (w : Nat → Nat) : w = brs l w 0 := by rw [brs]
theorem z5o (l : List Nat) (w : Nat → Nat) (r : Nat) : xN l r (brs l w r) 2 = brs l w (r + 1) := by rw [brs]
theorem z0M (l : List Nat) (r : Nat) (g : Nat → Nat) : g = xN l r g 0 := by rw [xN]
theorem z0l (l : List Nat) (r : Nat) (g : Nat → Nat) (p : Nat) : shn p (brn (xw l r p) (yw l r p) (shp p (xN l r g p))) = xN l r g (p + 1) := by rw [xN, z9b]
theorem xX {r n : Nat} {k : IntKind} {f g : Nat → Nat} {t : TypeId} (h : f = g) : some (⟨r, arr k n f, t⟩ : Blk) = some ⟨r, arr k n g, t⟩ := by rw [h]
def z1s : Nat → Nat := upd ivf 0 ((ivf 0 ^^^ 16842784) % 4294967296)
def nbl (ln : Nat) : Nat := if ln % 64 = 0 ∧ 0 < ln then 64 else ln % 64
def okB (n ln : Nat) (d : Nat → Nat) : Bool := (List.range 64).all (fun j => decide (j < n) || decide (d j = 0)) && decide (n = nbl ln)
theorem YG {n ln : Nat} {d : Nat → Nat} {i : Nat} (hi : i < 64) (hge : n ≤ i) (hne : d i ≠ 0) : (!okB n ln d) = true := by
 have : okB n ln d = false := by
  unfold okB
  rw [Bool.and_eq_false_iff]
  left
  rw [List.all_eq_false]
  exact ⟨i, List.mem_range.2 hi, by simp [hne]; omega⟩
 rw [this]; rfl
theorem YK {n ln x : Nat} {d : Nat → Nat} (h : ∀ t, t < 64 → n ≤ t → d t = 0) (hx : nbl ln = x) : (!okB n ln d) = decide ((n : Int) ≠ (x : Int)) := by
 have e1 : ((List.range 64).all (fun j => decide (j < n) || decide (d j = 0))) = true := by
  rw [List.all_eq_true]
  intro j hj
  have hj := List.mem_range.1 hj
  by_cases hn : j < n
  ·simp [hn]
  ·simp [h j hj (by omega)]
 unfold okB
 rw [e1, hx, Bool.true_and]
 by_cases hnx : n = x
 ·subst hnx; simp
 ·have : ¬ (n : Int) = (x : Int) := by omega
  simp [hnx, this]
theorem Wi {n ln : Nat} {d : Nat → Nat} (h : okB n ln d = true) : n = nbl ln ∧ n ≤ ln ∧ n ≤ 64 ∧ (ln - n) % 64 = 0 ∧ ∀ j, n ≤ j → j < 64 → d j = 0 := by
 unfold okB at h
 rw [Bool.and_eq_true, List.all_eq_true] at h
 obtain ⟨h1, h2⟩ := h
 have e : n = nbl ln := of_decide_eq_true h2
 have e2 := e
 unfold nbl at e2
 refine ⟨e, ?_, ?_, ?_, fun j hj hj2 => ?_⟩
 ·split at e2 <;> omega
 ·split at e2 <;> omega
 ·split at e2 <;> omega
 ·have := h1 j (List.mem_range.2 hj2)
  have hn : ¬ j < n := by omega
  simpa [hn] using this
def Zb (h : Nat → Nat) (base : Nat) (S : List Nat) : Nat → Nat → Nat
 | 0 => h
 | k + 1 => sqz (Zb h base S k) ((S.drop (64 * k)).take 64) (base + 64 * (k + 1)) false
def yK (n : Nat) : Nat := (n - 1) / 64
theorem zgi {n k : Nat} (h1 : n - 64 * k ≤ 64) (h2 : k = 0 ∨ 64 * k < n) : k = yK n := by unfold yK; omega
theorem z6f (S : List Nat) (k : Nat) : ((S.drop (64 * k)).drop 64).take ((S.drop (64 * k)).length - 64) = S.drop (64 * (k + 1)) := by
 rw [List.drop_drop, List.take_of_length_le (by simp; omega), show 64 * k + 64 = 64 * (k + 1) by omega]
theorem z7e (L : List Nat) (h : L.length ≤ 64) : (fun i => if i < min L.length 64 then L.getD i 0 else 0) = fun i => L.getD i 0 := by
 funext i
 by_cases hi : i < min L.length 64
 ·rw [if_pos hi]
 ·rw [if_neg hi, List.getD_eq_getElem?_getD, List.getElem?_eq_none (by omega)]; rfl
def hol (w : Nat → Nat) : Nat → List Nat
 | 0 => []
 | i + 1 => hol w i ++ xR (w i) 4
theorem XF (w : Nat → Nat) : ∀ i, (hol w i).length = 4 * i
 | 0 => rfl
 | i + 1 => by rw [hol, List.length_append, XF w i, zL]; omega
theorem z6o (w : Nat → Nat) : ∀ i, ∀ b ∈ hol w i, b < 256
 | 0, b, h => by simp [hol] at h
 | i + 1, b, h => by
  rcases List.mem_append.1 h with h | h
  ·exact z6o w i b h
  ·exact vZ _ _ b h
def Yq (w : Nat → Nat) (j : Nat) : Nat := (hol w 8).getD j 0
theorem zej (w : Nat → Nat) (j : Nat) : Yq w j < 256 := ZW (z6o w 8) j
def yX (m : List Nat) : List Nat := m.drop (64 * yK m.length)
theorem za4 (m : List Nat) : (yX m).length = nbl m.length := by
 unfold yX yK nbl
 rw [List.length_drop]
 split <;> omega
theorem zel {m : List Nat} (h : ∀ b ∈ m, b < 256) : ∀ b ∈ yX m, b < 256 := fun b hb => h b (List.mem_of_mem_drop hb)
def Vq (m : List Nat) : Nat → Nat := Zb z1s 0 m (yK m.length)
def vm (m : List Nat) (i : Nat) : Nat := (yX m).getD i 0
theorem Xm {m : List Nat} (hm : ∀ b ∈ m, b < 256) (j : Nat) : vm m j < 256 := ZW (zel hm) j
theorem Xo (m : List Nat) : okB (yX m).length m.length (vm m) = true := by
 unfold okB
 rw [Bool.and_eq_true, List.all_eq_true]
 refine ⟨fun j _ => ?_, decide_eq_true (za4 m)⟩
 by_cases h : j < (yX m).length
 ·simp [h]
 ·have : vm m j = 0 := by
   unfold vm
   rw [List.getD_eq_getElem?_getD, List.getElem?_eq_none (by omega)]; rfl
  simp [this]
theorem z52 (m l : List Nat) : sS (vm m) (yX m).length l = yX m ++ l := by
 unfold sS
 congr 1
 apply List.ext_getElem
 ·simp
 ·intro j h1 h2
  simp only [List.getElem_map, List.getElem_range]
  unfold vm
  rw [List.getD_eq_getElem?_getD, List.getElem?_eq_getElem h2]; rfl
theorem z56 (h : Nat → Nat) (base : Nat) (m l : List Nat) : ∀ k, 64 * k ≤ m.length → Zb h base (m ++ l) k = Zb h base m k
 | 0, _ => rfl
 | k + 1, hk => by
  rw [Zb, Zb, z56 h base m l k (by omega), List.drop_append_of_le_length (by omega), List.take_append_of_le_length (by simp; omega)]
theorem VU (n : Nat) : 64 * yK n ≤ n := by unfold yK; omega
theorem z0k (m l : List Nat) (k : Nat) : (m ++ l).drop (64 * (yK m.length + k)) = (yX m ++ l).drop (64 * k) := by
 have e : (m ++ l).drop (64 * yK m.length) = yX m ++ l := List.drop_append_of_le_length (VU _)
 rw [← e, List.drop_drop, Nat.mul_add]
theorem z5S (m l : List Nat) : ∀ k, Zb z1s 0 (m ++ l) (yK m.length + k) = Zb (Vq m) (64 * yK m.length) (yX m ++ l) k
 | 0 => z56 z1s 0 m l _ (VU _)
 | k + 1 => by
  show Zb z1s 0 (m ++ l) (yK m.length + k + 1) = _
  rw [Zb, Zb, z5S m l k, z0k, show 0 + 64 * (yK m.length + k + 1) = 64 * yK m.length + 64 * (k + 1) by omega]
theorem z9f (m : List Nat) : m.length - (yX m).length = 64 * yK m.length := by
 have := VU m.length
 rw [show (yX m).length = m.length - 64 * yK m.length by simp [yX]]
 omega
theorem zcJ (m l : List Nat) : yK m.length + yK (yX m ++ l).length = yK (m ++ l).length := by
 have e : (yX m).length = m.length - 64 * yK m.length := by simp [yX]
 rw [List.length_append, List.length_append, e]
 unfold yK
 omega
theorem z5M (m l : List Nat) : Zb (Vq m) (64 * yK m.length) (yX m ++ l) (yK (yX m ++ l).length) = Vq (m ++ l) := by
 rw [← z5S, zcJ m l]; rfl
theorem z23 (m l : List Nat) : (yX m ++ l).drop (64 * yK (yX m ++ l).length) = yX (m ++ l) := by
 rw [← z0k, zcJ m l]; rfl
def vW (m : List Nat) (j : Nat) : Nat := if m.length ≤ 1073741824 then Yq (sqz (Vq m) ((List.range 64).map (vm m)) m.length true) j else Yq (sqz (fun _ => 0) ((List.range 64).map fun _ => 0) 0 true) j
theorem z32 (m : List Nat) (j : Nat) : vW m j < 256 := by unfold vW; split <;> exact zej _ _
abbrev cB (m : List Nat) : Array Value := cells 74 [pI .u32 8 (Vq m), pI .u8 64 (vm m), pV (.int .i64 ((yX m).length : Nat)), pV (.int .i64 (m.length : Nat))]
abbrev stB (m : List Nat) : Value := .agg (cB m)
theorem zbJ : vm [] = fun _ => 0 := by funext i; simp [vm, yX]
theorem zfy : Vq [] = z1s := rfl
theorem ze9 : okB 0 0 (fun _ => 0) = true := by decide
theorem z0h {m : List Nat} (h : m.length ≤ 1073741824) : vW m = Yq (sqz (Vq m) ((List.range 64).map (vm m)) m.length true) := by funext j; unfold vW; rw [if_pos h]
theorem z7o {m : List Nat} (h : ¬ m.length ≤ 1073741824) : vW m = Yq (sqz (fun _ => 0) ((List.range 64).map fun _ => 0) 0 true) := by funext j; unfold vW; rw [if_neg h]
def bsl (l : List Nat) : List Nat := (List.range 32).map (vW l)
theorem XU (l : List Nat) : (bsl l).length = 32 := by simp [bsl]
theorem z30 (l : List Nat) : ∀ b ∈ bsl l, b < 256 := yv fun _ _ => z32 _ _
def xm (l : List Nat) (c : Nat) : List Nat := l.map fun b => (b ^^^ c) % 256
theorem yj (l : List Nat) (c : Nat) : (xm l c).length = l.length := by simp [xm]
theorem XZ (l : List Nat) (c : Nat) : ∀ b ∈ xm l c, b < 256 := fun b hb => by
 obtain ⟨x, _, rfl⟩ := List.mem_map.1 hb
 exact Nat.mod_lt _ (by decide)
def xst (l : List Nat) (c i : Nat) : List Nat := xm (l.take i) c ++ l.drop i
theorem XV (l : List Nat) (c : Nat) : l = xst l c 0 := by simp [xst, xm]
theorem VI (l : List Nat) (c : Nat) {i : Nat} (h : i ≤ l.length) : (xst l c i).length = l.length := by simp [xst, yj]; omega
theorem XO (l : List Nat) (c : Nat) {i : Nat} (h : i < l.length) : (xst l c i).set i (((xst l c i).getD i 0 ^^^ c) % 256) = xst l c (i + 1) := by
 have hl : (xm (l.take i) c).length = i := by rw [yj, List.length_take]; omega
 unfold xst
 rw [List.set_append_right _ _ (by omega), hl, Nat.sub_self, List.getD_eq_getElem?_getD, List.getElem?_append_right (by omega), hl, Nat.sub_self, List.drop_eq_getElem_cons h]
 simp only [List.set_cons_zero, List.getElem?_cons_zero, Option.getD_some]
 rw [List.take_succ_eq_append_getElem h, xm, xm, List.map_append]
 simp only [List.map_cons, List.map_nil, List.append_assoc, List.cons_append, List.nil_append]
theorem VE (l : List Nat) (c : Nat) : xst l c l.length = xm l c := by simp [xst]
def z0H (k : List Nat) : List Nat := if 64 < k.length then bsl k else k
theorem Xt (k : List Nat) : (z0H k).length ≤ 64 := by unfold z0H; split <;> simp_all [XU]
theorem zi4 {k : List Nat} (h : ∀ b ∈ k, b < 256) : ∀ b ∈ z0H k, b < 256 := by
 unfold z0H; split
 ·exact z30 k
 ·exact h
def Xl (k : List Nat) : List Nat := z0H k ++ zrs (64 - (z0H k).length)
theorem z1d (k : List Nat) : (Xl k).length = 64 := by have := Xt k; simp [Xl, wC]; omega
theorem z9d {k : List Nat} (h : ∀ b ∈ k, b < 256) : ∀ b ∈ Xl k, b < 256 := fun b hb => by
 rcases List.mem_append.1 hb with hb | hb
 ·exact zi4 h b hb
 ·exact zeZ _ b hb
def mac (k s : List Nat) (j : Nat) : Nat := vW (xm (Xl k) 92 ++ bsl (xm (Xl k) 54 ++ s)) j
theorem Zf (k s : List Nat) (j : Nat) : mac k s j < 256 := z32 _ _
def zi5 (k s : List Nat) : List Nat := (List.range 32).map (mac k s)
theorem zcy (k s : List Nat) : (zi5 k s).length = 32 := by simp [zi5]
theorem zif (k s : List Nat) : ∀ b ∈ zi5 k s, b < 256 := yv fun _ _ => Zf _ _ _
theorem z3F {l : List Nat} {i : Nat} (h : i < l.length) : (l.map by8)[i]? = some (by8 (l.getD i 0)) := by
 rw [List.getElem?_map, List.getElem?_eq_getElem h, List.getD_eq_getElem?_getD, List.getElem?_eq_getElem h]; rfl
def vT (a b c : Nat → Nat) (t : Nat) : Nat := if t < 32 then a t else if t < 64 then b (t - 32) else c (t - 64)
def z6H (a b : Nat → Nat) (t : Nat) : Nat := if t < 32 then a t else b (t - 32)
def kT (c : Nat → Nat) (s : List Nat) : List Nat := zi5 ((List.range 32).map c) s
def kA (c : Nat → Nat) (s : List Nat) : Nat → Nat := mac (kT c s) [1]
def kB (c : Nat → Nat) (s : List Nat) : Nat → Nat := mac (kT c s) ((List.range 32).map (kA c s) ++ [2])
def kC (c : Nat → Nat) (s : List Nat) : Nat → Nat := mac (kT c s) ((List.range 32).map (kB c s) ++ [3])
theorem zis (c : Nat → Nat) (s : List Nat) : ∀ b ∈ kT c s, b < 256 := zif _ _
theorem zjC (c : Nat → Nat) (s : List Nat) : (kT c s).length = 32 := zcy _ _
theorem z3J {l : List Nat} {x : Nat} (h : ∀ b ∈ l, b < 256) (hx : x < 256) : ∀ b ∈ l ++ [x], b < 256 := fun b hb => by
 rcases List.mem_append.1 hb with hb | hb
 ·exact h b hb
 ·simp at hb; omega
abbrev cS (has : Bool) (k : Nat → Nat) (n : Nat) (ch h : Nat → Nat) : Array Value := cells 98 [pV (.bool has), pI .u8 32 k, pV (u n), pI .u8 32 ch, pI .u8 32 h]
abbrev SV (has : Bool) (k : Nat → Nat) (n : Nat) (ch h : Nat → Nat) : Value := .agg (cS has k n ch h)
theorem Z1 {N o l cap : Nat} {ps : List zW} (r k : Nat) (t : TypeId) (g : Nat → Nat) (hk : xe ps k = some (o, pI .u8 l g)) (hN : o + l ≤ N) (hc : l ≤ cap) : Shows [⟨r, cells N ps, t⟩] 1 (.slice (some ⟨r, o, none⟩) l cap) ((List.range l).map g).length (((List.range l).map g).map by8) := by
 have e : ((List.range l).map g).length = l := by simp
 refine .inr ⟨r, o, cap, cells N ps, t, by rw [e], by rw [e]; exact hc, by simp, by simp, by rw [e, cells, z3]; omega, fun j u hj => ?_⟩
 rw [List.getElem?_map, List.getElem?_map] at hj
 by_cases hl : j < l
 ·rw [List.getElem?_range hl] at hj
  simp at hj
  rw [cells, yD (by omega), xS hk j hl, ← hj]
 ·rw [List.getElem?_eq_none (by simpa using hl)] at hj
  cases hj
def hx (h : Nat → Nat) (l : List Nat) : Nat → Nat := vW ((List.range 32).map h ++ l)
theorem zkm (h : Nat → Nat) (l : List Nat) (j : Nat) : hx h l j < 256 := z32 _ _
theorem z8a {l k : List Nat} (h : ∀ b ∈ l, b < 256) (h2 : ∀ b ∈ k, b < 256) : ∀ b ∈ l ++ k, b < 256 := fun b hb => (List.mem_append.1 hb).elim (h b) (h2 b)
theorem z6y (a b c : Nat → Nat) : ∀ j, j < 32 → vT a b c (0 + j) = a j := fun j hj => by unfold vT; rw [if_pos (by omega), Nat.zero_add]
theorem z6m (a b c : Nat → Nat) : ∀ j, j < 32 → vT a b c (32 + j) = b j := fun j hj => by unfold vT; rw [if_neg (by omega), if_pos (by omega), Nat.add_sub_cancel_left]
theorem zeI (a b c : Nat → Nat) : ∀ j, j < 32 → vT a b c (64 + j) = c j := fun j hj => by unfold vT; rw [if_neg (by omega), if_neg (by omega), Nat.add_sub_cancel_left]
end Go.Proofs.YtlidhfijmcelpaaGreatDoor
namespace Go.Proofs.YtlidhfijmcelpaaGreatDoor
end Go.Proofs.YtlidhfijmcelpaaGreatDoor
namespace Go.Proofs.YtlidhfijmcelpaaGreatDoor
abbrev F := Fin PP
theorem zbr (a b : F) : (a * b).val = a.val * b.val % PP := Fin.val_mul a b
theorem zid {a b : F} (h : a.val = b.val) : a = b := Fin.ext h
end Go.Proofs.YtlidhfijmcelpaaGreatDoor
namespace Go.Proofs.YtlidhfijmcelpaaGreatDoor
set_option maxHeartbeats 4000000
end Go.Proofs.YtlidhfijmcelpaaGreatDoor
namespace Go.Proofs.YtlidhfijmcelpaaGreatDoor
set_option maxHeartbeats 1000000
end Go.Proofs.YtlidhfijmcelpaaGreatDoor
namespace Go.Proofs.YtlidhfijmcelpaaGreatDoor
set_option maxHeartbeats 1000000
end Go.Proofs.YtlidhfijmcelpaaGreatDoor
namespace Go.Proofs.YtlidhfijmcelpaaGreatDoor
set_option maxHeartbeats 1000000
end Go.Proofs.YtlidhfijmcelpaaGreatDoor
namespace Go.Proofs.YtlidhfijmcelpaaGreatDoor
set_option maxHeartbeats 1000000
end Go.Proofs.YtlidhfijmcelpaaGreatDoor
namespace Go.Proofs.YtlidhfijmcelpaaGreatDoor
set_option maxHeartbeats 1000000
end Go.Proofs.YtlidhfijmcelpaaGreatDoor
namespace Go.Proofs.YtlidhfijmcelpaaGreatDoor
def fv (x : Nat) : F := ⟨x % PP, Nat.mod_lt _ (by decide)⟩
theorem V8 (x : Nat) : (fv x).val = x % PP := rfl
theorem ziA {x : Nat} (h : x < PP) : (fv x).val = x := Nat.mod_eq_of_lt h
theorem z0T (x : Nat) : fv (x % PP) = fv x := zid (Nat.mod_mod x PP)
theorem z6N {x y : Nat} (hx : x < PP) (hy : y < PP) (h : fv x = fv y) : x = y := by
 have := congrArg Fin.val h
 rw [ziA hx, ziA hy] at this; exact this
theorem z0N (x y : Nat) : fv ((x + y) % PP) = fv x + fv y := by
 apply zid
 rw [Fin.val_add, V8, V8, V8, Nat.mod_mod, Nat.add_mod]
theorem z3Y (x y : Nat) : fv (x * y % PP) = fv x * fv y := by
 apply zid
 rw [zbr, V8, V8, V8, Nat.mod_mod, Nat.mul_mod]
theorem zip : fv PP = 0 := zid (Nat.mod_self PP)
theorem VC (x y : Nat) : fv (x + y) = fv x + fv y := by rw [← z0T, z0N]
theorem zjL {x y : Nat} (hy : y ≤ PP) : fv ((x + PP - y) % PP) = fv x - fv y := by
 have h : fv ((x + PP - y) + y) = fv (x + PP) := by rw [Nat.sub_add_cancel (by omega)]
 rw [VC, VC, zip] at h
 rw [z0T]
 generalize fv (x + PP - y) = a at *
 generalize fv x = b at *
 generalize fv y = c at *
 grobner
theorem WN {y : Nat} (hy : y ≤ PP) : fv ((PP - y) % PP) = -fv y := by
 have h : fv ((PP - y) + y) = fv PP := by rw [Nat.sub_add_cancel hy]
 rw [VC, zip] at h
 rw [z0T]
 generalize fv (PP - y) = a at *
 generalize fv y = c at *
 grobner
end Go.Proofs.YtlidhfijmcelpaaGreatDoor
namespace Go.Proofs.YtlidhfijmcelpaaGreatDoor
abbrev wa (x y : Nat) : Nat := (x + y) % PP
abbrev ZP (x : Nat) : Nat := (PP - x) % PP
abbrev wJ (x y : Nat) : Nat := x * y % PP
theorem We (x y : Nat) : wJ x y < PP := Nat.mod_lt _ (by decide)
def Wa (p : Nat × Nat) : Nat × Nat :=
 let a := wa p.1 p.2
 let b := wa p.1 (ZP p.2)
 let s := wJ a a
 let d := wJ b b
 let e := wa s (ZP d)
 (wJ s d, wJ e (wa d (wJ 121666 e)))
def vi (u : Nat) (p q : Nat × Nat) : Nat × Nat :=
 let a := wJ (wa p.1 (ZP p.2)) (wa q.1 q.2)
 let b := wJ (wa p.1 p.2) (wa q.1 (ZP q.2))
 let s := wa a b
 let d := wa a (ZP b)
 (wJ s s, wJ u (wJ d d))
def v6 (u n : Nat) : Nat → (Nat × Nat) × (Nat × Nat)
 | 0 => ((1, 0), (u, 1))
 | j + 1 => if n / 2 ^ (254 - j) % 2 = 1 then (vi u (v6 u n j).1 (v6 u n j).2, Wa (v6 u n j).2) else (Wa (v6 u n j).1, vi u (v6 u n j).1 (v6 u n j).2)
def z5e (u n : Nat) : Nat := wJ (v6 u n 255).1.1 ((v6 u n 255).1.2 ^ EE % PP)
def Lt2 (p : Nat × Nat) : Prop := p.1 < PP ∧ p.2 < PP
theorem z8C (p : Nat × Nat) : Lt2 (Wa p) := ⟨We _ _, We _ _⟩
theorem z4X (u : Nat) (p q : Nat × Nat) : Lt2 (vi u p q) := ⟨We _ _, We _ _⟩
theorem W5 {u : Nat} (hu : u < PP) (n : Nat) : ∀ j, Lt2 (v6 u n j).1 ∧ Lt2 (v6 u n j).2
 | 0 => ⟨⟨show 1 < PP by decide, show 0 < PP by decide⟩, ⟨hu, show 1 < PP by decide⟩⟩
 | j + 1 => by
  unfold v6
  split
  ·exact ⟨z4X _ _ _, z8C _⟩
  ·exact ⟨z8C _, z4X _ _ _⟩
theorem VM (u n : Nat) : z5e u n < PP := We _ _
end Go.Proofs.YtlidhfijmcelpaaGreatDoor
namespace Go.Proofs.YtlidhfijmcelpaaGreatDoor
open Go
theorem zjW (x : Nat) : fv (121666 * x % PP) = fv (121665 * x % PP) + fv x := by
 rw [z0T, z0T, show 121666 * x = 121665 * x + x by omega, VC]
theorem zkS {x z p m : Nat} (hz : z < PP) (hp : p = (x + z) % PP * ((x + z) % PP) % PP) (hm : m = (x + PP - z) % PP * ((x + PP - z) % PP) % PP) : p * m % PP = (Wa (x, z)).1 := by
 show _ = wJ (wJ (wa x z) (wa x z)) (wJ (wa x (ZP z)) (wa x (ZP z)))
 unfold wJ wa ZP
 rw [WY x z hz, ← hp, ← hm]
theorem zl7 {x z p m r : Nat} (hz : z < PP) (hp : p = (x + z) % PP * ((x + z) % PP) % PP) (hm : m = (x + PP - z) % PP * ((x + PP - z) % PP) % PP) (hr : r = (p + PP - m) % PP) :
  r * ((p + 121665 * r % PP) % PP) % PP = (Wa (x, z)).2 := by
 have hm2 : m < PP := by rw [hm]; exact Nat.mod_lt _ (by decide)
 have e : (Wa (x, z)).2 = r * ((m + 121666 * r % PP) % PP) % PP := by
  show wJ (wa (wJ (wa x z) (wa x z)) (ZP (wJ (wa x (ZP z)) (wa x (ZP z))))) (wa (wJ (wa x (ZP z)) (wa x (ZP z))) (wJ 121666 (wa (wJ (wa x z) (wa x z)) (ZP (wJ (wa x (ZP z)) (wa x (ZP z))))))) = _
  unfold wJ wa ZP
  rw [WY x z hz, ← hp, ← hm, WY p m hm2, ← hr]
 rw [e]
 apply z6N (Nat.mod_lt _ (by decide)) (Nat.mod_lt _ (by decide))
 rw [z3Y, z3Y, z0N, z0N, zjW, hr, zjL (Nat.le_of_lt hm2)]
 generalize fv (121665 * ((p + PP - m) % PP) % PP) = a
 generalize fv p = b
 generalize fv m = c
 clear e hr hm hp
 grobner
theorem zgT {x0 z0 x1 z1 a b : Nat} (h0 : z0 < PP) (h1 : z1 < PP) (u : Nat) (ha : a = (x1 + PP - z1) % PP * ((x0 + z0) % PP) % PP) (hb : b = (x1 + z1) % PP * ((x0 + PP - z0) % PP) % PP) :
  vi u (x1, z1) (x0, z0) = ((a + b) % PP * ((a + b) % PP) % PP, u * ((a + PP - b) % PP * ((a + PP - b) % PP) % PP) % PP) := by
 have h2 : b < PP := by rw [hb]; exact Nat.mod_lt _ (by decide)
 unfold vi wJ wa ZP
 simp only []
 rw [WY x1 z1 h1, WY x0 z0 h0, ← ha, ← hb, WY _ _ h2]
theorem z1c {x0 z0 x1 z1 : Nat} (h0 : z0 < PP) (h1 : z1 < PP) (u : Nat) : vi u (x1, z1) (x0, z0) = vi u (x0, z0) (x1, z1) := by
 unfold vi wJ wa ZP
 simp only []
 refine Prod.ext ?_ ?_
 ·apply z6N (Nat.mod_lt _ (by decide)) (Nat.mod_lt _ (by decide))
  simp only [z3Y, z0N, WN (Nat.le_of_lt h0), WN (Nat.le_of_lt h1)]
  generalize fv x0 = a
  generalize fv z0 = b
  generalize fv x1 = c
  generalize fv z1 = d
  grobner
 ·have e1 : (x1 + z1) % PP * ((x0 + (PP - z0) % PP) % PP) % PP ≤ PP := Nat.le_of_lt (Nat.mod_lt _ (by decide))
  have e2 : (x0 + z0) % PP * ((x1 + (PP - z1) % PP) % PP) % PP ≤ PP := Nat.le_of_lt (Nat.mod_lt _ (by decide))
  apply z6N (Nat.mod_lt _ (by decide)) (Nat.mod_lt _ (by decide))
  simp only [z3Y, z0N, WN (Nat.le_of_lt h0), WN (Nat.le_of_lt h1), WN e1, WN e2]
  generalize fv x0 = a
  generalize fv z0 = b
  generalize fv x1 = c
  generalize fv z1 = d
  generalize fv u = f
  clear e1 e2
  grobner
def z0t (f : Nat → Nat) : Nat → Nat := upd (upd f 0 (f 0 - f 0 % 8)) 31 (f 31 % 64 + 64)
def sec (f : Nat → Nat) : Nat := vb (z0t f) 32
theorem z97 {f : Nat → Nat} (hf : ∀ j, j < 32 → f j < 256) : ∀ j, j < 32 → z0t f j < 256 := fun j hj => by
 have h0 := hf 0 (by decide)
 have := hf j hj
 unfold z0t upd
 split
 ·omega
 ·split <;> omega
theorem zcm {g : Nat → Nat} (hg : ∀ j, j < 32 → g j < 256) (i : Nat) (hi : i < 255) : g (i / 8) / 2 ^ (i % 8) % 2 = vb g 32 / 2 ^ i % 2 := by
 have h := z8X g 32 hg (i / 8) (by omega)
 rw [← h]
 unfold bt
 generalize vb g 32 = x
 have e : i = 8 * (i / 8) + i % 8 := by omega
 conv => rhs; rw [e, Nat.pow_add, ← Nat.div_div_eq_div_mul]
 generalize x / 2 ^ (8 * (i / 8)) = y
 have hm := Nat.mod_lt i (show 0 < 8 by decide)
 generalize i % 8 = s at *
 have : s = 0 ∨ s = 1 ∨ s = 2 ∨ s = 3 ∨ s = 4 ∨ s = 5 ∨ s = 6 ∨ s = 7 := by omega
 rcases this with rfl | rfl | rfl | rfl | rfl | rfl | rfl | rfl <;> simp <;> omega
theorem zd6 {g : Nat → Nat} (hg : ∀ j, j < 32 → g j < 256) (i : Nat) (hi : i < 255) : (g (i / 8) / 2 ^ (i % 8) % 18446744073709551616 &&& 1) % 18446744073709551616 = vb g 32 / 2 ^ i % 2 := by
 rw [← zcm hg i hi, Nat.and_one_is_mod]
 have h1 : g (i / 8) / 2 ^ (i % 8) ≤ g (i / 8) := Nat.div_le_self _ _
 have h2 := hg (i / 8) (by omega)
 generalize g (i / 8) / 2 ^ (i % 8) = t at *
 omega
def swp (b : Nat) (L : (Nat × Nat) × (Nat × Nat)) : (Nat × Nat) × (Nat × Nat) := if b = 1 then (L.2, L.1) else L
theorem zdg {U N i : Nat} (hU : U < PP) (hi : i < 255) {L : (Nat × Nat) × (Nat × Nat)} {b : Nat} (hb : b = N / 2 ^ i % 2) (hL : L = swp b (v6 U N (255 - (i + 1)))) :
  swp b (Wa L.1, vi U L.1 L.2) = v6 U N (255 - i) := by
 have e : 255 - i = (254 - i) + 1 := by omega
 have e1 : 255 - (i + 1) = 254 - i := by omega
 have e2 : 254 - (254 - i) = i := by omega
 have hl := W5 hU N (254 - i)
 rw [e1] at hL
 rw [e]
 show _ = (if N / 2 ^ (254 - (254 - i)) % 2 = 1 then _ else _)
 rw [e2, ← hb, hL]
 unfold swp
 by_cases h : b = 1
 ·rw [if_pos h, if_pos h, if_pos h]
  have := z1c hl.1.2 hl.2.2 U (x0 := (v6 U N (254 - i)).1.1) (x1 := (v6 U N (254 - i)).2.1)
  exact Prod.ext this rfl
 ·rw [if_neg h, if_neg h, if_neg h]
theorem zjZ {b : Nat} {L : (Nat × Nat) × (Nat × Nat)} (h : Lt2 L.1 ∧ Lt2 L.2) : Lt2 (swp b L).1 ∧ Lt2 (swp b L).2 := by
 unfold swp; split
 ·exact ⟨h.2, h.1⟩
 ·exact h
def pnt (f : Nat → Nat) : Nat := vb f 32 % 2 ^ 255 % PP
theorem z3l (f : Nat → Nat) : pnt f < PP := Nat.mod_lt _ (by decide)
theorem zca : pnt (fun _ => 0) = 0 := by decide +kernel
theorem z8V {y : Nat} (hy : y < PP) : zO 32 (bt y) (fun _ => 0) = decide (y = 0) := by
 by_cases h : y = 0
 ·subst h
  rw [decide_eq_true rfl]
  exact x9.2 fun j _ => by unfold bt; simp
 ·rw [decide_eq_false h]
  cases hb : zO 32 (bt y) (fun _ => 0) with
  | false => rfl
  | true =>
   have h1 := x9.1 hb
   have h2 := zh5 y hy
   rw [Xv 32 h1] at h2
   exact absurd (show y = 0 from h2.symm.trans zca) h
end Go.Proofs.YtlidhfijmcelpaaGreatDoor
namespace Go.Proofs.YtlidhfijmcelpaaGreatDoor
open Go Go.RowKit
def ptf (p : Nat × Nat) : Nat → Nat := fun t => if t < 4 then wd p.1 t else wd p.2 (t - 4)
def rgf (L : (Nat × Nat) × (Nat × Nat)) : Nat → Nat := fun t => if t < 8 then ptf L.1 t else ptf L.2 (t - 8)
abbrev ptv (p : Nat × Nat) : Value := .agg (arr .u64 8 (ptf p))
abbrev rgv (L : (Nat × Nat) × (Nat × Nat)) : Value := .agg (arr .u64 16 (rgf L))
theorem zk3 (p : Nat × Nat) (t : Nat) : ptf p t < 18446744073709551616 := by
 unfold ptf; split <;> exact y7 _ _
theorem ziO (L : (Nat × Nat) × (Nat × Nat)) (t : Nat) : rgf L t < 18446744073709551616 := by
 unfold rgf; split <;> exact zk3 _ _
theorem zee (p : Nat × Nat) : Value.agg (arr .u64 4 (fun t => ptf p (0 + t))) = fe p.1 := by
 exact congrArg Value.agg (zg fun j hj => by unfold ptf; rw [Nat.zero_add, if_pos hj])
theorem zcR (p : Nat × Nat) : Value.agg (arr .u64 4 (fun t => ptf p (4 + t))) = fe p.2 := by
 exact congrArg Value.agg (zg fun j hj => by unfold ptf; rw [if_neg (by omega), Nat.add_sub_cancel_left])
theorem zev (L : (Nat × Nat) × (Nat × Nat)) : Value.agg (arr .u64 8 (fun t => rgf L (0 + t))) = ptv L.1 := by
 exact congrArg Value.agg (zg fun j hj => by unfold rgf; rw [Nat.zero_add, if_pos hj])
theorem zkR (L : (Nat × Nat) × (Nat × Nat)) : Value.agg (arr .u64 4 (fun t => rgf L (0 + t))) = fe L.1.1 := by
 rw [← zee]; exact congrArg Value.agg (zg fun j hj => by unfold rgf; rw [if_pos (by omega)])
theorem zkV (L : (Nat × Nat) × (Nat × Nat)) : Value.agg (arr .u64 4 (fun t => rgf L (4 + t))) = fe L.1.2 := by
 rw [← zcR]; exact congrArg Value.agg (zg fun j hj => by unfold rgf; rw [if_pos (by omega)])
theorem zl8 (L : (Nat × Nat) × (Nat × Nat)) : Value.agg (arr .u64 4 (fun t => rgf L (8 + t))) = fe L.2.1 := by
 rw [← zee]; exact congrArg Value.agg (zg fun j hj => by unfold rgf; rw [if_neg (by omega), Nat.add_sub_cancel_left, Nat.zero_add])
theorem zil (L : (Nat × Nat) × (Nat × Nat)) : Value.agg (arr .u64 4 (fun t => rgf L (12 + t))) = fe L.2.2 := by
 rw [← zcR]; exact congrArg Value.agg (zg fun j hj => by unfold rgf; rw [if_neg (by omega), show 12 + j - 8 = 4 + j by omega])
theorem VV (x z : Nat) : Instr.fill (fun i => some (i * 4, 4)) (arr .u64 8 fun _ => 0) [(0, fe x), (1, fe z)] = some (arr .u64 8 (ptf (x, z))) := by kernel_rfl
theorem z94 (p q : Nat × Nat) : Instr.fill (fun i => some (i * 8, 8)) (arr .u64 16 fun _ => 0) [(0, ptv p), (1, ptv q)] = some (arr .u64 16 (rgf (p, q))) := by kernel_rfl
def swt (n : Nat) (f : Nat → Nat) (c : Nat) : Nat → Nat := fun t => if t % 8 < c ∧ n = 1 then f ((t + 8) % 16) else f t
theorem zcg (n : Nat) (f : Nat → Nat) (t : Nat) : swt n f 0 t = f t := by
 unfold swt; rw [if_neg (by omega)]
theorem z2w {n a b : Nat} (hn : n ≤ 1) (ha : a < 18446744073709551616) (hb : b < 18446744073709551616) :
  (a ^^^ ((a ^^^ b) % 18446744073709551616 &&& (18446744073709551616 - n) % 18446744073709551616) % 18446744073709551616) % 18446744073709551616 = (if n = 1 then b else a) := by
 have hx : a ^^^ b < 2 ^ 64 := Nat.xor_lt_two_pow (by omega) (by omega)
 rw [Nat.mod_eq_of_lt (show a ^^^ b < 18446744073709551616 by omega)]
 have : n = 0 ∨ n = 1 := by omega
 rcases this with rfl | rfl
 ·simp; omega
 ·rw [if_pos rfl, show (18446744073709551616 - 1) % 18446744073709551616 = 2 ^ 64 - 1 by decide, Nat.and_two_pow_sub_one_eq_mod, Nat.mod_eq_of_lt hx, Nat.mod_eq_of_lt (show a ^^^ b < 18446744073709551616 by omega),
   ← Nat.xor_assoc, Nat.xor_self, Nat.zero_xor, Nat.mod_eq_of_lt hb]
theorem zaF {n c : Nat} {f s : Nat → Nat} (hn : n ≤ 1) (hf : ∀ t, f t < 18446744073709551616) (hc : c < 8) (hs : ∀ t, t < 16 → s t = swt n f c t) (w v1 v2 : Nat)
  (hw : w = ((s c ^^^ s (8 + c)) % 18446744073709551616 &&& (18446744073709551616 - n) % 18446744073709551616) % 18446744073709551616)
  (h1 : v1 = (s c ^^^ w) % 18446744073709551616) (h2 : v2 = (upd s c v1 (8 + c) ^^^ w) % 18446744073709551616) : ∀ t, t < 16 → upd (upd s c v1) (8 + c) v2 t = swt n f (c + 1) t := by
 have e3 : upd s c v1 (8 + c) = s (8 + c) := by unfold upd; rw [if_neg (by omega)]
 rw [e3] at h2
 have e1 : s c = f c := by rw [hs c (by omega)]; unfold swt; rw [if_neg (by omega)]
 have e2 : s (8 + c) = f (8 + c) := by rw [hs (8 + c) (by omega)]; unfold swt; rw [if_neg (by omega)]
 have w1 := z2w hn (hf c) (hf (8 + c))
 have w2 := z2w hn (hf (8 + c)) (hf c)
 rw [e1, e2] at hw
 rw [← hw] at w1
 rw [Nat.xor_comm (f (8 + c)) (f c), ← hw] at w2
 rw [e1, w1] at h1
 rw [e2, w2] at h2
 intro t ht
 unfold upd
 by_cases ha : t = 8 + c
 ·subst ha
  rw [if_pos rfl, h2]
  unfold swt
  by_cases hn1 : n = 1
  ·rw [if_pos hn1, if_pos ⟨by omega, hn1⟩, show (8 + c + 8) % 16 = c by omega]
  ·rw [if_neg hn1, if_neg (fun h => hn1 h.2)]
 ·rw [if_neg ha]
  by_cases hb : t = c
  ·subst hb
   rw [if_pos rfl, h1]
   unfold swt
   by_cases hn1 : n = 1
   ·rw [if_pos hn1, if_pos ⟨by omega, hn1⟩, show (t + 8) % 16 = 8 + t by omega]
   ·rw [if_neg hn1, if_neg (fun h => hn1 h.2)]
  ·rw [if_neg hb, hs t ht]
   unfold swt
   by_cases hn1 : t % 8 < c ∧ n = 1
   ·rw [if_pos hn1, if_pos ⟨by omega, hn1.2⟩]
   ·rw [if_neg hn1, if_neg (fun h => hn1 ⟨by omega, h.2⟩)]
theorem zg8 {n : Nat} {L : (Nat × Nat) × (Nat × Nat)} {s : Nat → Nat} (hs : ∀ t, t < 16 → s t = swt n (rgf L) 8 t) : arr .u64 16 s = arr .u64 16 (rgf (swp n L)) := zg fun t ht => by
 rw [hs t ht]
 unfold swt swp
 by_cases hn : n = 1
 ·rw [if_pos ⟨by omega, hn⟩, if_pos hn]
  unfold rgf
  by_cases h8 : t < 8
  ·rw [if_neg (by omega), if_pos h8, show (t + 8) % 16 - 8 = t by omega]
  ·rw [if_pos (by omega), if_neg h8, show (t + 8) % 16 = t - 8 by omega]
 ·rw [if_neg (fun h => hn h.2), if_neg hn]
theorem zgu : Value.agg (arr .u64 4 (fun _ => 0)) = fe 0 := congrArg Value.agg (zg fun j _ => by unfold wd; simp)
theorem zj3 : ∀ a, a < 256 → (a &&& 248) % 256 = a - a % 8 := by decide +kernel
theorem zjM : ∀ a, a < 256 → ((a &&& 127) % 256 ||| 64) % 256 = a % 64 + 64 := by decide +kernel
theorem zgS {f : Nat → Nat} (hf : ∀ j, j < 32 → f j < 256) {v0 v1 v2 : Nat} (h0 : v0 = (f 0 &&& 248) % 256) (h1 : v1 = (f 31 &&& 127) % 256) (h2 : v2 = (v1 ||| 64) % 256) :
  arr .u8 32 (upd (upd (upd f 0 v0) 31 v1) 31 v2) = arr .u8 32 (z0t f) := zg fun j hj => by
 subst h0 h1 h2
 unfold z0t upd
 by_cases h31 : j = 31
 ·subst h31; simp only [if_pos]; exact zjM _ (hf 31 (by decide))
 ·simp only [if_neg h31]
  split
  ·exact zj3 _ (hf 0 (by decide))
  ·rfl
theorem zep (a b : Nat) (ha : a < 256) (hb : b < 256) : (a ||| b) % 256 = 0 ↔ a = 0 ∧ b = 0 := by
 have h : a ||| b < 2 ^ 8 := Nat.or_lt_two_pow (by omega) (by omega)
 rw [Nat.mod_eq_of_lt (show a ||| b < 256 by omega)]
 constructor
 ·intro h0
  have l1 := Nat.left_le_or (n := a) (m := b)
  have l2 := Nat.right_le_or (n := a) (m := b)
  omega
 ·rintro ⟨rfl, rfl⟩; rfl
theorem zar {f : Nat → Nat} {s : Nat} (h : s = 0 ↔ ∀ j, j < 32 → f j = 0) : decide (((s : Nat) : Int) ≠ 0) = !zO 32 f (fun _ => 0) := by
 cases hb : zO 32 f (fun _ => 0) with
 | true =>
  have := h.2 (x9.1 hb)
  subst this; rfl
 | false =>
  have hne : ¬ s = 0 := fun h0 => by
   have := x9.2 (h.1 h0)
   rw [hb] at this; cases this
  simp; omega
theorem z6p {f : Nat → Nat} {s k : Nat} (hs : s < 256) (hk : f k < 256) (h : s = 0 ↔ ∀ j, j < k → f j = 0) : (s ||| f k) % 256 = 0 ↔ ∀ j, j < k + 1 → f j = 0 := by
 rw [zep _ _ hs hk, h]
 constructor
 ·rintro ⟨h1, h2⟩ j hj
  by_cases e : j = k
  ·subst e; exact h2
  ·exact h1 j (by omega)
 ·intro h1; exact ⟨fun j hj => h1 j (by omega), h1 k (by omega)⟩
end Go.Proofs.YtlidhfijmcelpaaGreatDoor
