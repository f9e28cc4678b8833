import Derived.Test.YtfldnikepdbgkaaDoorKx4
import Derived.ProofKit
import Derived.OpenShut
import Derived.LaidMore
import Derived.Lay
import Derived.MakeChecks
import Derived.Test.YtfldnikepdbgkaaDoorRows
namespace Go.Proofs.YtfldnikepdbgkaaDoor
open Go Go.RowKit
theorem or64_bits : ∀ p, p < 64 → ∀ q, q < 64 → IntKind.i64.wrap ((BitVec.ofNat 64 p ||| BitVec.ofNat 64 q).toNat : Int) = ((p ||| q : Nat) : Int) := by decide +kernel
theorem and64_bits : ∀ p, p < 64 → IntKind.i64.wrap ((BitVec.ofNat 64 p &&& 1#64).toNat : Int) = (p : Int) % 2 := by decide +kernel
section
variable {P : Program} {G : Mem} {R : Reg} {ops : Array Oper} {K : Act → Mem → Prop} {rest : List Oper} {a : Act} {m : Mem} {d : Option Tmp} {ty T T' : TypeId} {pos : String} {aft : Array Edge} {x y : Operand}
theorem st_or64 {p q : Nat} (hp : p < 64) (hq : q < 64) (hx : a.eval x = ii p) (hy : a.eval y = ii q) (h : opsM P G R ops K rest (a.put d (ii (p ||| q))) m) :
    opsM P G R ops K (⟨d, .binOp .or T x y T', ty, pos, aft, none⟩ :: rest) a m :=
  st_bin (fun w => by
    have := or64_bits p hp q hq
    simp only [hx, hy, eqGuard, binOp, Op.intBits, IntKind.bits]
    simp
    exact this) h
theorem st_and64 {p : Nat} (hp : p < 64) (hx : a.eval x = ii p) (hy : a.eval y = ii 1) (h : opsM P G R ops K rest (a.put d (ii (p % 2))) m) :
    opsM P G R ops K (⟨d, .binOp .and T x y T', ty, pos, aft, none⟩ :: rest) a m :=
  st_bin (fun w => by
    have := and64_bits p hp
    simp only [hx, hy, eqGuard, binOp, Op.intBits, IntKind.bits]
    simp
    exact this) h
end
section
variable {P : Program} {G : Mem} {R : Reg} {ops : Array Oper} {n : Nat} {K : Env → Mm → Prop} {rest : List Oper} {E : Env} {M : Mm} {d : Nat} {ty T T' : TypeId} {pos : String} {aft : Array Edge} {x y : Operand}
theorem e_or64 {p q : Nat} (hp : p < 64) (hq : q < 64) (hx : rd E x = some (ii p)) (hy : rd E y = some (ii q)) (hd : Nat.blt d n = true) (h : OpsE P G R ops n K rest ((d, ii (p ||| q)) :: E) M) :
    OpsE P G R ops n K (⟨some d, .binOp .or T x y T', ty, pos, aft, none⟩ :: rest) E M := fun _ _ ha hM => st_or64 hp hq (ha.rd hx) (ha.rd hy) (h _ _ (ha.put hd _) hM)
theorem e_and64 {p : Nat} (hp : p < 64) (hx : rd E x = some (ii p)) (hy : rd E y = some (ii 1)) (hd : Nat.blt d n = true) (h : OpsE P G R ops n K rest ((d, ii (p % 2)) :: E) M) :
    OpsE P G R ops n K (⟨some d, .binOp .and T x y T', ty, pos, aft, none⟩ :: rest) E M := fun _ _ ha hM => st_and64 hp (ha.rd hx) (ha.rd hy) (h _ _ (ha.put hd _) hM)
end
end Go.Proofs.YtfldnikepdbgkaaDoor
namespace Go.Proofs.YtfldnikepdbgkaaDoor
open Go Go.RowKit
def secN (i : Nat) : Nat := [1, 2, 3, 4, 10, 11].getD i 0
def secU (k i : Nat) : List Int := (plcU k i).map fun n => (secN n : Int)
abbrev secL (k : Nat) : List Int := secU k 6
theorem secU_yes {k i : Nat} (h : k / 2 ^ i % 2 = 1) : secU k (i + 1) = secU k i ++ [(secN i : Int)] := by unfold secU; rw [plcU_yes h, List.map_append]; rfl
theorem secU_no {k i : Nat} (h : ¬ k / 2 ^ i % 2 = 1) : secU k (i + 1) = secU k i := by unfold secU; rw [plcU_no h]
theorem secU_len (k : Nat) : ∀ i, (secU k i).length ≤ i
  | 0 => by unfold secU plcU; simp
  | i + 1 => by
    have := secU_len k i
    by_cases h : k / 2 ^ i % 2 = 1
    · rw [secU_yes h, List.length_append]; simp only [List.length_singleton]; omega
    · rw [secU_no h]; omega
theorem sec_in {k i : Nat} {z : Int} (h : z ∈ secU k i) : ∃ n, n < i ∧ k / 2 ^ n % 2 = 1 ∧ z = (secN n : Int) := by
  unfold secU plcU at h
  obtain ⟨n, hn, rfl⟩ := List.mem_map.1 h
  obtain ⟨h1, h2⟩ := List.mem_filter.1 hn
  exact ⟨n, List.mem_range.1 h1, of_decide_eq_true h2, rfl⟩
theorem sec_mem {k i n : Nat} (h1 : n < i) (h2 : k / 2 ^ n % 2 = 1) : (secN n : Int) ∈ secU k i := by
  unfold secU plcU
  exact List.mem_map.2 ⟨n, List.mem_filter.2 ⟨List.mem_range.2 h1, decide_eq_true h2⟩, rfl⟩
theorem sec_small {k : Nat} {z : Int} (h : z ∈ secL k) : 0 ≤ z ∧ z < 20 := by
  obtain ⟨n, hn, _, rfl⟩ := sec_in h
  have : secN n < 20 := by
    match n, hn with
    | 0, _ | 1, _ | 2, _ | 3, _ | 4, _ | 5, _ => decide
    | n + 6, hn => omega
  omega
theorem sec_or : ∀ a, a < 64 → ∀ b, b < 64 → ∀ n, n < 6 → a / 2 ^ n % 2 = 1 → (a ||| b) / 2 ^ n % 2 = 1 := by decide +kernel
theorem sec_more {a b : Nat} (ha : a < 64) (hb : b < 64) {z : Int} (h : z ∈ secL a) : z ∈ secL (a ||| b) := by
  obtain ⟨n, hn, h1, rfl⟩ := sec_in h
  exact sec_mem hn (sec_or a ha b hb n hn h1)
def pairK (k : Int) : List (Nat × Nat) := if k = 3 then [(3, 4)] else if k = 4 then [(3, 2)] else if k = 5 then [(1, 4)] else if k = 6 then [(1, 2)] else []
def prsOf (l : List Int) : List (Nat × Nat) := l.flatMap pairK
def sngOf (l : List Int) : List Nat := (List.range (cnt7 l)).map fun n => 10 + n
def prC (l : List (Nat × Nat)) : List Value := l.flatMap fun p => [ii p.1, ii p.2]
def sgC (l : List Nat) : List Value := l.map fun n => ii n
theorem prs_snoc (l : List Int) (k : Int) : prsOf (l ++ [k]) = prsOf l ++ pairK k := by unfold prsOf; rw [List.flatMap_append]; simp
theorem prC_snoc (l : List (Nat × Nat)) (p : Nat × Nat) : prC (l ++ [p]) = prC l ++ [ii p.1, ii p.2] := by unfold prC; rw [List.flatMap_append]; simp
theorem cnt_snoc (l : List Int) (k : Int) : cnt7 (l ++ [k]) = cnt7 l + (if k = 7 then 1 else 0) := by
  rw [cnt_app]; unfold cnt7
  by_cases h : k = 7
  · rw [if_pos h, List.filter_cons, if_pos (by simpa using h)]; rfl
  · rw [if_neg h, List.filter_cons, if_neg (by simpa using h)]; rfl
theorem sng_snoc (l : List Int) (k : Int) : sngOf (l ++ [k]) = sngOf l ++ (if k = 7 then [10 + cnt7 l] else []) := by
  unfold sngOf
  rw [cnt_snoc]
  by_cases h : k = 7
  · rw [if_pos h, if_pos h, List.range_succ, List.map_append]; rfl
  · rw [if_neg h, if_neg h]; simp
theorem sng_len (l : List Int) : (sngOf l).length = cnt7 l := by unfold sngOf; simp
theorem pair_len (k : Int) : (pairK k).length ≤ 1 := by unfold pairK; repeat' split
                                                        all_goals simp
theorem prs_len (l : List Int) : (prsOf l).length ≤ l.length := by
  induction l with
  | nil => simp [prsOf]
  | cons k l ih =>
    have := pair_len k
    unfold prsOf at ih ⊢
    rw [List.flatMap_cons, List.length_append, List.length_cons]; omega
theorem cnt_len (l : List Int) : cnt7 l ≤ l.length := List.length_filter_le _ _
def noP (zs : List Int) (p : Nat × Nat) : Bool := !decide ((p.1 : Int) ∈ zs) && !decide ((p.2 : Int) ∈ zs)
def noS (zs : List Int) (n : Nat) : Bool := !decide ((n : Int) ∈ zs)
def wantT (zs : List Int) (l : List Int) : Bool := (prsOf l).any (noP zs) || (sngOf l).any (noS zs)
theorem want_ok {zs : List Int} : ∀ (n : Nat) (l : List Int), l.length = n → (∀ k ∈ l, 1 ≤ k ∧ k ≤ 7) → wantT zs l = !(okTks zs 0 l) := by
  intro n
  induction n with
  | zero => intro l hl _; rw [List.length_eq_zero_iff.1 hl]; rfl
  | succ n ih =>
    intro l hl h
    obtain ⟨q, k, rfl⟩ : ∃ q k, l = q ++ [k] := ⟨l.dropLast, l.getLast (by intro e; rw [e] at hl; cases hl), (List.dropLast_concat_getLast _).symm⟩
    have hq := ih q (by simpa using hl) fun k hk => h k (List.mem_append_left _ hk)
    have hk := h k (by simp)
    rw [okTks_app, Nat.zero_add]
    have e1 : okTks zs (cnt7 q) [k] = okTk zs (cnt7 q) k := by simp [okTks]
    rw [e1]
    have e2 : wantT zs (q ++ [k]) = (wantT zs q || !(okTk zs (cnt7 q) k)) := by
      unfold wantT
      rw [prs_snoc, sng_snoc, List.any_append, List.any_append]
      have hw : k = 1 ∨ k = 2 ∨ k = 3 ∨ k = 4 ∨ k = 5 ∨ k = 6 ∨ k = 7 := by omega
      cases (prsOf q).any (noP zs) <;> cases (sngOf q).any (noS zs) <;> rcases hw with rfl | rfl | rfl | rfl | rfl | rfl | rfl <;> simp [pairK, okTk, agF, agO, noP, noS]
    rw [e2, hq]
    cases okTks zs 0 q <;> cases okTk zs (cnt7 q) k <;> rfl
def nodF : Nat → TT → Nat
  | 0, _ => 0
  | n + 1, t => 1 + (t.args.map (nodF n)).sum
def depF : Nat → TT → Bool
  | 0, _ => false
  | n + 1, t => t.args.all (depF n)
theorem dep_ok : ∀ (n : Nat) (t : TT), depF n t = true → t.deep ≤ n ∧ t.nodes = nodF n t
  | 0, t, h => by cases h
  | n + 1, t, h => by
    have h := List.all_eq_true.1 h
    rw [TT.deep_eq, TT.nodes_eq]
    refine ⟨?_, ?_⟩
    · have : deepL t.args ≤ n := deepL_le.2 fun a ha => (dep_ok n a (h a ha)).1
      omega
    · show _ = 1 + _
      congr 1
      exact congrArg List.sum (List.map_congr_left fun a ha => (dep_ok n a (h a ha)).2)
def isPub (j : Int) (t : TT) : Bool := decide (t.kind = 2) && decide (t.id = j) && decide (t.other = 0) && t.args.isEmpty
theorem isPub_eq {j : Int} {t : TT} (h : isPub j t = true) : t = pubT j := by
  unfold isPub at h
  simp only [Bool.and_eq_true, decide_eq_true_eq, List.isEmpty_iff] at h
  obtain ⟨⟨⟨h1, h2⟩, h3⟩, h4⟩ := h
  cases t
  simp only at h1 h2 h3 h4
  rw [h1, h2, h3, h4]
theorem pub_mem {j : Int} {l : List TT} (h : l.any (isPub j) = true) : pubT j ∈ l := by
  obtain ⟨t, ht, e⟩ := List.any_eq_true.1 h
  exact isPub_eq e ▸ ht
def hidK (k m : Nat) : Bool :=
  let n := nmK k
  let ps := psK k m
  let p0 := ci (wq n (ci ps) 0)
  let p1 := ci (wq n (ci ps) 1)
  let ts := (wt n (ci ps)).map ci
  let w := toldW (decide (n = nXF)) ps.length p0 p1 ts
  decide (ps.length ≤ 4) && decide (2 ≤ ts.length) && decide (ts.length ≤ 5) && decide (cnt7 (toksTo ts ts.length) ≤ 10) && ((w.told ++ earlyT p0 p1).any (isPub 3) && (w.told ++ earlyT p0 p1).any (isPub 4)) && ((w.told ++ pubsT p0 p1).all (depF 40) && decide (((w.told ++ pubsT p0 p1).map (nodF 40)).sum ≤ 290)) && ts.all fun l => l.all fun x => decide (1 ≤ x) && decide (x ≤ 7)
theorem hidK_all : ∀ k, k < 6 → ∀ m, m < 16 → hidK k m = true := by decide +kernel
abbrev prF (a b : Nat) (j : Nat) : Nat := if j = 0 then a else b
theorem prC_at {l : List (Nat × Nat)} {i : Nat} (h : i < l.length) : ((prC l).drop (i * 2)).take 2 = [ii (l[i]).1, ii (l[i]).2] := by
  have key : ∀ (l : List (Nat × Nat)) (i : Nat) (h : i < l.length), ((prC l).drop (i * 2)).take 2 = [ii (l[i]).1, ii (l[i]).2] := by
    intro l
    induction l with
    | nil => intro i h; cases h
    | cons p l ih =>
      intro i h
      cases i with
      | zero => rfl
      | succ i =>
        have := ih i (by simpa using h)
        rw [show (i + 1) * 2 = i * 2 + 2 by omega]
        exact this
  exact key l i h
theorem prC_len (l : List (Nat × Nat)) : (prC l).length = l.length * 2 := by
  induction l with
  | nil => rfl
  | cons p l ih =>
    have : prC (p :: l) = ii p.1 :: ii p.2 :: prC l := rfl
    rw [this, List.length_cons, List.length_cons, ih, List.length_cons]; omega
theorem sgC_at {l : List Nat} {i : Nat} (h : i < l.length) : (sgC l)[i]? = some (ii l[i]) := by
  unfold sgC; rw [List.getElem?_map, List.getElem?_eq_getElem h]; rfl
theorem sec_at {i : Nat} (h : i < 6) : (([1, 2, 3, 4, 10, 11].map fun n : Nat => ii n).toArray.toList)[i]? = some (ii (secN i)) := by
  match i, h with
  | 0, _ | 1, _ | 2, _ | 3, _ | 4, _ | 5, _ => rfl
  | i + 6, h => omega
theorem pr_ones {f : Nat → Nat} : ∀ u ∈ (arr .i64 2 f).toList, u.oneCell' = true := fun u hu => by
  obtain ⟨a, _, rfl⟩ : ∃ a, a < 2 ∧ ii (f a) = u := by simpa [arr] using hu
  rfl
def MixD (l : List Int) (v : Value) (nw : Mem) : Prop := ∃ w1 w2, v = .tuple #[w1, w2] ∧ Shows nw 2 w1 (prsOf l).length (prC (prsOf l)) ∧ Shows nw 1 w2 (sngOf l).length (sgC (sngOf l))
theorem slice_room {z n : Nat} {xs : List Value} (e : TypeId) (h : xs.length = n * z) (m : Mem) : ∃ v r, Shows [⟨r, xs.toArray, e⟩] z v n xs ∧ ∀ y ∈ m, y.b ≠ r := by
  obtain ⟨r, hr⟩ := fresh_of m
  exact ⟨_, r, shows_new xs.toArray e (by simpa using h), hr⟩
theorem mixD_room (e e' : TypeId) (l : List Int) (m : Mem) : ∃ v nw, MixD l v nw ∧ FreshM m nw := by
  obtain ⟨w1, r1, h1, f1⟩ := slice_room (z := 2) (n := (prsOf l).length) (xs := prC (prsOf l)) e (prC_len _) m
  obtain ⟨w2, r2, h2, f2⟩ := slice_room (z := 1) (n := (sngOf l).length) (xs := sgC (sngOf l)) e' (by unfold sgC; simp) (m ++ [⟨r1, (prC (prsOf l)).toArray, e⟩])
  refine ⟨_, [⟨r1, (prC (prsOf l)).toArray, e⟩] ++ [⟨r2, (sgC (sngOf l)).toArray, e'⟩], ⟨w1, w2, rfl, h1.mono fun x hx => List.mem_append_left _ hx, h2.mono fun x hx => List.mem_append_right _ hx⟩, ?_, fun x hx y hy => ?_⟩
  · have := f2 ⟨r1, (prC (prsOf l)).toArray, e⟩ (by simp)
    have this : r1 ≠ r2 := this
    simp [this]
  · simp only [List.mem_append, List.mem_singleton] at hx
    rcases hx with rfl | rfl
    · exact f1 y hy
    · exact f2 y (List.mem_append_left _ hy)
theorem tokl_le {ts : List (List Int)} (h6 : ∀ i, i < ts.length → (ts.getD i []).length ≤ 6) : ∀ a, a ≤ ts.length → (toksTo ts a).length ≤ 6 * a
  | 0, _ => by simp [toksTo]
  | a + 1, h => by
    have h1 := tokl_le h6 a (by omega)
    have h2 := h6 a (by omega)
    rw [toks_next (by omega), List.length_append]; omega
theorem toks_b {ts : List (List Int)} {a b : Nat} (h : b < (ts.getD a []).length) : toksTo ts a ++ (ts.getD a []).take (b + 1) = toksTo ts a ++ (ts.getD a []).take b ++ [(ts.getD a []).getD b 0] := by
  have e : (ts.getD a []).getD b 0 = (ts.getD a [])[b] := by
    generalize ts.getD a [] = l at h
    rw [List.getD_eq_getElem?_getD, List.getElem?_eq_getElem h]; rfl
  rw [List.take_succ_eq_append_getElem h, List.append_assoc, e]
theorem toks_a {ts : List (List Int)} {a b : Nat} (h : a < ts.length) (hb : b = (ts.getD a []).length) : toksTo ts (a + 1) = toksTo ts a ++ (ts.getD a []).take b := by
  rw [toks_next h, hb, List.take_length]
theorem take_getD {l : List Value} {n a : Nat} (h : a < n) (hl : a < l.length) : (l.take (n * 1))[a]? = some (l.getD a undef) := by
  rw [Nat.mul_one, List.getElem?_take_of_lt h, List.getD_eq_getElem?_getD, List.getElem?_eq_getElem hl]; rfl
theorem pair3 {k : Int} (h : k = 3) : pairK k = [(3, 4)] := if_pos h
theorem pair4 {k : Int} (h : k = 4) : pairK k = [(3, 2)] := by subst h; rfl
theorem pair5 {k : Int} (h : k = 5) : pairK k = [(1, 4)] := by subst h; rfl
theorem pair6 {k : Int} (h : k = 6) : pairK k = [(1, 2)] := by subst h; rfl
theorem pair_no {k : Int} (h3 : k ≠ 3) (h4 : k ≠ 4) (h5 : k ≠ 5) (h6 : k ≠ 6) : pairK k = [] := by unfold pairK; rw [if_neg h3, if_neg h4, if_neg h5, if_neg h6]
theorem sgC_snoc (l : List Nat) (n : Nat) : sgC (l ++ [n]) = sgC l ++ [ii n] := by unfold sgC; rw [List.map_append]; rfl
theorem any_next {α : Type} {p : α → Bool} {l : List α} {i : Nat} (h : i < l.length) : (l.take (i + 1)).any p = ((l.take i).any p || p l[i]) := by
  rw [List.take_succ_eq_append_getElem h, List.any_append]; simp
theorem any_is (l : List Int) (k : Int) : (l.any fun x => decide (x = k)) = decide (k ∈ l) := by
  induction l with
  | nil => simp
  | cons y l ih => rw [List.any_cons, ih]; by_cases h : k = y <;> simp [h, eq_comm]
theorem any_anyI {p : Int → Bool} {l : List Int} {i : Nat} (hi : i < l.length) (h : p (l.getD i 0) = true) : l.any p = true := by
  rw [List.any_eq_true]
  rw [List.getD_eq_getElem?_getD, List.getElem?_eq_getElem hi] at h
  exact ⟨_, List.getElem_mem hi, h⟩
theorem any_noneI {p : Int → Bool} {l : List Int} (h : ∀ j, j < l.length → p (l.getD j 0) = false) : l.any p = false := by
  rw [List.any_eq_false]
  intro x hx
  obtain ⟨j, hj, rfl⟩ := List.mem_iff_getElem.1 hx
  have := h j hj
  rw [List.getD_eq_getElem?_getD, List.getElem?_eq_getElem hj] at this
  simpa using this
theorem nodes_atoms (zs : List Int) : nodesL (zs.map atomT) = zs.length := by
  induction zs with
  | nil => rfl
  | cons z zs ih =>
    have : nodesL ((z :: zs).map atomT) = (atomT z).nodes + nodesL (zs.map atomT) := by simp [nodesL]
    rw [this, ih, TT.nodes_eq]; simp [nodesL]; omega
structure HidF (late : Bool) (np : Nat) (p0 p1 : List Int) (ts : List (List Int)) : Prop where
  np4 : np ≤ 4
  two : 2 ≤ ts.length
  five : ts.length ≤ 5
  used : cnt7 (toksTo ts ts.length) ≤ 10
  h3 : pubT 3 ∈ (toldW late np p0 p1 ts).told ++ earlyT p0 p1
  h4 : pubT 4 ∈ (toldW late np p0 p1 ts).told ++ earlyT p0 p1
  nodes : nodesL ((toldW late np p0 p1 ts).told ++ pubsT p0 p1) ≤ 290
  deep : ∀ t ∈ (toldW late np p0 p1 ts).told ++ pubsT p0 p1, t.deep ≤ 40
  toks : ∀ l ∈ ts, ∀ x ∈ l, 1 ≤ x ∧ x ≤ 7
theorem hid_open {k m : Nat} (hk : k < 6) (hm : m < 16) : HidF (decide (nmK k = nXF)) (psK k m).length (ci (wq (nmK k) (ci (psK k m)) 0)) (ci (wq (nmK k) (ci (psK k m)) 1)) ((wt (nmK k) (ci (psK k m))).map ci) := by
  have h := hidK_all k hk m hm
  simp only [hidK, Bool.and_eq_true, decide_eq_true_eq] at h
  obtain ⟨⟨⟨⟨⟨⟨h1, h2⟩, h3⟩, h4⟩, h5, h6⟩, h7, h8⟩, h9⟩ := h
  rw [List.all_eq_true] at h7 h9
  refine ⟨h1, h2, h3, h4, pub_mem h5, pub_mem h6, ?_, fun t ht => (dep_ok 40 t (h7 t ht)).1, fun l hl x hx => ?_⟩
  · have : nodesL ((toldW (decide (nmK k = nXF)) (psK k m).length (ci (wq (nmK k) (ci (psK k m)) 0)) (ci (wq (nmK k) (ci (psK k m)) 1)) ((wt (nmK k) (ci (psK k m))).map ci)).told ++ pubsT (ci (wq (nmK k) (ci (psK k m)) 0)) (ci (wq (nmK k) (ci (psK k m)) 1))) = _ := congrArg List.sum (List.map_congr_left fun t ht => (dep_ok 40 t (h7 t ht)).2)
    rw [this]; exact h8
  · have := List.all_eq_true.1 (h9 l hl) x hx
    simpa using this
theorem HidF.fits {late : Bool} {np : Nat} {p0 p1 : List Int} {ts : List (List Int)} (h : HidF late np p0 p1 ts) {zs : List Int} (hz : zs.length ≤ 6) : fitsL (hidL late np p0 p1 ts zs).flatten = true := by
  have e : (hidL late np p0 p1 ts zs).flatten = ((toldW late np p0 p1 ts).told ++ pubsT p0 p1) ++ zs.map atomT := by
    simp only [hidL, List.flatten_cons, List.flatten_nil, List.append_nil, List.append_assoc]
  rw [e]
  have h1 := h.nodes
  refine fits_of (by rw [nodesL_app, nodes_atoms]; omega) fun t ht => ?_
  rcases List.mem_append.1 ht with ht | ht
  · exact h.deep t ht
  · obtain ⟨z, _, rfl⟩ := List.mem_map.1 ht
    rw [TT.deep_eq]; simp [deepL, mx]
theorem HidF.toksOk {late : Bool} {np : Nat} {p0 p1 : List Int} {ts : List (List Int)} (h : HidF late np p0 p1 ts) (i : Nat) : ∀ k ∈ toksTo ts i, 1 ≤ k ∧ k ≤ 7 := fun k hk => by
  unfold toksTo at hk
  obtain ⟨l, hl, hk⟩ := List.mem_flatten.1 hk
  exact h.toks l (List.mem_of_mem_take hl) k hk
theorem HidF.just {late : Bool} {np : Nat} {p0 p1 : List Int} {ts : List (List Int)} (h : HidF late np p0 p1 ts) {zs : List Int} {i : Nat} (hi : i < ts.length) (hz : ∀ z ∈ zs, z < 20) : (!(wantT zs (toksTo ts (i + 1)))) = true ↔ KN (hidL late np p0 p1 ts zs).flatten (atomT ((20 + i : Nat) : Int)) := by
  rw [hid_known hi hz h.used h.h3 h.h4, want_ok _ _ rfl (h.toksOk (i + 1)), Bool.not_not]
theorem okTks_mono {zs zt : List Int} (h : ∀ z ∈ zs, z ∈ zt) : ∀ (l : List Int) (u : Nat), okTks zs u l = true → okTks zt u l = true
  | [], _, _ => rfl
  | k :: l, u, hk => by
    rw [okTks, Bool.and_eq_true] at hk ⊢
    refine ⟨?_, okTks_mono h l _ hk.2⟩
    have h1 := hk.1
    unfold okTk at h1 ⊢
    split
    · rfl
    rename_i h12
    rw [if_neg h12] at h1
    split
    · rename_i h7
      rw [if_pos h7] at h1
      exact decide_eq_true (h _ (of_decide_eq_true h1))
    · rename_i h7
      rw [if_neg h7] at h1
      rw [Bool.or_eq_true, decide_eq_true_eq, decide_eq_true_eq] at h1 ⊢
      exact h1.imp (h _) (h _)
theorem pat_li3 {B : Mem} {va vb : Value} {q0 q1 : List Nat} {us : List (List Nat)} {tvs : List Value} (h0 : Shows B 1 va q0.length ((ci q0).map iv)) (h1 : Shows B 1 vb q1.length ((ci q1).map iv)) (h : ShowsLI B tvs (us.map ci)) : ShowsLI B (va :: vb :: tvs) (ci q0 :: ci q1 :: us.map ci) :=
  li_tail (pat_li (vp := nilS) (ps := []) ((shows_nil [] 1).mono fun x hx => by cases hx) h0 h1 h)
theorem want_mono {late : Bool} {np : Nat} {p0 p1 : List Int} {ts : List (List Int)} (h : HidF late np p0 p1 ts) {zs zt : List Int} (hz : ∀ z ∈ zs, z ∈ zt) (i : Nat) {al le : Bool} (ha : al = wantT zt (toksTo ts i)) (hl : le = wantT zs (toksTo ts i)) : al = false ∨ (al = true ∧ le = true) := by
  rw [want_ok _ _ rfl (h.toksOk i)] at ha hl
  cases e : okTks zs 0 (toksTo ts i) with
  | true =>
    have := okTks_mono hz _ _ e
    rw [this] at ha
    exact .inl ha
  | false =>
    rw [e] at hl
    cases al
    · exact .inl rfl
    · exact .inr ⟨rfl, hl⟩
theorem ee_hides {l : List Int} {y la : Bool} (hy : y = (prsOf l).any fun p => allEq 2 (prF p.1 p.2) (prF 3 4)) (hl : la = wantT [1, 2] l) : y = false ∨ (y = true ∧ la = true) := by
  cases y with
  | false => exact .inl rfl
  | true =>
    refine .inr ⟨rfl, ?_⟩
    obtain ⟨p, hp, e⟩ := List.any_eq_true.1 hy.symm
    have e := allEq_iff.1 e
    have e1 : p.1 = 3 := e 0 (by decide)
    have e2 : p.2 = 4 := e 1 (by decide)
    rw [hl, wantT, Bool.or_eq_true]
    refine .inl (List.any_eq_true.2 ⟨p, hp, ?_⟩)
    unfold noP; rw [e1, e2]; decide
theorem just_end {zs l : List Int} {wn y y2 : Bool} {x x2 : Nat} (hw : wn = wantT zs l) (h0 : x = (prsOf l).length) (h1 : x2 = (sngOf l).length) (hy : y = ((prsOf l).take x).any (noP zs)) (hy2 : y2 = (y || ((sngOf l).take x2).any (noS zs))) : (wn == y2) = true := by
  subst h0 h1
  rw [List.take_length] at hy hy2
  rw [hw, hy2, hy, wantT]; exact beq_self_eq_true _
theorem pkn64 (z : Int) : pkn z 64 < 64 := pkn_lt z (by decide)
end Go.Proofs.YtfldnikepdbgkaaDoor
namespace Go.Proofs.YtfldnikepdbgkaaDoor
open Go.ChangeShapes Go.WideShapes Go.ChangeAt Go.RowKit
section
variable {P : Program} {W : World}
def RdT (P : Program) (W : World) (t : TypeId) (cs : List Value) (d : DataW Unit) : Prop := ∃ fuel p, DataW.trod (fun _ => ()) P W 0 (fun _ => true) false fuel t cs = some (d, p)
def VarT (P : Program) (W : World) (n : String) (d : DataW Unit) : Prop := ∃ g t cs, P.globalNamed n = some g ∧ (P.globals[g]?).map (·.type) = some t ∧ W.var? P n = some cs ∧ RdT P W t cs.toList d
theorem laid_vars : ∀ {l : List (String × DataW Unit)} {ps : List MemPlace}, DataW.LaidVars P W l ps → ∀ x ∈ l, VarT P W x.1 x.2
  | [], _, _, x, hx => absurd hx List.not_mem_nil
  | (n, d) :: r, ps, h, x, hx => by
    obtain ⟨g, t, cs, fuel, p, q, h1, h2, h3, h4, h5, _⟩ := h
    rcases List.mem_cons.1 hx with rfl | hx
    · exact ⟨g, t, cs, h1, h2, h3, fuel, p, h4⟩
    · exact laid_vars h5 x hx
theorem laid_metH {l : List (String × DataW Unit)} (hp : (l.all fun x => x.2.handleName?.isNone) = true) (h : laidMetH P l W) : ∀ x ∈ l, VarT P W x.1 x.2 := by
  rw [MakeChecks.laidMetH_plain _ _ _ hp] at h
  obtain ⟨ps, h1, _⟩ := h
  exact laid_vars h1
theorem cut_one {cs : List Value} {r : Nat} {v : Value} (h : (cs.drop r).take 1 = [v]) : cs[r]? = some v := by
  have h0 : ((cs.drop r).take 1)[0]? = some v := by rw [h]; rfl
  simpa using h0
theorem memR_nil : MemR [] W := fun _ h => absurd h List.not_mem_nil
theorem memR_cons {x : Blk} {m : Mem} (h : RIn W x) (hm : MemR m W) : MemR (x :: m) W := fun y hy => by
  rcases List.mem_cons.1 hy with rfl | hy
  · exact h
  · exact hm y hy
theorem memR_app {m m' : Mem} (h : MemR m W) (hm : MemR m' W) : MemR (m ++ m') W := fun y hy => by
  rcases List.mem_append.1 hy with hy | hy
  · exact h y hy
  · exact hm y hy
end
end Go.Proofs.YtfldnikepdbgkaaDoor
namespace Go.Proofs.YtfldnikepdbgkaaDoor
open Go Go.ChangeShapes Go.WideShapes Go.ChangeAt Go.RowKit
section
variable {H : Type} {enc : TypeId × Value → H} {P : Program} {t e : TypeId}
end
end Go.Proofs.YtfldnikepdbgkaaDoor
namespace Go.Proofs.YtfldnikepdbgkaaDoor
open Go Go.ChangeShapes Go.WideShapes Go.ChangeAt Go.RowKit
section
variable {P : Program} {W : World}
theorem rd_texts {N : Nat} {e T : TypeId} {ws : List (List UInt8)} {cs : List Value} (hT : P.underlying T = some (.array N e)) (he : P.underlying e = some .string) (hc : P.cellsOf e = 1) (h : RdT P W T cs (.agg (ws.map fun s => .lit (.string s)))) : ∀ r, r < N → cs[r]? = some (.string ⟨(ws.getD r []).toArray⟩) := by
  obtain ⟨fuel, p, hd⟩ := h
  obtain ⟨xs, m, _, ex, _, hl, hel⟩ := DataW.trod_array hT hd
  have e3 : (xs.map (·.1)) = ws.map fun s => .lit (.string s) := (DataW.agg.inj (Prod.mk.inj ex).1).symm
  have hlen : ws.length = N := by
    have := congrArg List.length e3
    simpa [hl] using this.symm
  intro r hr
  have hE := hel r hr
  rw [hc, Nat.mul_one, List.getElem?_eq_getElem (by omega)] at hE
  obtain ⟨z, e1, e2, _⟩ := DataW.trod_string he hE
  have e4 : (xs.map (·.1))[r]? = (ws.map fun s => (DataW.lit (.string s) : DataW Unit))[r]? := by rw [e3]
  rw [List.getElem?_map, List.getElem?_map, List.getElem?_eq_getElem (by omega : r < xs.length), List.getElem?_eq_getElem (by omega : r < ws.length), e2] at e4
  have hz : z.data.toList = ws.getD r [] := by
    simp only [Option.map_some, Option.some.injEq, DataW.lit.injEq, Lit.string.injEq] at e4
    rw [e4, List.getD, List.getElem?_eq_getElem (by omega : r < ws.length)]; rfl
  rw [← hz]
  exact cut_one e1
theorem rin_row {n : String} {g : Nat} {T : TypeId} {c : Array Value} {d : DataW Unit} (hg : P.globalNamed n = some g) (ht : (P.globals[g]?).map (·.type) = some T) (hN : 0 < c.size) (h : VarT P W n d) (hr : ∀ cs, RdT P W T cs d → ∀ r, r < c.size → cs[r]? = c[r]?) : RIn W ⟨g, c, T⟩ := by
  obtain ⟨g', t, cs, h1, h2, h3, h4⟩ := h
  obtain rfl := Option.some.inj (hg.symm.trans h1)
  obtain rfl := Option.some.inj (ht.symm.trans h2)
  have key : ∀ r, r < c.size → W.cell? ⟨g, r, none⟩ = c[r]? := fun r hrr => by
    rw [World.var?_cell hg h3 r]
    have := hr cs.toList h4 r hrr
    simpa using this
  refine ⟨?_, fun o ho => key o ho⟩
  have h0 := key 0 hN
  rw [Array.getElem?_eq_getElem hN] at h0
  unfold World.cell? at h0
  cases hh : W.heap[g]? with
  | none => rw [hh] at h0; cases h0
  | some b => exact (Array.getElem?_eq_some_iff.1 hh).1
end
section
variable {H : Type} {enc : TypeId × Value → H} {P : Program} {t : TypeId}
end
end Go.Proofs.YtfldnikepdbgkaaDoor
namespace Go.Proofs.YtfldnikepdbgkaaDoor
open Go.ChangeShapes Go.WideShapes Go.ChangeAt Go.RowKit
theorem laid_signet_signetkeep_bases_rin {W : World} (h : VarT Tryd.prog W "signet/signetkeep.bases" Rows.laid_signet_signetkeep_bases) : RIn W (⟨0, (nm6.map sv).toArray, 41⟩ : Blk) :=
  rin_row (by kernel_rfl) (by kernel_rfl) (by decide) h fun cs hc r hr => by
    have hr : r < 6 := hr
    rw [rd_texts (N := 6) (ws := [[78, 78], [78, 75], [88, 88], [73, 75], [88, 75], [75, 75]]) (show Tryd.prog.underlying 41 = some (.array 6 9) by kernel_rfl) (by kernel_rfl) (by kernel_rfl) hc r hr]
    have : r = 0 ∨ r = 1 ∨ r = 2 ∨ r = 3 ∨ r = 4 ∨ r = 5 := by omega
    rcases this with rfl | rfl | rfl | rfl | rfl | rfl <;> rfl
end Go.Proofs.YtfldnikepdbgkaaDoor
namespace Go.Proofs.YtfldnikepdbgkaaDoor
open Go Go.ChangeShapes Go.WideShapes Go.ChangeAt Go.RowKit
section
variable {H : Type} {enc : TypeId × Value → H} {P : Program} {w : World} {base : Nat} {spare : Nat → Bool} {held : Bool}
theorem trodAll_five {t0 t1 t2 t3 t4 : TypeId} {args : Array Value} {ds : List (DataW H)} {ps : List MemPlace} (h : DataW.TrodAll enc P w base spare held [t0, t1, t2, t3, t4] args.toList ds ps) :
    ∃ v0 v1 v2 v3 v4 d0 d1 d2 d3 d4 p0 p1 p2 p3 p4, args = #[v0, v1, v2, v3, v4] ∧ ds = [d0, d1, d2, d3, d4] ∧ ps = p0 ++ p1 ++ p2 ++ p3 ++ p4 ∧ DataW.Trod enc P w base spare held t0 v0 d0 p0 ∧ DataW.Trod enc P w base spare held t1 v1 d1 p1 ∧ DataW.Trod enc P w base spare held t2 v2 d2 p2 ∧ DataW.Trod enc P w base spare held t3 v3 d3 p3 ∧ DataW.Trod enc P w base spare held t4 v4 d4 p4 := by
  obtain ⟨v0, vs0, d0, ds0, p0, q0, hargs, rfl, rfl, h0, hr0⟩ := trodAll_cons h
  obtain ⟨v1, vs1, d1, ds1, p1, q1, rfl, rfl, rfl, h1, hr1⟩ := trodAll_cons hr0
  obtain ⟨v2, vs2, d2, ds2, p2, q2, rfl, rfl, rfl, h2, hr2⟩ := trodAll_cons hr1
  obtain ⟨v3, vs3, d3, ds3, p3, q3, rfl, rfl, rfl, h3, hr3⟩ := trodAll_cons hr2
  obtain ⟨v4, vs4, d4, ds4, p4, q4, rfl, rfl, rfl, h4, hr4⟩ := trodAll_cons hr3
  obtain ⟨rfl, rfl, rfl⟩ := trodAll_nil hr4
  exact ⟨v0, v1, v2, v3, v4, d0, d1, d2, d3, d4, p0, p1, p2, p3, p4, by cases args; simp_all, rfl, by simp, h0, h1, h2, h3, h4⟩
theorem trodAll_mk5 {t0 t1 t2 t3 t4 : TypeId} {v0 v1 v2 v3 v4 : Value} {d0 d1 d2 d3 d4 : DataW H} {p0 p1 p2 p3 p4 : List MemPlace} (h0 : DataW.Trod enc P w base spare held t0 v0 d0 p0) (h1 : DataW.Trod enc P w base spare held t1 v1 d1 p1) (h2 : DataW.Trod enc P w base spare held t2 v2 d2 p2) (h3 : DataW.Trod enc P w base spare held t3 v3 d3 p3) (h4 : DataW.Trod enc P w base spare held t4 v4 d4 p4) : DataW.TrodAll enc P w base spare held [t0, t1, t2, t3, t4] [v0, v1, v2, v3, v4] [d0, d1, d2, d3, d4] (p0 ++ (p1 ++ (p2 ++ (p3 ++ p4)))) := ⟨p0, (p1 ++ (p2 ++ (p3 ++ p4))), h0, trodAll_mk4 h1 h2 h3 h4, rfl⟩
end
end Go.Proofs.YtfldnikepdbgkaaDoor
/-
  Facts on this program's types, in tables.
-/
namespace Go.Proofs.YtfldnikepdbgkaaDoor
open Go Go.RowKit
def lkT {α : Type} : List (Nat × α) → Nat → Option α
  | [], _ => none
  | (k, a) :: l, t => bif Nat.beq k t then some a else lkT l t
theorem lkT_map {α : Type} {f : Nat → Option α} : ∀ {L : List (Nat × α)} {t : Nat} {d : α}, L.map (fun p => f p.1) = L.map (fun p => some p.2) → lkT L t = some d → f t = some d
  | [], _, _, _, h => by cases h
  | (k, a) :: L, t, d, h, hk => by
    rw [List.map_cons, List.map_cons, List.cons.injEq] at h
    unfold lkT at hk
    cases hb : Nat.beq k t with
    | true => rw [hb] at hk; rw [← Nat.eq_of_beq_eq_true hb, h.1]; exact hk
    | false => rw [hb] at hk; exact lkT_map h.2 hk
theorem mixed : Tryd.prog.follows .mixedOrders = true := by kernel_rfl
def tbu : List (Nat × TypeDesc) := [(3, (.int .i64)), (4, (.bool)), (9, (.string)), (22, (.slice 3)), (23, (.array 2 22)), (24, (.slice 22)), (26, (.struct #[.mk "Base" 9 0 false "" "" 0, .mk "Late" 4 1 false "" "" 16, .mk "Psks" 22 2 false "" "" 24, .mk "Pre" 23 3 false "" "" 48, .mk "Turns" 24 5 false "" "" 96])), (34, (.slice 37)), (37, (.array 2 3)), (41, (.array 6 9)), (45, (.slice 53)), (53, (.struct #[.mk "Kind" 3 0 false "" "" 0, .mk "Id" 3 1 false "" "" 8, .mk "Other" 3 2 false "" "" 16, .mk "Args" 45 3 false "" "" 24])), (66, (.slice 45)), (71, (.struct #[.mk "secured" 4 0 false "" "signet/trace" 0, .mk "told" 45 1 false "" "signet/trace" 8, .mk "mixed" 45 2 false "" "signet/trace" 32, .mk "used" 3 3 false "" "signet/trace" 56])), (78, (.func #[53] #[4] false)), (81, (.array 3 4)), (82, (.array 2 81)), (83, (.array 8 4)), (85, (.struct #[.mk "keys" 82 0 false "" "signet/pattern" 0, .mk "been" 83 6 false "" "signet/pattern" 6]))]
theorem tbu_ok : tbu.map (fun p => (fun t => Tryd.prog.underlying t) p.1) = tbu.map (fun p => some p.2) := by kernel_rfl
set_option maxRecDepth 100000 in
theorem Tu {T : TypeId} {d : TypeDesc} (h : lkT tbu T = some d) : Tryd.prog.underlying T = some d := lkT_map (L := tbu) (f := fun t => Tryd.prog.underlying t) tbu_ok h
theorem Uu (T : TypeId) {d : TypeDesc} (h : lkT tbu T = some d := by rfl) : Tryd.prog.underlying T = some d := Tu h
def tbz : List (Nat × Nat) := [(3, 1), (4, 1), (9, 1), (22, 1), (23, 2), (24, 1), (26, 6), (37, 2), (45, 1), (53, 4), (71, 4), (78, 1), (81, 3), (82, 6), (83, 8)]
theorem tbz_ok : tbz.map (fun p => (fun t => (Tryd.prog.info? t).map (·.size)) p.1) = tbz.map (fun p => some p.2) := by kernel_rfl
set_option maxRecDepth 100000 in
theorem Tz {T : TypeId} {d : Nat} (h : lkT tbz T = some d) : (Tryd.prog.info? T).map (·.size) = some d := lkT_map (L := tbz) (f := fun t => (Tryd.prog.info? t).map (·.size)) tbz_ok h
theorem Uz (T : TypeId) {d : Nat} (h : lkT tbz T = some d := by rfl) : (Tryd.prog.info? T).map (·.size) = some d := Tz h
def tby : List (Nat × Nat) := [(3, 8), (37, 16), (53, 48)]
theorem tby_ok : tby.map (fun p => (fun t => (Tryd.prog.info? t).map (·.bytes)) p.1) = tby.map (fun p => some p.2) := by kernel_rfl
set_option maxRecDepth 100000 in
theorem Ty {T : TypeId} {d : Nat} (h : lkT tby T = some d) : (Tryd.prog.info? T).map (·.bytes) = some d := lkT_map (L := tby) (f := fun t => (Tryd.prog.info? t).map (·.bytes)) tby_ok h
theorem Uy (T : TypeId) {d : Nat} (h : lkT tby T = some d := by rfl) : (Tryd.prog.info? T).map (·.bytes) = some d := Ty h
def tbb : List (Nat × Value) := [(3, (.int .i64 0)), (22, (.slice none 0 0)), (23, (.agg #[.slice none 0 0, .slice none 0 0])), (26, (.agg (cells 6 [pV (.string ByteArray.empty), pV (.bool false), pV (.slice none 0 0), pV (.slice none 0 0), pV (.slice none 0 0), pV (.slice none 0 0)]))), (37, (.agg (arr .i64 2 fun _ => 0))), (45, (.slice none 0 0)), (53, (.agg (cells 4 [pV (.int .i64 0), pV (.int .i64 0), pV (.int .i64 0), pV (.slice none 0 0)]))), (71, (.agg (cells 4 [pV (.bool false), pV (.slice none 0 0), pV (.slice none 0 0), pV (.int .i64 0)]))), (78, .nilFunc), (85, (.agg (arrv 14 fun _ => .bool false)))]
theorem tbb_ok : tbb.map (fun p => (fun t => (Tryd.prog.info? t).bind (·.zero)) p.1) = tbb.map (fun p => some p.2) := by kernel_rfl
set_option maxRecDepth 100000 in
theorem Tb {T : TypeId} {d : Value} (h : lkT tbb T = some d) : (Tryd.prog.info? T).bind (·.zero) = some d := lkT_map (L := tbb) (f := fun t => (Tryd.prog.info? t).bind (·.zero)) tbb_ok h
theorem Ub (T : TypeId) {d : Value} (h : lkT tbb T = some d := by rfl) : (Tryd.prog.info? T).bind (·.zero) = some d := Tb h
def tbn : List Nat := [5, 6, 7, 8, 9, 10, 11, 12, 13, 14, 15, 16, 17, 18, 19, 20, 21, 22, 23, 24, 25, 26, 27, 28, 29, 30, 31, 32, 33, 34, 35, 36, 37, 38, 39, 40, 41, 42, 43, 44, 45, 46, 47, 48, 49, 50, 51, 52, 53, 54, 55, 56, 57, 58, 59, 60, 61, 62, 63, 64, 65, 66, 67, 68]
theorem tbn_ok : tbn.all (fun f => enters Tryd.prog f) = true := by kernel_rfl
theorem Un (f : FuncId) (h : tbn.contains f = true := by rfl) : enters Tryd.prog f = true := List.all_eq_true.1 tbn_ok f (List.contains_iff_mem.1 h)
end Go.Proofs.YtfldnikepdbgkaaDoor
/-
  Rules with short names.
-/
namespace Go.Proofs.YtfldnikepdbgkaaDoor
open Go Go.RowKit
variable {G : Mem} {R : Reg} {ops : Array Oper} {n : Nat} {K : Env → Mm → Prop} {Q : Exit → Env → Mm → Prop} {rest : List Oper} {E : Env} {M : Mm} {d : Nat} {ty : TypeId} {pos : String} {aft : Array Edge} {T : TypeId} {T' : TypeId} {x : Operand} {y : Operand}
theorem Qs {c : Code} {c' : Code} : (SatE Tryd.prog G c n (thenE (SatE Tryd.prog G c' n Q) Q) E M) → SatE Tryd.prog G (.seq c c') n Q E M := fun h => e_seq h
theorem Qp {id : Nat} : (OpsE Tryd.prog G noReg ops n (Q .normal) ops.toList E M) → SatE Tryd.prog G (.region id ops false) n Q E M := fun h => e_plain h
theorem Qn : (K E M) → OpsE Tryd.prog G R ops n K [] E M := fun h => e_nil h
theorem Qk : (Q .normal E M) → SatE Tryd.prog G .skip n Q E M := fun h => e_skip h
theorem Qb {id : Nat} {c : Code} : (SatE Tryd.prog G c n (inBlockE id Q) E M) → SatE Tryd.prog G (.block id c) n Q E M := fun h => e_block h
theorem Qe {id : Nat} : (Q (.exit id) E M) → SatE Tryd.prog G (.exit id) n Q E M := fun h => e_exit h
theorem Qr : (Q .ret E M) → SatE Tryd.prog G .ret n Q E M := fun h => e_ret h
theorem Qm {v : Value} (hx : rd E x = some v := by rfl) (hd : Nat.blt d n = true := by rfl) : (OpsE Tryd.prog G R ops n K rest ((d, v) :: E) M) → OpsE Tryd.prog G R ops n K (⟨some d, .move x, ty, pos, aft, none⟩ :: rest) E M := fun h => e_move hx hd h
theorem Qa {v : Value} (hx : rd E x = some v := by rfl) (hd : Nat.blt d n = true := by rfl) : (OpsE Tryd.prog G R ops n K rest ((d, v) :: E) M) → OpsE Tryd.prog G R ops n K (⟨some d, .assign x, ty, pos, aft, none⟩ :: rest) E M := fun h => e_assign hx hd h
theorem Qx {i : Nat} {vs : Array Value} {v : Value} (hx : rd E x = some (.tuple vs) := by rfl) (hv : vs[i]? = some v := by rfl) (hd : Nat.blt d n = true := by rfl) : (OpsE Tryd.prog G R ops n K rest ((d, v) :: E) M) → OpsE Tryd.prog G R ops n K (⟨some d, .extract x i, ty, pos, aft, none⟩ :: rest) E M := fun h => e_extract hx hv hd h
theorem Qy {dd : Option Tmp} {op : Op} {g : Nat} {s : Nat} {want : Bool} {b : Bool} (hg : (ops[g]?).bind (·.dst) = some s := by rfl) (hb : lk E s = some (.bool b) := by rfl) (hw : b = want := by rfl) : (OpsE Tryd.prog G R ops n K (⟨dd, op, ty, pos, aft, none⟩ :: rest) E M) → OpsE Tryd.prog G R ops n K (⟨dd, op, ty, pos, aft, some (g, want)⟩ :: rest) E M := fun h => e_yes hg hb hw h
theorem Qo {op : Op} {g : Nat} {s : Nat} {want : Bool} {b : Bool} (hg : (ops[g]?).bind (·.dst) = some s := by rfl) (hb : lk E s = some (.bool b) := by rfl) (hw : b ≠ want := by decide) (hd : Nat.blt d n = true := by rfl) : (OpsE Tryd.prog G R ops n K rest ((d, undef) :: E) M) → OpsE Tryd.prog G R ops n K (⟨some d, op, ty, pos, aft, some (g, want)⟩ :: rest) E M := fun h => e_no hg hb hw hd h
theorem Qw {op : Op} {g : Nat} {s : Nat} {want : Bool} (hg : (ops[g]?).bind (·.dst) = some s := by rfl) (hb : lk E s = some undef := by rfl) (hd : Nat.blt d n = true := by rfl) : (OpsE Tryd.prog G R ops n K rest ((d, undef) :: E) M) → OpsE Tryd.prog G R ops n K (⟨some d, op, ty, pos, aft, some (g, want)⟩ :: rest) E M := fun h => e_no2 hg hb hd h
theorem QT {p : Operand} {q : Operand} {r : Operand} {t : Bool} {v : Value} (hc : rd E p = some (.bool t) := by rfl) (ht : t = true := by rfl) (hv : rd E q = some v := by rfl) (hd : Nat.blt d n = true := by rfl) : (OpsE Tryd.prog G R ops n K rest ((d, v) :: E) M) → OpsE Tryd.prog G R ops n K (⟨some d, .pick p q r, ty, pos, aft, none⟩ :: rest) E M := fun h => e_pickT hc ht hv hd h
theorem QF {p : Operand} {q : Operand} {r : Operand} {t : Bool} {v : Value} (hc : rd E p = some (.bool t) := by rfl) (ht : t = false := by rfl) (hv : rd E r = some v := by rfl) (hd : Nat.blt d n = true := by rfl) : (OpsE Tryd.prog G R ops n K rest ((d, v) :: E) M) → OpsE Tryd.prog G R ops n K (⟨some d, .pick p q r, ty, pos, aft, none⟩ :: rest) E M := fun h => e_pickF hc ht hv hd h
theorem Qg {id : Nat} (hm : Tryd.prog.follows .mixedOrders = true := by exact mixed) (hok : orderOk noReg ops (List.range ops.size) = true := by kernel_rfl) : (OpsE Tryd.prog G noReg ops n (Q .normal) ops.toList E M) → SatE Tryd.prog G (.region id ops true) n Q E M := fun h => e_draw hm hok h
theorem QR {id : Nat} (R : Reg) : (OpsE Tryd.prog G R ops n (Q .normal) ops.toList E M) → SatE Tryd.prog G (.region id ops false) n Q E M := fun h => e_plainR R h
theorem Qq {id : Nat} (R : Reg) (hm : Tryd.prog.follows .mixedOrders = true := by exact mixed) (hok : orderOk R ops (List.range ops.size) = true := by kernel_rfl) : (OpsE Tryd.prog G R ops n (Q .normal) ops.toList E M) → SatE Tryd.prog G (.region id ops true) n Q E M := fun h => e_drawR R hm hok h
theorem Ql {k : IntKind} {p : Int} {q : Int} (hx : rd E x = some (.int k p) := by rfl) (hy : rd E y = some (.int k q) := by rfl) (hd : Nat.blt d n = true := by rfl) : (OpsE Tryd.prog G R ops n K rest ((d, .bool (decide (p < q))) :: E) M) → OpsE Tryd.prog G R ops n K (⟨some d, .binOp .lss T x y T', ty, pos, aft, none⟩ :: rest) E M := fun h => e_lt hx hy hd h
theorem QG {k : IntKind} {p : Int} {q : Int} (hx : rd E x = some (.int k p) := by rfl) (hy : rd E y = some (.int k q) := by rfl) (hd : Nat.blt d n = true := by rfl) : (OpsE Tryd.prog G R ops n K rest ((d, .bool (decide (q < p))) :: E) M) → OpsE Tryd.prog G R ops n K (⟨some d, .binOp .gtr T x y T', ty, pos, aft, none⟩ :: rest) E M := fun h => e_gt hx hy hd h
theorem QL {k : IntKind} {p : Int} {q : Int} (hx : rd E x = some (.int k p) := by rfl) (hy : rd E y = some (.int k q) := by rfl) (hd : Nat.blt d n = true := by rfl) : (OpsE Tryd.prog G R ops n K rest ((d, .bool (decide (p ≤ q))) :: E) M) → OpsE Tryd.prog G R ops n K (⟨some d, .binOp .leq T x y T', ty, pos, aft, none⟩ :: rest) E M := fun h => e_le hx hy hd h
theorem QE {k : IntKind} {p : Int} {q : Int} (hx : rd E x = some (.int k p) := by rfl) (hy : rd E y = some (.int k q) := by rfl) (hd : Nat.blt d n = true := by rfl) : (OpsE Tryd.prog G R ops n K rest ((d, .bool (decide (q ≤ p))) :: E) M) → OpsE Tryd.prog G R ops n K (⟨some d, .binOp .geq T x y T', ty, pos, aft, none⟩ :: rest) E M := fun h => e_ge hx hy hd h
theorem Qc {k : IntKind} {p : Int} {q : Int} (hx : rd E x = some (.int k p) := by rfl) (hy : rd E y = some (.int k q) := by rfl) (hd : Nat.blt d n = true := by rfl) : (OpsE Tryd.prog G R ops n K rest ((d, .bool (decide (p = q))) :: E) M) → OpsE Tryd.prog G R ops n K (⟨some d, .binOp .eql T x y T', ty, pos, aft, none⟩ :: rest) E M := fun h => e_eq hx hy hd h
theorem QN {k : IntKind} {p : Int} {q : Int} (hx : rd E x = some (.int k p) := by rfl) (hy : rd E y = some (.int k q) := by rfl) (hd : Nat.blt d n = true := by rfl) : (OpsE Tryd.prog G R ops n K rest ((d, .bool (decide (p ≠ q))) :: E) M) → OpsE Tryd.prog G R ops n K (⟨some d, .binOp .neq T x y T', ty, pos, aft, none⟩ :: rest) E M := fun h => e_ne hx hy hd h
theorem Q0 {b : Bool} (hx : rd E x = some (.bool b) := by rfl) (hd : Nat.blt d n = true := by rfl) : (OpsE Tryd.prog G R ops n K rest ((d, .bool (!b)) :: E) M) → OpsE Tryd.prog G R ops n K (⟨some d, .unOp .not T x, ty, pos, aft, none⟩ :: rest) E M := fun h => e_not hx hd h
theorem Qd {b : Nat} {l : Nat} {c : Array Value} {t : TypeId} {td : TypeDesc} (i : Nat) (hT : Tryd.prog.underlying T = some td := by exact Tu rfl) (hn : rowLike td = true := by rfl) (hs : (Tryd.prog.info? T).map (·.size) = some l := by exact Tz rfl) (hx : rd E x = some (.pointer (some ⟨b, 0, none⟩)) := by rfl) (hm : lkM M i = some ⟨b, c, t⟩ := by rfl) (hl : c.size = l := by exact (arr_size _ _ _)) (hd : Nat.blt d n = true := by rfl) (hX : ∃ js, okXL M i js R := by exact ⟨[], trivial⟩) : (OpsE Tryd.prog G R ops n K rest ((d, .agg c) :: E) M) → OpsE Tryd.prog G R ops n K (⟨some d, .load T x, ty, pos, aft, none⟩ :: rest) E M := fun h => e_loadA (i := i) hT hn hs hx hm hl hd hX h
theorem QD {b : Nat} {l : Nat} {c : Array Value} {t : TypeId} {td : TypeDesc} (i : Nat) (hT : Tryd.prog.underlying T = some td := by exact Tu rfl) (hn : rowLike td = true := by rfl) (hs : (Tryd.prog.info? T).map (·.size) = some l := by exact Tz rfl) (hx : rd E x = some (.pointer (some ⟨b, 0, none⟩)) := by rfl) (hm : lkM M i = some ⟨b, c, t⟩ := by rfl) (hl : c.size = l := by exact (arrv_size _ _)) (hd : Nat.blt d n = true := by rfl) (hX : ∃ js, okXL M i js R := by exact ⟨[], trivial⟩) : (OpsE Tryd.prog G R ops n K rest ((d, .agg c) :: E) M) → OpsE Tryd.prog G R ops n K (⟨some d, .load T x, ty, pos, aft, none⟩ :: rest) E M := fun h => e_loadA (i := i) hT hn hs hx hm hl hd hX h
theorem Q1 {b : Nat} {o : Nat} {c : Array Value} {t : TypeId} {v : Value} {td : TypeDesc} (i : Nat) (hT : Tryd.prog.underlying T = some td := by exact Tu rfl) (hn : rowLike td = false := by rfl) (hx : rd E x = some (.pointer (some ⟨b, o, none⟩)) := by rfl) (hm : lkM M i = some ⟨b, c, t⟩ := by rfl) (hc : c[o]? = some v := by exact (arr_get (by omega))) (hd : Nat.blt d n = true := by rfl) (hX : ∃ js, okXL M i js R := by exact ⟨[], trivial⟩) : (OpsE Tryd.prog G R ops n K rest ((d, v) :: E) M) → OpsE Tryd.prog G R ops n K (⟨some d, .load T x, ty, pos, aft, none⟩ :: rest) E M := fun h => e_load1 (i := i) hT hn hx hm hc hd hX h
theorem Qt {b : Nat} {l : Nat} {c : Array Value} {c' : Array Value} {t : TypeId} (i : Nat) (hs : (Tryd.prog.info? T).map (·.size) = some l := by exact Tz rfl) (hx : rd E x = some (.pointer (some ⟨b, 0, none⟩)) := by rfl) (hy : rd E y = some (.agg c') := by rfl) (hl : c'.size = l := by exact (arr_size _ _ _)) (hv : ∀ v ∈ c', v.oneCell' = true := by exact arr_one) (hm : lkM M i = some ⟨b, c, t⟩ := by rfl) (ho : c'.size = c.size := by exact (arr_sz _ _ _ _ _)) (hX : R.X = [] ∨ b ∈ R.X := by exact (.inl rfl)) (hY : R.Y = none := by rfl) : (OpsE Tryd.prog G R ops n K rest E ((i, some ⟨b, c', t⟩) :: M)) → OpsE Tryd.prog G R ops n K (⟨none, .store T x y, ty, pos, aft, none⟩ :: rest) E M := fun h => e_storeA (i := i) hs hx hy hl hv hm ho hX h
theorem Qf {b : Nat} {o : Nat} {f : Nat} {sz : Nat} {fs : Array Field} {fd : Field} (o' : Nat) (hT : Tryd.prog.underlying T = some (.struct fs) := by exact Tu rfl) (hf : fs[f]? = some fd := by rfl) (hs : (Tryd.prog.info? fd.type).map (·.size) = some (sz + 1) := by exact Tz rfl) (hx : rd E x = some (.pointer (some ⟨b, o, none⟩)) := by rfl) (ho : o + fd.offset = o' := by rfl) (hd : Nat.blt d n = true := by rfl) : (OpsE Tryd.prog G R ops n K rest ((d, .pointer (some ⟨b, o', none⟩)) :: E) M) → OpsE Tryd.prog G R ops n K (⟨some d, .fieldAddr T x f, ty, pos, aft, none⟩ :: rest) E M := fun h => e_fld o' hT hf hs hx ho hd h
theorem Qi {b : Nat} {j : Nat} {l : Nat} {k : IntKind} {e : TypeId} (hT : Tryd.prog.underlying T = some (.array l e) := by exact Tu rfl) (hs : (Tryd.prog.info? e).map (·.size) = some 1 := by exact Tz rfl) (hx : rd E x = some (.pointer (some ⟨b, 0, none⟩)) := by rfl) (hy : rd E y = some (.int k (j : Int)) := by rfl) (hj : j < l := by omega) (hd : Nat.blt d n = true := by rfl) : (OpsE Tryd.prog G R ops n K rest ((d, .pointer (some ⟨b, j, none⟩)) :: E) M) → OpsE Tryd.prog G R ops n K (⟨some d, .indexAddr T x y, ty, pos, aft, none⟩ :: rest) E M := fun h => e_index0 hT hs hx hy hj hd h
theorem Qj {b : Nat} {l : Nat} {k : IntKind} {e : TypeId} (j : Nat) (hT : Tryd.prog.underlying T = some (.array l e) := by exact Tu rfl) (hs : (Tryd.prog.info? e).map (·.size) = some 1 := by exact Tz rfl) (hx : rd E x = some (.pointer (some ⟨b, 0, none⟩)) := by rfl) (hy : rd E y = some (.int k (j : Int)) := by rfl) (hj : j < l := by omega) (hd : Nat.blt d n = true := by rfl) : (OpsE Tryd.prog G R ops n K rest ((d, .pointer (some ⟨b, j, none⟩)) :: E) M) → OpsE Tryd.prog G R ops n K (⟨some d, .indexAddr T x y, ty, pos, aft, none⟩ :: rest) E M := fun h => e_index0 (j := j) hT hs hx hy hj hd h
theorem QA {b : Nat} {o : Nat} {l : Nat} {z : Nat} {k : IntKind} {e : TypeId} (o' : Nat) (j : Nat) (hT : Tryd.prog.underlying T = some (.array l e) := by exact Tu rfl) (hs : (Tryd.prog.info? e).map (·.size) = some (z + 1) := by exact Tz rfl) (hx : rd E x = some (.pointer (some ⟨b, o, none⟩)) := by rfl) (hy : rd E y = some (.int k (j : Int)) := by rfl) (hj : j < l := by omega) (ho : o + j * (z + 1) = o' := by omega) (hd : Nat.blt d n = true := by rfl) : (OpsE Tryd.prog G R ops n K rest ((d, .pointer (some ⟨b, o', none⟩)) :: E) M) → OpsE Tryd.prog G R ops n K (⟨some d, .indexAddr T x y, ty, pos, aft, none⟩ :: rest) E M := fun h => e_at (j := j) o' hT hs hx hy hj ho hd h
theorem QB {b : Nat} {o : Nat} {j : Nat} {l : Nat} {z : Nat} {k : IntKind} {e : TypeId} (o' : Nat) (hT : Tryd.prog.underlying T = some (.array l e) := by exact Tu rfl) (hs : (Tryd.prog.info? e).map (·.size) = some (z + 1) := by exact Tz rfl) (hx : rd E x = some (.pointer (some ⟨b, o, none⟩)) := by rfl) (hy : rd E y = some (.int k (j : Int)) := by rfl) (hj : j < l := by omega) (ho : o + j * (z + 1) = o' := by omega) (hd : Nat.blt d n = true := by rfl) : (OpsE Tryd.prog G R ops n K rest ((d, .pointer (some ⟨b, o', none⟩)) :: E) M) → OpsE Tryd.prog G R ops n K (⟨some d, .indexAddr T x y, ty, pos, aft, none⟩ :: rest) E M := fun h => e_at o' hT hs hx hy hj ho hd h
theorem Qh {v : Value} (i : Nat) (hx : rd E x = some v := by rfl) (hd : Nat.blt d n = true := by rfl) : (∀ r, OpsE Tryd.prog G R ops n K rest ((d, ptr r) :: E) ((i, some ⟨r, v.cells, T⟩) :: M)) → OpsE Tryd.prog G R ops n K (⟨some d, .box T x, ty, pos, aft, none⟩ :: rest) E M := fun h => e_box i hx hd h
theorem QH {z : Value} (i : Nat) (hz : (Tryd.prog.info? T).bind (·.zero) = some z := by exact Tb rfl) (hd : Nat.blt d n = true := by rfl) : (∀ r, OpsE Tryd.prog G R ops n K rest ((d, ptr r) :: E) ((i, some ⟨r, z.cells, T⟩) :: M)) → OpsE Tryd.prog G R ops n K (⟨some d, .alloc T, ty, pos, aft, none⟩ :: rest) E M := fun h => e_alloc i hz hd h
theorem QV {b : Nat} {o : Nat} {N : Nat} {v : Value} {ps : List Part} {t : TypeId} {td : TypeDesc} (k : Nat) (i : Nat) (hT : Tryd.prog.underlying T = some td := by exact Tu rfl) (hn : rowLike td = false := by rfl) (hx : rd E x = some (.pointer (some ⟨b, o, none⟩)) := by rfl) (hm : lkM M i = some ⟨b, cells N ps, t⟩ := by rfl) (hk : catAt ps k = some (o, pV v) := by rfl) (hN : o < N := by decide) (hd : Nat.blt d n = true := by rfl) (hX : ∃ js, okXL M i js R := by exact ⟨[], trivial⟩) : (OpsE Tryd.prog G R ops n K rest ((d, v) :: E) M) → OpsE Tryd.prog G R ops n K (⟨some d, .load T x, ty, pos, aft, none⟩ :: rest) E M := fun h => e_ldV1 (i := i) k hT hn hx hm hk hN hd hX h
theorem Q2 {p : Nat} (q : Nat) (hx : rd E x = some (ii p) := by rfl) (hy : rd E y = some (ii q) := by rfl) (hd : Nat.blt d n = true := by rfl) (hb : p + q < 9223372036854775808 := by omega) : (OpsE Tryd.prog G R ops n K rest ((d, ii (p + q)) :: E) M) → OpsE Tryd.prog G R ops n K (⟨some d, .binOp .add T x y T', ty, pos, aft, none⟩ :: rest) E M := fun h => e_add_i (q := q) hx hy hd hb h
theorem QY {fn : Go.Fn} {fs : Array Operand} {cs : Array Operand} {vf : List Value} {vc : List Value} (h1 : rdl E fs.toList = some vf := by rfl) (h2 : rdl E cs.toList = some vc := by rfl) (hd : Nat.blt d n = true := by rfl) : (OpsE Tryd.prog G R ops n K rest ((d, .func fn vf.toArray vc.toArray) :: E) M) → OpsE Tryd.prog G R ops n K (⟨some d, .makeFunc fn fs cs, ty, pos, aft, none⟩ :: rest) E M := fun h => e_func h1 h2 hd h
theorem QC {e : TypeId} {v : Value} {B : Mem} {z : Nat} {k : Nat} {xs : List Value} (hv : Shows B z v k xs) (hT : Tryd.prog.underlying T = some (.slice e) := by exact Tu rfl) (hx : rd E x = some v := by rfl) (hd : Nat.blt d n = true := by rfl) (hR : callOk R = true := by rfl) : (OpsE Tryd.prog G R ops n K rest ((d, ii k) :: E) M) → OpsE Tryd.prog G R ops n K (⟨some d, .call ⟨.builtin .len, #[x], #[T]⟩, ty, pos, aft, none⟩ :: rest) E M := fun h => e_lenV hv hT hx hd hR h
theorem QS {l : List Oper} {s : Nat} {v : Value} {v' : Value} (hv : v = v' := by exact (congrArg (slAddr _) (Nat.mul_one _))) : (OpsE Tryd.prog G R ops n K l ((s, v') :: E) M) → OpsE Tryd.prog G R ops n K l ((s, v) :: E) M := fun h => e_as hv h
theorem Qat {l : List Oper} {s : Nat} {v : Value} {v' : Value} (hv : v = v' := by exact (congrArg Value.bool (decide_eq_true (by omega)))) : (OpsE Tryd.prog G R ops n K l ((s, v') :: E) M) → OpsE Tryd.prog G R ops n K l ((s, v) :: E) M := fun h => e_as hv h
theorem Qaf {l : List Oper} {s : Nat} {v : Value} {v' : Value} (hv : v = v' := by exact (congrArg Value.bool (decide_eq_false (by omega)))) : (OpsE Tryd.prog G R ops n K l ((s, v') :: E) M) → OpsE Tryd.prog G R ops n K l ((s, v) :: E) M := fun h => e_as hv h
theorem Qar {l : List Oper} {s : Nat} {v : Value} {v' : Value} (hv : v = v' := by exact (congrArg Value.bool (decide_eq_true rfl))) : (OpsE Tryd.prog G R ops n K l ((s, v') :: E) M) → OpsE Tryd.prog G R ops n K l ((s, v) :: E) M := fun h => e_as hv h
theorem Qct {c : Operand} {p : Code} {q : Code} (hc : rd E c = some (.bool true) := by rfl) : (SatE Tryd.prog G p n Q E M) → SatE Tryd.prog G (.cond c p q) n Q E M := fun h => e_condT hc h
theorem Qcf {c : Operand} {p : Code} {q : Code} (hc : rd E c = some (.bool false) := by rfl) : (SatE Tryd.prog G q n Q E M) → SatE Tryd.prog G (.cond c p q) n Q E M := fun h => e_condF hc h
theorem QzK {c : Code} (Ek : Env) (Mk : Mm) (I : Nat → Env → Mm → Prop) {E0 : Env} {M0 : Mm} {k : Nat} (h0 : I k E0 M0) (hs : sub (catE E0 Ek) E) (hl : subL (catL M0 Mk) M) (round : ∀ k E M, I k E M → SatE Tryd.prog G c n (thenE (fun E' M' => ∃ k' E'' M'', k' < k ∧ sub (catE E'' Ek) E' ∧ subL (catL M'' Mk) M' ∧ I k' E'' M'') Q) (catE E Ek) (catL M Mk)) : SatE Tryd.prog G (.loop c) n Q E M := e_loopK Ek Mk I E0 M0 k hs hl h0 round
theorem QzL {I : Nat → Env → Mm → Prop} {k k' : Nat} {Ek : Env} {Mk : Mm} {E' : Env} {M' : Mm} {E'' : Env} {M'' : Mm} (h : I k' E'' M'') (hs : sub (catE E'' Ek) E') (hl : subL (catL M'' Mk) M') (hk : k' < k) : ∃ k' E'' M'', k' < k ∧ sub (catE E'' Ek) E' ∧ subL (catL M'' Mk) M' ∧ I k' E'' M'' := ⟨_, _, _, hk, hs, hl, h⟩
theorem Qf1 {f : FuncId} {fn : Func} {c : Code} {vs : List Value} {v : Value} (hf : Tryd.prog.funcs[f]? = some fn) (h : SatE Tryd.prog G c n (End1 Tryd.prog fn v) (argE vs 0) []) (hb : fn.body = some c := by rfl) (hn : fn.ntmps = n := by rfl) (ha : vs.toArray.size ≤ n := by simp) : Fn Tryd.prog G f vs.toArray v := fn1 hf hb hn ha (argE vs 0) (argE_ok vs) h
theorem Qf2 {f : FuncId} {fn : Func} {c : Code} {vs : List Value} {v v' : Value} (hf : Tryd.prog.funcs[f]? = some fn) (h : SatE Tryd.prog G c n (End2 Tryd.prog fn v v') (argE vs 0) []) (hb : fn.body = some c := by rfl) (hn : fn.ntmps = n := by rfl) (ha : vs.toArray.size ≤ n := by simp) : Fn Tryd.prog G f vs.toArray (.tuple #[v, v']) := fn2 hf hb hn ha (argE vs 0) (argE_ok vs) h
theorem QfN {f : FuncId} {fn : Func} {c : Code} {vs : List Value} {e : TypeId} {z k : Nat} {xs : List Value} (hf : Tryd.prog.funcs[f]? = some fn) (h : SatE Tryd.prog G c n (EndN Tryd.prog e z k xs fn) (argE vs 0) []) (hb : fn.body = some c := by rfl) (hn : fn.ntmps = n := by rfl) (ha : vs.toArray.size ≤ n := by simp) : Fx Tryd.prog G [] f vs.toArray (fun v l1 nw => l1 = [] ∧ ∃ v', v = v' ∧ OwnS e z v' k xs nw) := fxN hf hb hn ha (argE vs 0) (argE_ok vs) h
abbrev Sh (G : Mem) (v : Value) (l : List Nat) : Prop := Shows G 1 v l.length (l.map by8)
abbrev By (l : List Nat) : Prop := ∀ b ∈ l, b < 256
abbrev L8 (n : Nat) (f : Nat → Nat) : Prop := ∀ j, j < n → f j < 256
end Go.Proofs.YtfldnikepdbgkaaDoor
namespace Go.Proofs.YtfldnikepdbgkaaDoor
open Go Go.RowKit
theorem pls53 (w : World) : (((#[.mk "Kind" 3 0 false "" "" 0, .mk "Id" 3 1 false "" "" 8, .mk "Other" 3 2 false "" "" 16, .mk "Args" 45 3 false "" "" 24] : Array Field).mapM fun f => do pure (f.offset, ← sizeOf f.type) : Sem (Array (Nat × Nat)))).run Tryd.prog w = .ok #[(0, 1), (1, 1), (2, 1), (3, 1)] w := places_run (l := [(0, 1), (1, 1), (2, 1), (3, 1)]) (by kernel_rfl) w
end Go.Proofs.YtfldnikepdbgkaaDoor
namespace Go.Proofs.YtfldnikepdbgkaaDoor
open Go Go.RowKit
variable {G : Mem}
set_option maxHeartbeats 2000000 in
theorem chkpl_fn (v : Value) (ps : List Int) (t : Nat) (hv : Shows G 1 v ps.length (ps.map iv)) (hz : ps.length ≤ 9223372036854775807) : Fn Tryd.prog G 22 #[v, ii t] (ii (pchk t ps)) := by
  refine Qf1 Tryd.func22 ?_
  refine Qs<|Qp<|(Qa)<|Qn<|Qs<|Qs<|Qp<|(Qm)<|(QC hv)<|(QG)<|Qn ?_
  refine e_cond rfl ?_ ?_
  · intro hc0
    rw [show pchk t ps = 1 by rw [pchk, if_pos (by have := of_decide_eq_true hc0; omega)]]
    refine Qs<|Qp<|(Qa)<|Qn<|Qr ?_
    first | rw [hpc, hf0_1, pck_end hz0] | skip
    exact ⟨_, rfl, .tmp rfl⟩
  · intro hc0
    have hpc : pchk t ps = pck t (-1) ps := by rw [pchk, if_neg (by have := of_decide_eq_false hc0; omega)]
    refine Qk<|Qs<|Qs<|Qp<|(Qm)<|(QC hv)<|(Qm)<|Qn<|Qb ?_
    refine QzK [(0, _), (1, _), (10, _), (11, _)] [] (fun kk E m => ∃ (i : Nat), kk = ps.length - i ∧ E = [(12, ii i)] ∧ m = [] ∧ (i ≤ ps.length) ∧ (pck t (-1) ps = pck t (lastP ps i) (ps.drop i))) ⟨0, rfl, rfl, rfl, by omega, rfl⟩ ⟨rfl, rfl, rfl, rfl, rfl, trivial⟩ trivial ?_
    rintro kk E m ⟨i, rfl, rfl, rfl, hf0_0, hf0_1⟩
    simp only [catE, catL]
    refine Qs<|Qp<|(Ql)<|Qn<|Qs ?_
    refine e_cond rfl ?_ ?_
    · intro hc1
      have hc1 : i < ps.length := by have := of_decide_eq_true hc1; omega
      refine Qk<|Qs<|Qb<|Qs<|Qp<|(Qm) ?_
      refine e_atV hv (Uu 22) (Uz 3) rfl rfl (by omega) rfl ?_
      refine (QS) ?_
      refine e_loadV hv seenG (Uu 3) rfl rfl (iv_at (by omega)) rfl ?_
      refine (Qa)<|(Qa)<|Qn<|Qs<|Qs<|Qp ?_
      refine e_join [(0, _), (1, _), (5, _), (6, _), (10, _), (11, _), (12, _), (13, _), (14, _), (15, _), (16, _)] [(23, .bool (decide ((ps.getD i 0) < 0) || decide ((t : Int) < (ps.getD i 0))))] [] ⟨rfl, rfl, rfl, rfl, rfl, rfl, rfl, rfl, rfl, rfl, rfl, trivial⟩ trivial ?_ ?_
      · skip
        refine (Qm)<|(Ql)<|(Qm) ?_
        refine e_case (b := decide ((ps.getD i 0) < 0)) (fun hb0 => ?_) (fun hb0 => ?_)
        · skip
          refine (Qo)<|(Qo)<|(Qo)<|(QT)<|Qn ?_
          exact ⟨⟨rfl, rfl, rfl, rfl, rfl, rfl, rfl, rfl, rfl, rfl, rfl, trivial⟩, ⟨bool_fin (by rw [hb0] <;> rfl), trivial⟩, trivial⟩
        · skip
          refine (Qy)<|(Qm)<|(Qy)<|(Qm)<|(Qy)<|(QG)<|(QF)<|Qn ?_
          exact ⟨⟨rfl, rfl, rfl, rfl, rfl, rfl, rfl, rfl, rfl, rfl, rfl, trivial⟩, ⟨bool_fin (by rw [hb0] <;> rfl), trivial⟩, trivial⟩
      · simp only [catE]
        refine e_cond rfl ?_ ?_
        · intro hc2
          rw [hpc, hf0_1, pck_range (by omega) (or_true2 hc2)]
          refine Qs<|Qp<|(Qa)<|Qn<|Qr ?_
          first | rw [hpc, hf0_1, pck_end hz0] | skip
          exact ⟨_, rfl, .tmp rfl⟩
        · intro hc2
          have hxr : ¬ ((ps.getD i 0) < 0 ∨ (t : Int) < (ps.getD i 0)) := or_false2 hc2
          refine Qk<|Qs<|Qp ?_
          refine e_join [(0, _), (1, _), (5, _), (6, _), (10, _), (11, _), (12, _), (13, _), (14, _), (15, _), (16, _), (23, _)] [(34, .bool (decide ((0 : Int) < (i : Int)) && decide ((ps.getD i 0) ≤ (ps.getD (i - 1) 0))))] [] ⟨rfl, rfl, rfl, rfl, rfl, rfl, rfl, rfl, rfl, rfl, rfl, rfl, trivial⟩ trivial ?_ ?_
          · skip
            refine (Qm)<|(QG)<|(Qm) ?_
            refine e_case (b := decide ((0 : Int) < (i : Int))) (fun hb1 => ?_) (fun hb1 => ?_)
            · skip
              refine (Qy)<|(Qm)<|(Qy)<|(Qm)<|(Qy)<|(Qm)<|(Qy) ?_
              refine e_sub_in (q := 1) rfl rfl rfl (by omega) (by have := of_decide_eq_true hb1; omega) ?_
              refine (Qy) ?_
              refine e_atV hv (Uu 22) (Uz 3) rfl rfl (by have := of_decide_eq_true hb1; omega) rfl ?_
              refine (QS)<|(Qy) ?_
              refine e_loadV hv seenG (Uu 3) rfl rfl (iv_at (by have := of_decide_eq_true hb1; omega)) rfl ?_
              refine (Qy)<|(QL)<|(QT)<|Qn ?_
              exact ⟨⟨rfl, rfl, rfl, rfl, rfl, rfl, rfl, rfl, rfl, rfl, rfl, rfl, trivial⟩, ⟨bool_fin (by rw [hb1] <;> rfl), trivial⟩, trivial⟩
            · skip
              refine (Qo)<|(Qo)<|(Qo)<|(Qo)<|(Qo)<|(Qo)<|(Qo)<|(QF)<|Qn ?_
              exact ⟨⟨rfl, rfl, rfl, rfl, rfl, rfl, rfl, rfl, rfl, rfl, rfl, rfl, trivial⟩, ⟨bool_fin (by rw [hb1] <;> rfl), trivial⟩, trivial⟩
          · simp only [catE]
            refine e_cond rfl ?_ ?_
            · intro hc3
              rw [hpc, hf0_1, pck_form (by omega) hxr (last_yes hc3)]
              refine Qs<|Qp<|(Qa)<|Qn<|Qr ?_
              first | rw [hpc, hf0_1, pck_end hz0] | skip
              exact ⟨_, rfl, .tmp rfl⟩
            · intro hc3
              have hxl := last_no hxr hc3
              refine Qk<|Qp<|(Q2 1)<|(Qm)<|Qn ?_
              refine QzL ⟨i + 1, rfl, rfl, rfl, by omega, (hf0_1.trans (by rw [pck_step (by omega) hxr hxl, lastP, if_neg (by omega)]; rfl))⟩ ⟨rfl, rfl, rfl, rfl, rfl, trivial⟩ trivial ?_
              omega
    · intro hc1
      have hc1 := of_decide_eq_false hc1
      have hz0 : i = ps.length := by omega
      refine Qe<|Qs<|Qp<|(Qa)<|Qn<|Qr ?_
      first | rw [hpc, hf0_1, pck_end hz0] | skip
      exact ⟨_, rfl, .tmp rfl⟩
set_option maxHeartbeats 2000000 in
theorem putpsk_fn (rT t n : Nat) (TF : Nat → Value) (q : List Nat) (oz : Option Blk) (hR : OwnS 3 1 (TF (n - 1)) q.length (iis q) oz.toList) (ht : n - 1 < t) (hn : n ≤ 100) (hq : q.length ≤ 100) (hne : ∀ z, oz = some z → z.b ≠ rT) : Fx Tryd.prog G (⟨rT, arrv t TF, 22⟩ :: oz.toList) 23 #[slv rT t, ii n] (Two rT 22 oz (fun v c' oz' => v = Value.tuple #[] ∧ ∃ w', c' = arrv t (updv TF (n - 1) w') ∧ OwnS 3 1 w' (insR n q).length (iis (insR n q)) oz'.toList)) := by
  refine fxT0 (n := 24) Tryd.func23 rfl rfl (by simp) (argE [slv rT t, ii n] 0) (argE_ok _) hne ?_
  refine Qs<|Qs<|Qp<|(Qm)<|(Qc)<|Qn ?_
  refine e_cond rfl ?_ ?_
  · intro hc0
    obtain rfl : n = 0 := by have := of_decide_eq_true hc0; omega
    refine Qs<|Qp<|(Qm) ?_
    refine e_buildSl 2 #[ii 7] (Uu 22 rfl) (Uz 3 rfl) (Ub 3 rfl) (by decide) (by decide) rfl (by kernel_rfl) rfl fun r3 => ?_
    refine (Qm) ?_
    refine e_atSl (0) (j := 0) (Uu 24) (Uz 22) rfl rfl (by omega) (by omega) rfl ?_
    refine e_load1 (i := 0) (Uu 22) rfl rfl rfl (arrv_get (by omega)) rfl ⟨[], trivial⟩ ?_
    refine e_append 2 (own_lit 3 r3 [7] (by decide)) hR.shows rfl (seenM 1 rfl ⟨[], trivial⟩) (Uu 22) (Uz 3) (Uy 3) (Ub 3) (by rfl) rfl rfl (iis_one _) (by simp only [maxLen, List.length_cons, List.length_nil]; omega) (by simp only [List.length_cons, List.length_nil]; omega) rfl fun v2_1 oz2_1 ho2_1 => ?_
    refine e_atSl (0) (j := 0) (Uu 24) (Uz 22) rfl rfl (by omega) (by omega) rfl ?_
    refine e_st1 (i := 0) (Uz 22) rfl rfl (shows_oneC ho2_1.shows) rfl (by omega) (.inl rfl) ?_
    refine Qn<|Qr ?_
    exact ⟨rfl, _, _, (by first | exact ⟨rfl, _, rfl, own_fix ho2_1 (by rw [insR_len]; simp only [List.length_cons, List.length_nil]; omega) rfl⟩ | exact ⟨rfl, _, rfl, own_fix ho2_1 (by rw [insR_len]) (by rw [insR, if_neg hn0]; simp [iis])⟩), rfl, (by first | exact .inr ⟨2, _, by decide, by decide, rfl, rfl, rfl⟩ | (rcases hw2_1 with ⟨rfl, hid, rfl⟩ | ⟨rfl, rfl⟩; exact .inl ⟨rfl, hid⟩; exact .inr ⟨3, _, by decide, by decide, rfl, rfl, rfl⟩))⟩
  · intro hc0
    have hn0 : ¬ n = 0 := by have := of_decide_eq_false hc0; omega
    refine Qk<|Qp<|(Qm)<|(Qm) ?_
    refine e_sub_in (q := 1) rfl rfl rfl (by omega) (by omega) ?_
    refine (Qm)<|(Qm) ?_
    refine e_sub_in (q := 1) rfl rfl rfl (by omega) (by omega) ?_
    refine e_atSl (n - 1) (Uu 24) (Uz 22) rfl rfl (by omega) (by omega) rfl ?_
    refine e_load1 (i := 0) (Uu 22) rfl rfl rfl (arrv_get (by omega)) rfl ⟨[], trivial⟩ ?_
    refine e_buildSl 2 #[ii 7] (Uu 22 rfl) (Uz 3 rfl) (Ub 3 rfl) (by decide) (by decide) rfl (by kernel_rfl) rfl fun r3 => ?_
    refine e_append2 1 3 hR (shows_new _ _ (by rfl)) rfl (seen1 2 rfl ⟨[], trivial⟩) (Uu 22) (Uz 3) (Uy 3) (Ub 3) (by rfl) rfl rfl (one_ii 7) (by simp only [maxLen]; omega) (by omega) rfl fun v2_1 oi2_1 oj2_1 oz2_1 ho2_1 hw2_1 => ?_
    refine e_atSl (n - 1) (Uu 24) (Uz 22) rfl rfl (by omega) (by omega) rfl ?_
    refine e_st1 (i := 0) (Uz 22) rfl rfl (shows_oneC ho2_1.shows) rfl (by omega) (.inl rfl) ?_
    refine Qn ?_
    exact ⟨rfl, _, _, (by first | exact ⟨rfl, _, rfl, own_fix ho2_1 (by rw [insR_len]; simp only [List.length_cons, List.length_nil]; omega) rfl⟩ | exact ⟨rfl, _, rfl, own_fix ho2_1 (by rw [insR_len]) (by rw [insR, if_neg hn0]; simp [iis])⟩), rfl, (by first | exact .inr ⟨2, _, by decide, by decide, rfl, rfl, rfl⟩ | (rcases hw2_1 with ⟨rfl, hid, rfl⟩ | ⟨rfl, rfl⟩; exact .inl ⟨rfl, hid⟩; exact .inr ⟨3, _, by decide, by decide, rfl, rfl, rfl⟩))⟩
end Go.Proofs.YtfldnikepdbgkaaDoor
namespace Go.Proofs.YtfldnikepdbgkaaDoor
open Go Go.RowKit
variable {G : Mem}
set_option maxHeartbeats 4000000 in
theorem based_fn (l : List Nat) (hl : ∀ b ∈ l, b < 256) (h0 : ptext l ≠ []) : Fx Tryd.prog G [] 21 #[sv l] (fun v l1 nw => l1 = [] ∧ ∃ os, nw = flatO os ∧ ∃ v', v = .tuple #[v', .bool true] ∧ BaseIs 3 22 l (decide (l = nXF)) (bQ l 0) (bQ l 1) (bU l) v' os) := by
  refine fxO2 (n := 76) Tryd.func21 rfl rfl (by simp) (argE [sv l] 0) (argE_ok _) ?_
  refine Qs<|Qp<|(QH 0) fun r1=>(Qa)<|Qn<|Qs<|Qp<|(QH 1) fun r2=>Qn<|Qs<|Qs<|Qp<|(Qm)<|Qn<|Qb<|Qs<|Qp ?_
  refine e_eqStr (k := [78, 78]) rfl rfl rfl hl (by decide) ?_
  refine (Qa)<|Qn ?_
  refine e_cond rfl ?_ ?_
  · intro hc0
    obtain rfl : l = nNN := of_decide_eq_true hc0
    refine Qs<|Qp<|(Qf 0) ?_
    refine e_stV (i := 1) 0 (Uz 9) rfl rfl rfl rfl rfl (by decide) (.inl rfl) ?_
    refine Qn<|Qp ?_
    refine e_buildSl 2 #[ii 1] (Uu 22 rfl) (Uz 3 rfl) (Ub 3 rfl) (by decide) (by decide) rfl (by kernel_rfl) rfl fun r3 => ?_
    refine e_buildSl 3 #[ii 1, ii 3] (Uu 22 rfl) (Uz 3 rfl) (Ub 3 rfl) (by decide) (by decide) rfl (by kernel_rfl) rfl fun r4 => ?_
    refine e_buildSl 4 #[slv r3 1, slv r4 2] (Uu 24 rfl) (Uz 22 rfl) (Ub 22 rfl) (by decide) (by decide) rfl (fill2v (by simp) rfl rfl) rfl fun r5 => ?_
    refine (Qf 5) ?_
    refine e_stV (i := 1) 5 (Uz 24) rfl rfl rfl rfl rfl (by decide) (.inl rfl) ?_
    refine Qn<|Qs<|Qp<|(QD 1) ?_
    refine e_storeA (i := 0) (Uz 26) rfl rfl (arrv_size _ _) (cells_one ⟨fun _ => rfl, fun _ => rfl, fun _ => rfl, fun _ => rfl, fun _ => rfl, fun _ => rfl, trivial⟩) rfl cells_sz (.inl rfl) ?_
    refine (Qa)<|Qn<|Qr ?_
    exact ⟨_, _, _, _, [90, 91, 2, 3, 92, 4], rfl, .cell (i := 0) rfl rfl (Uu 26) rfl (Uz 26) (arrv_size _ _), .tmp rfl, (by rw [tab_NN.1, tab_NN.2.1, tab_NN.2.2]; exact base_two [1] [1, 3] (own_nil _ _) (own_nil _ _) (by decide) (by decide)), by decide, rfl⟩
  · intro hc0
    have hn0 := of_decide_eq_false hc0
    refine Qs<|Qp ?_
    refine e_eqStr (k := [78, 75]) rfl rfl rfl hl (by decide) ?_
    refine (Qa)<|Qn ?_
    refine e_cond rfl ?_ ?_
    · intro hc1
      obtain rfl : l = nNK := of_decide_eq_true hc1
      refine Qs<|Qp<|(Qf 0) ?_
      refine e_stV (i := 1) 0 (Uz 9) rfl rfl rfl rfl rfl (by decide) (.inl rfl) ?_
      refine Qn<|Qs<|Qp ?_
      refine e_buildSl 2 #[ii 2] (Uu 22 rfl) (Uz 3 rfl) (Ub 3 rfl) (by decide) (by decide) rfl (by kernel_rfl) rfl fun r3 => ?_
      refine (Qf 3)<|(QA 4 1) ?_
      refine e_stV (i := 1) 4 (Uz 22) rfl rfl rfl rfl rfl (by decide) (.inl rfl) ?_
      refine Qn<|Qp ?_
      refine e_buildSl 3 #[ii 1, ii 4] (Uu 22 rfl) (Uz 3 rfl) (Ub 3 rfl) (by decide) (by decide) rfl (by kernel_rfl) rfl fun r4 => ?_
      refine e_buildSl 4 #[ii 1, ii 3] (Uu 22 rfl) (Uz 3 rfl) (Ub 3 rfl) (by decide) (by decide) rfl (by kernel_rfl) rfl fun r5 => ?_
      refine e_buildSl 5 #[slv r4 2, slv r5 2] (Uu 24 rfl) (Uz 22 rfl) (Ub 22 rfl) (by decide) (by decide) rfl (fill2v (by simp) rfl rfl) rfl fun r6 => ?_
      refine (Qf 5) ?_
      refine e_stV (i := 1) 5 (Uz 24) rfl rfl rfl rfl rfl (by decide) (.inl rfl) ?_
      refine Qn<|Qs<|Qp<|(QD 1) ?_
      refine e_storeA (i := 0) (Uz 26) rfl rfl (arrv_size _ _) (cells_one ⟨fun _ => rfl, fun _ => rfl, fun _ => rfl, fun _ => rfl, fun _ => rfl, fun _ => rfl, trivial⟩) rfl cells_sz (.inl rfl) ?_
      refine (Qa)<|Qn<|Qr ?_
      exact ⟨_, _, _, _, [90, 2, 3, 4, 92, 5], rfl, .cell (i := 0) rfl rfl (Uu 26) rfl (Uz 26) (arrv_size _ _), .tmp rfl, (by rw [tab_NK.1, tab_NK.2.1, tab_NK.2.2]; exact base_two [1, 4] [1, 3] (own_nil _ _) (own_lit 3 r3 [2] (by decide)) (by decide) (by decide)), by decide, rfl⟩
    · intro hc1
      have hn1 := of_decide_eq_false hc1
      refine Qs<|Qp ?_
      refine e_eqStr (k := [88, 88]) rfl rfl rfl hl (by decide) ?_
      refine (Qa)<|Qn ?_
      refine e_cond rfl ?_ ?_
      · intro hc2
        obtain rfl : l = nXX := of_decide_eq_true hc2
        refine Qs<|Qp<|(Qf 0) ?_
        refine e_stV (i := 1) 0 (Uz 9) rfl rfl rfl rfl rfl (by decide) (.inl rfl) ?_
        refine Qn<|Qp ?_
        refine e_buildSl 2 #[ii 1] (Uu 22 rfl) (Uz 3 rfl) (Ub 3 rfl) (by decide) (by decide) rfl (by kernel_rfl) rfl fun r3 => ?_
        refine e_buildSl 3 #[ii 1, ii 3, ii 2, ii 4] (Uu 22 rfl) (Uz 3 rfl) (Ub 3 rfl) (by decide) (by decide) rfl (by kernel_rfl) rfl fun r4 => ?_
        refine e_buildSl 4 #[ii 2, ii 5] (Uu 22 rfl) (Uz 3 rfl) (Ub 3 rfl) (by decide) (by decide) rfl (by kernel_rfl) rfl fun r5 => ?_
        refine e_buildSl 5 #[slv r3 1, slv r4 4, slv r5 2] (Uu 24 rfl) (Uz 22 rfl) (Ub 22 rfl) (by decide) (by decide) rfl (fill3 (by simp) rfl rfl rfl) rfl fun r6 => ?_
        refine (Qf 5) ?_
        refine e_stV (i := 1) 5 (Uz 24) rfl rfl rfl rfl rfl (by decide) (.inl rfl) ?_
        refine Qn<|Qs<|Qp<|(QD 1) ?_
        refine e_storeA (i := 0) (Uz 26) rfl rfl (arrv_size _ _) (cells_one ⟨fun _ => rfl, fun _ => rfl, fun _ => rfl, fun _ => rfl, fun _ => rfl, fun _ => rfl, trivial⟩) rfl cells_sz (.inl rfl) ?_
        refine (Qa)<|Qn<|Qr ?_
        exact ⟨_, _, _, _, [90, 91, 2, 3, 4, 5], rfl, .cell (i := 0) rfl rfl (Uu 26) rfl (Uz 26) (arrv_size _ _), .tmp rfl, (by rw [tab_XX.1, tab_XX.2.1, tab_XX.2.2]; exact base_three [1] [1, 3, 2, 4] [2, 5] (own_nil _ _) (own_nil _ _) (by decide) (by decide) (by decide)), by decide, rfl⟩
      · intro hc2
        have hn2 := of_decide_eq_false hc2
        refine Qs<|Qp ?_
        refine e_eqStr (k := [73, 75]) rfl rfl rfl hl (by decide) ?_
        refine (Qa)<|Qn ?_
        refine e_cond rfl ?_ ?_
        · intro hc3
          obtain rfl : l = nIK := of_decide_eq_true hc3
          refine Qs<|Qp<|(Qf 0) ?_
          refine e_stV (i := 1) 0 (Uz 9) rfl rfl rfl rfl rfl (by decide) (.inl rfl) ?_
          refine Qn<|Qs<|Qp ?_
          refine e_buildSl 2 #[ii 2] (Uu 22 rfl) (Uz 3 rfl) (Ub 3 rfl) (by decide) (by decide) rfl (by kernel_rfl) rfl fun r3 => ?_
          refine (Qf 3)<|(QA 4 1) ?_
          refine e_stV (i := 1) 4 (Uz 22) rfl rfl rfl rfl rfl (by decide) (.inl rfl) ?_
          refine Qn<|Qp ?_
          refine e_buildSl 3 #[ii 1, ii 4, ii 2, ii 6] (Uu 22 rfl) (Uz 3 rfl) (Ub 3 rfl) (by decide) (by decide) rfl (by kernel_rfl) rfl fun r4 => ?_
          refine e_buildSl 4 #[ii 1, ii 3, ii 5] (Uu 22 rfl) (Uz 3 rfl) (Ub 3 rfl) (by decide) (by decide) rfl (by kernel_rfl) rfl fun r5 => ?_
          refine e_buildSl 5 #[slv r4 4, slv r5 3] (Uu 24 rfl) (Uz 22 rfl) (Ub 22 rfl) (by decide) (by decide) rfl (fill2v (by simp) rfl rfl) rfl fun r6 => ?_
          refine (Qf 5) ?_
          refine e_stV (i := 1) 5 (Uz 24) rfl rfl rfl rfl rfl (by decide) (.inl rfl) ?_
          refine Qn<|Qs<|Qp<|(QD 1) ?_
          refine e_storeA (i := 0) (Uz 26) rfl rfl (arrv_size _ _) (cells_one ⟨fun _ => rfl, fun _ => rfl, fun _ => rfl, fun _ => rfl, fun _ => rfl, fun _ => rfl, trivial⟩) rfl cells_sz (.inl rfl) ?_
          refine (Qa)<|Qn<|Qr ?_
          exact ⟨_, _, _, _, [90, 2, 3, 4, 92, 5], rfl, .cell (i := 0) rfl rfl (Uu 26) rfl (Uz 26) (arrv_size _ _), .tmp rfl, (by rw [tab_IK.1, tab_IK.2.1, tab_IK.2.2]; exact base_two [1, 4, 2, 6] [1, 3, 5] (own_nil _ _) (own_lit 3 r3 [2] (by decide)) (by decide) (by decide)), by decide, rfl⟩
        · intro hc3
          have hn3 := of_decide_eq_false hc3
          refine Qs<|Qp ?_
          refine e_eqStr (k := [88, 75]) rfl rfl rfl hl (by decide) ?_
          refine (Qa)<|Qn ?_
          refine e_cond rfl ?_ ?_
          · intro hc4
            obtain rfl : l = nXK := of_decide_eq_true hc4
            refine Qs<|Qp<|(Qf 0) ?_
            refine e_stV (i := 1) 0 (Uz 9) rfl rfl rfl rfl rfl (by decide) (.inl rfl) ?_
            refine Qn<|Qs<|Qp ?_
            refine e_buildSl 2 #[ii 2] (Uu 22 rfl) (Uz 3 rfl) (Ub 3 rfl) (by decide) (by decide) rfl (by kernel_rfl) rfl fun r3 => ?_
            refine (Qf 3)<|(QA 4 1) ?_
            refine e_stV (i := 1) 4 (Uz 22) rfl rfl rfl rfl rfl (by decide) (.inl rfl) ?_
            refine Qn<|Qp ?_
            refine e_buildSl 3 #[ii 1, ii 4] (Uu 22 rfl) (Uz 3 rfl) (Ub 3 rfl) (by decide) (by decide) rfl (by kernel_rfl) rfl fun r4 => ?_
            refine e_buildSl 4 #[ii 1, ii 3] (Uu 22 rfl) (Uz 3 rfl) (Ub 3 rfl) (by decide) (by decide) rfl (by kernel_rfl) rfl fun r5 => ?_
            refine e_buildSl 5 #[ii 2, ii 5] (Uu 22 rfl) (Uz 3 rfl) (Ub 3 rfl) (by decide) (by decide) rfl (by kernel_rfl) rfl fun r6 => ?_
            refine e_buildSl 6 #[slv r4 2, slv r5 2, slv r6 2] (Uu 24 rfl) (Uz 22 rfl) (Ub 22 rfl) (by decide) (by decide) rfl (fill3 (by simp) rfl rfl rfl) rfl fun r7 => ?_
            refine (Qf 5) ?_
            refine e_stV (i := 1) 5 (Uz 24) rfl rfl rfl rfl rfl (by decide) (.inl rfl) ?_
            refine Qn<|Qs<|Qp<|(QD 1) ?_
            refine e_storeA (i := 0) (Uz 26) rfl rfl (arrv_size _ _) (cells_one ⟨fun _ => rfl, fun _ => rfl, fun _ => rfl, fun _ => rfl, fun _ => rfl, fun _ => rfl, trivial⟩) rfl cells_sz (.inl rfl) ?_
            refine (Qa)<|Qn<|Qr ?_
            exact ⟨_, _, _, _, [90, 2, 3, 4, 5, 6], rfl, .cell (i := 0) rfl rfl (Uu 26) rfl (Uz 26) (arrv_size _ _), .tmp rfl, (by rw [tab_XK.1, tab_XK.2.1, tab_XK.2.2]; exact base_three [1, 4] [1, 3] [2, 5] (own_nil _ _) (own_lit 3 r3 [2] (by decide)) (by decide) (by decide) (by decide)), by decide, rfl⟩
          · intro hc4
            have hn4 := of_decide_eq_false hc4
            refine Qs<|Qp ?_
            refine e_eqStr (k := [75, 75]) rfl rfl rfl hl (by decide) ?_
            refine (Qa)<|Qn ?_
            refine e_cond rfl ?_ ?_
            · intro hc5
              obtain rfl : l = nKK := of_decide_eq_true hc5
              refine Qs<|Qp<|(Qf 0) ?_
              refine e_stV (i := 1) 0 (Uz 9) rfl rfl rfl rfl rfl (by decide) (.inl rfl) ?_
              refine Qn<|Qs<|Qp ?_
              refine e_buildSl 2 #[ii 2] (Uu 22 rfl) (Uz 3 rfl) (Ub 3 rfl) (by decide) (by decide) rfl (by kernel_rfl) rfl fun r3 => ?_
              refine e_buildSl 3 #[ii 2] (Uu 22 rfl) (Uz 3 rfl) (Ub 3 rfl) (by decide) (by decide) rfl (by kernel_rfl) rfl fun r4 => ?_
              refine e_build (arrv 2 (fun i => if i = 0 then slv r3 1 else slv r4 1)) (Ub 23 rfl) (Uu 23 rfl) (Uz 22 rfl) rfl (fill2v (by rfl) rfl rfl) rfl ?_
              refine (Qf 3) ?_
              refine e_stP (i := 1) (Uz 23) rfl rfl (fun j hj => by rcases (by omega : j = 0 ∨ j = 1) with rfl | rfl <;> rfl) rfl (by decide) (.inl rfl) ?_
              refine e_blk (c' := (cells 6 [pV (sv nKK), pV (.bool false), pV nilS, pV (slv r3 1), pV (slv r4 1), pV nilS])) (arrv_congr fun j hj => by rcases (by omega : j = 0 ∨ j = 1 ∨ j = 2 ∨ j = 3 ∨ j = 4 ∨ j = 5) with rfl | rfl | rfl | rfl | rfl | rfl <;> rfl) ?_
              refine Qn<|Qp ?_
              refine e_buildSl 4 #[ii 1, ii 4, ii 6] (Uu 22 rfl) (Uz 3 rfl) (Ub 3 rfl) (by decide) (by decide) rfl (by kernel_rfl) rfl fun r5 => ?_
              refine e_buildSl 5 #[ii 1, ii 3, ii 5] (Uu 22 rfl) (Uz 3 rfl) (Ub 3 rfl) (by decide) (by decide) rfl (by kernel_rfl) rfl fun r6 => ?_
              refine e_buildSl 6 #[slv r5 3, slv r6 3] (Uu 24 rfl) (Uz 22 rfl) (Ub 22 rfl) (by decide) (by decide) rfl (fill2v (by simp) rfl rfl) rfl fun r7 => ?_
              refine (Qf 5) ?_
              refine e_stV (i := 1) 5 (Uz 24) rfl rfl rfl rfl rfl (by decide) (.inl rfl) ?_
              refine Qn<|Qs<|Qp<|(QD 1) ?_
              refine e_storeA (i := 0) (Uz 26) rfl rfl (arrv_size _ _) (cells_one ⟨fun _ => rfl, fun _ => rfl, fun _ => rfl, fun _ => rfl, fun _ => rfl, fun _ => rfl, trivial⟩) rfl cells_sz (.inl rfl) ?_
              refine (Qa)<|Qn<|Qr ?_
              exact ⟨_, _, _, _, [2, 3, 4, 5, 92, 6], rfl, .cell (i := 0) rfl rfl (Uu 26) rfl (Uz 26) (arrv_size _ _), .tmp rfl, (by rw [tab_KK.1, tab_KK.2.1, tab_KK.2.2]; exact base_two [1, 4, 6] [1, 3, 5] (own_lit 3 r3 [2] (by decide)) (own_lit 3 r4 [2] (by decide)) (by decide) (by decide)), by decide, rfl⟩
            · intro hc5
              have hn5 := of_decide_eq_false hc5
              refine Qs<|Qp ?_
              refine e_eqStr (k := [88, 88, 102, 97, 108, 108, 98, 97, 99, 107]) rfl rfl rfl hl (by decide) ?_
              refine (Qa)<|Qn ?_
              refine e_cond rfl ?_ ?_
              · intro hc6
                obtain rfl : l = nXF := of_decide_eq_true hc6
                refine Qs<|Qp<|(Qf 0) ?_
                refine e_stV (i := 1) 0 (Uz 9) rfl rfl rfl rfl rfl (by decide) (.inl rfl) ?_
                refine (Qf 1) ?_
                refine e_stV (i := 1) 1 (Uz 4) rfl rfl rfl rfl rfl (by decide) (.inl rfl) ?_
                refine Qn<|Qs<|Qp ?_
                refine e_buildSl 2 #[ii 1] (Uu 22 rfl) (Uz 3 rfl) (Ub 3 rfl) (by decide) (by decide) rfl (by kernel_rfl) rfl fun r3 => ?_
                refine (Qf 3)<|(QA 3 0) ?_
                refine e_stV (i := 1) 3 (Uz 22) rfl rfl rfl rfl rfl (by decide) (.inl rfl) ?_
                refine Qn<|Qp ?_
                refine e_buildSl 3 #[ii 1, ii 3, ii 2, ii 4] (Uu 22 rfl) (Uz 3 rfl) (Ub 3 rfl) (by decide) (by decide) rfl (by kernel_rfl) rfl fun r4 => ?_
                refine e_buildSl 4 #[ii 2, ii 5] (Uu 22 rfl) (Uz 3 rfl) (Ub 3 rfl) (by decide) (by decide) rfl (by kernel_rfl) rfl fun r5 => ?_
                refine e_buildSl 5 #[slv r4 4, slv r5 2] (Uu 24 rfl) (Uz 22 rfl) (Ub 22 rfl) (by decide) (by decide) rfl (fill2v (by simp) rfl rfl) rfl fun r6 => ?_
                refine (Qf 5) ?_
                refine e_stV (i := 1) 5 (Uz 24) rfl rfl rfl rfl rfl (by decide) (.inl rfl) ?_
                refine Qn<|Qs<|Qp<|(QD 1) ?_
                refine e_storeA (i := 0) (Uz 26) rfl rfl (arrv_size _ _) (cells_one ⟨fun _ => rfl, fun _ => rfl, fun _ => rfl, fun _ => rfl, fun _ => rfl, fun _ => rfl, trivial⟩) rfl cells_sz (.inl rfl) ?_
                refine (Qa)<|Qn<|Qr ?_
                exact ⟨_, _, _, _, [2, 91, 3, 4, 92, 5], rfl, .cell (i := 0) rfl rfl (Uu 26) rfl (Uz 26) (arrv_size _ _), .tmp rfl, (by rw [tab_XF.1, tab_XF.2.1, tab_XF.2.2]; exact base_two [1, 3, 2, 4] [2, 5] (own_lit 3 r3 [1] (by decide)) (own_nil _ _) (by decide) (by decide)), by decide, rfl⟩
              · intro hc6
                have hn6 := of_decide_eq_false hc6
                exact absurd (ptext_no hn0 hn1 hn2 hn3 hn4 hn5 hn6) h0
end Go.Proofs.YtfldnikepdbgkaaDoor
namespace Go.Proofs.YtfldnikepdbgkaaDoor
open Go Go.RowKit
variable {G : Mem}
end Go.Proofs.YtfldnikepdbgkaaDoor
namespace Go.Proofs.YtfldnikepdbgkaaDoor
open Go Go.RowKit
variable {G : Mem}
set_option maxHeartbeats 8000000 in
theorem dwith_ok (l : List Nat) (v : Value) (ps : List Int) (hl : ∀ b ∈ l, b < 256) (hv : Shows G 1 v ps.length (ps.map iv)) (hz : ps.length ≤ 9223372036854775807) (he : (pwith l ps).1 = 0) : Fx Tryd.prog G [] 11 #[sv l, v] (fun w l1 nw => l1 = [] ∧ ∃ w', w = .tuple #[w', ii 0] ∧ PatIsI l (decide (l = nXF)) ps (wq l ps 0) (wq l ps 1) (wt l ps) w' nw) := by
  obtain ⟨h0, hps4, _⟩ := pwith_in he
  have hpc : pchk (bU l).length ps = 0 := by rw [(bU_len h0).1, ← pwith_pchk h0]; exact he
  obtain ⟨hp4, hpb⟩ := pchk_bound hpc
  obtain ⟨hw1, hw2, hw3⟩ := with_rows he
  rw [hw1, hw2, hw3]
  obtain ⟨_, hb2, hb3, hb4⟩ := bU_len h0
  refine fxD2 (n := 44) Tryd.func11 rfl rfl (by simp) (argE [sv l, v] 0) (argE_ok _) ?_
  refine Qs<|Qp<|(QH 0) fun r1=>(Qa)<|Qn<|Qs<|QR ⟨[], 4, [], none, none⟩<|(Qm) ?_
  refine e_callO 50 rfl rfl (Un 21) seenG (based_fn l hl h0) (base_room 3 22 l (decide (l = nXF)) (bQ l 0) (bQ l 1) (bU l) (.bool true) (by have := (bQ_len h0).1; omega) (by have := (bQ_len h0).2; omega) (fun q hq => by have := (bU_len h0).2.2.2 q hq; omega) (by have := (bU_len h0).2.1; have := (bU_len h0).2.2.1; omega)) rfl rfl fun v1_1 os1_1 hO1_1 => ?_
  obtain ⟨v9, rfl, va, vb, TF, oa, ob, o0, o1, o2, rT, rfl, rfl, hA, hB, hR⟩ := hO1_1
  simp only [labO]
  refine (Qm)<|(Qx)<|(Qx)<|(QH 1) fun r2=>?_
  refine e_storeA (i := 1) (Uz 26) rfl rfl (arrv_size _ _) (catOkP rfl (shows_oneC hA.shows) (shows_oneC hB.shows) rfl) rfl cells_sz (.inl rfl) ?_
  refine (Qa)<|Qn<|Qs<|Qs<|Qp<|(Qm)<|(Q0)<|Qn<|(Qcf)<|Qk<|Qs<|Qs<|Qp<|(Qm)<|(Qf 5)<|(QV 5 1) ?_
  refine e_lenSl (Uu 24) rfl rfl rfl ?_
  refine e_as (show _ = ii (bU l).length from rfl) ?_
  refine e_call rfl (Un 22) (chkpl_fn v ps (bU l).length hv hz) rfl rfl ?_
  refine e_as (congrArg ii hpc) ?_
  refine (Qa)<|Qn<|Qs<|Qp<|(Qm)<|(QN) ?_
  refine e_as (congrArg Value.bool (decide_eq_false (by decide))) ?_
  refine Qn<|(Qcf)<|Qk<|Qs<|Qp ?_
  refine e_buildSl0 2 (Uu 22 rfl) (Uz 3 rfl) rfl fun r3 => ?_
  refine (Qm) ?_
  refine e_append 2 own_none hv rfl seenG (Uu 22) (Uz 3) (Uy 3) (Ub 3) (by rfl) rfl rfl iv_one (by simp only [maxLen]; omega) (by omega) rfl fun v3_2 oz3_2 ho3_2 => ?_
  refine (Qf 2) ?_
  refine e_stV (i := 1) 2 (Uz 22) rfl rfl (shows_oneC ho3_2.shows) rfl rfl (by decide) (.inl rfl) ?_
  refine Qn<|Qs<|Qs<|Qp<|(Qm)<|(QC hv)<|(Qm)<|Qn<|Qb ?_
  refine QzK [(4, _), (5, _), (6, _), (32, _), (33, _)] [(0, _), (1, _), (2, oz3_2), (50, oa), (51, ob)] (fun kk E m => ∃ (i : Nat) (TF1 : Nat → Value) (p0 : Option Blk) (p1 : Option Blk) (p2 : Option Blk), kk = ps.length - i ∧ E = [(34, ii i)] ∧ m = [(52, p0), (53, p1), (54, p2), (55, (some ⟨rT, arrv (bU l).length TF1, 22⟩))] ∧ (i ≤ ps.length) ∧ (RowsIs 3 TF1 ((ps.take i).foldl insU (bU l)) p0 p1 p2) ∧ (∀ q ∈ (ps.take i).foldl insU (bU l), q.length ≤ 4 + i)) ⟨0, TF, o0, o1, o2, rfl, rfl, rfl, by omega, (by rw [List.take_zero]; exact hR), (by rw [List.take_zero]; exact hb4)⟩ ⟨rfl, rfl, rfl, rfl, rfl, rfl, trivial⟩ ⟨rfl, rfl, rfl, rfl, rfl, rfl, rfl, rfl, rfl, trivial⟩ ?_
  rintro kk E m ⟨i, TF1, p0, p1, p2, rfl, rfl, rfl, hf0_0, hf0_1, hf0_2⟩
  simp only [catE, catL]
  refine Qs<|Qp<|(Ql)<|Qn<|Qs ?_
  refine e_cond rfl ?_ ?_
  · intro hc2
    have hc2 : i < ps.length := by have := of_decide_eq_true hc2; omega
    refine Qk<|Qs<|Qb<|Qs<|Qp ?_
    refine e_atV hv (Uu 22) (Uz 3) rfl rfl (by omega) rfl ?_
    refine (QS) ?_
    obtain ⟨n9, hn9⟩ : ∃ n9 : Nat, ps.getD i 0 = (n9 : Int) := ⟨(ps.getD i 0).toNat, by have := hpb i (by omega); omega⟩
    refine e_loadV hv seenG (Uu 3) rfl rfl (iv_at (by omega)) rfl ?_
    refine e_as (show _ = ii n9 from congrArg (Value.int .i64) hn9) ?_
    refine (Qa)<|Qn ?_
    have hnb : n9 ≤ (bU l).length := by have := hpb i (by omega); omega
    have hrl := rowN_le hf0_2 (n9 - 1)
    rcases (by omega : n9 - 1 = 0 ∨ n9 - 1 = 1 ∨ n9 - 1 = 2) with hr | hr | hr
    · skip
      refine QR ⟨[], 5, [], none, none⟩ ?_
      have hRr : OwnS 3 1 (TF1 (n9 - 1)) (((ps.take i).foldl insU (bU l)).getD (n9 - 1) []).length (iis (((ps.take i).foldl insU (bU l)).getD (n9 - 1) [])) p0.toList := by (have h9 := hf0_1 (n9 - 1) (by rw [foldU_len]; omega)); rw [show ox p0 p1 p2 (n9 - 1) = p0 by rw [hr]; rfl] at h9; exact h9
      refine (Qf 5)<|(QV 5 1)<|(Qm) ?_
      refine e_callT 55 52 rfl rfl (Un 23) rfl rfl (by decide) (fun z hz => .inl hz) (fun hne => putpsk_fn (G := G) rT (bU l).length n9 TF1 (((ps.take i).foldl insU (bU l)).getD (n9 - 1) []) p0 hRr (by omega) (by omega) (by omega) hne) (fun m' => by obtain ⟨w, oz, h1, h2⟩ := own_fresh m' 3 (insR n9 (((ps.take i).foldl insU (bU l)).getD (n9 - 1) [])) (by rw [insR_len]; omega); exact ⟨_, _, oz, ⟨rfl, w, rfl, h1⟩, h2⟩) rfl rfl fun v5_3 c5_3 oz5_3 hS5_3 => ?_
      obtain ⟨rfl, w9, rfl, ho9⟩ := hS5_3
      refine Qn<|Qp<|(Q2 1)<|(Qm)<|Qn ?_
      refine QzL ⟨i + 1, _, _, _, _, rfl, rfl, rfl, by omega, (by (have h9 := rows_set (j := n9 - 1) hf0_1 (by omega) ho9); rw [if_pos hr, if_neg (by omega), if_neg (by omega)] at h9; rw [fold_step (by omega), hn9, insU_insR]; exact h9), (fun q hq => by rw [fold_step (by omega)] at hq; have := insU_row hf0_2 q hq; omega)⟩ ⟨rfl, rfl, rfl, rfl, rfl, rfl, trivial⟩ ⟨rfl, rfl, rfl, rfl, rfl, rfl, rfl, rfl, rfl, trivial⟩ ?_
      omega
    · skip
      refine QR ⟨[], 5, [], none, none⟩ ?_
      have hRr : OwnS 3 1 (TF1 (n9 - 1)) (((ps.take i).foldl insU (bU l)).getD (n9 - 1) []).length (iis (((ps.take i).foldl insU (bU l)).getD (n9 - 1) [])) p1.toList := by (have h9 := hf0_1 (n9 - 1) (by rw [foldU_len]; omega)); rw [show ox p0 p1 p2 (n9 - 1) = p1 by rw [hr]; rfl] at h9; exact h9
      refine (Qf 5)<|(QV 5 1)<|(Qm) ?_
      refine e_callT 55 53 rfl rfl (Un 23) rfl rfl (by decide) (fun z hz => .inl hz) (fun hne => putpsk_fn (G := G) rT (bU l).length n9 TF1 (((ps.take i).foldl insU (bU l)).getD (n9 - 1) []) p1 hRr (by omega) (by omega) (by omega) hne) (fun m' => by obtain ⟨w, oz, h1, h2⟩ := own_fresh m' 3 (insR n9 (((ps.take i).foldl insU (bU l)).getD (n9 - 1) [])) (by rw [insR_len]; omega); exact ⟨_, _, oz, ⟨rfl, w, rfl, h1⟩, h2⟩) rfl rfl fun v5_3 c5_3 oz5_3 hS5_3 => ?_
      obtain ⟨rfl, w9, rfl, ho9⟩ := hS5_3
      refine Qn<|Qp<|(Q2 1)<|(Qm)<|Qn ?_
      refine QzL ⟨i + 1, _, _, _, _, rfl, rfl, rfl, by omega, (by (have h9 := rows_set (j := n9 - 1) hf0_1 (by omega) ho9); rw [if_neg (by omega), if_pos hr, if_neg (by omega)] at h9; rw [fold_step (by omega), hn9, insU_insR]; exact h9), (fun q hq => by rw [fold_step (by omega)] at hq; have := insU_row hf0_2 q hq; omega)⟩ ⟨rfl, rfl, rfl, rfl, rfl, rfl, trivial⟩ ⟨rfl, rfl, rfl, rfl, rfl, rfl, rfl, rfl, rfl, trivial⟩ ?_
      omega
    · skip
      refine QR ⟨[], 5, [], none, none⟩ ?_
      have hRr : OwnS 3 1 (TF1 (n9 - 1)) (((ps.take i).foldl insU (bU l)).getD (n9 - 1) []).length (iis (((ps.take i).foldl insU (bU l)).getD (n9 - 1) [])) p2.toList := by (have h9 := hf0_1 (n9 - 1) (by rw [foldU_len]; omega)); rw [show ox p0 p1 p2 (n9 - 1) = p2 by rw [hr]; rfl] at h9; exact h9
      refine (Qf 5)<|(QV 5 1)<|(Qm) ?_
      refine e_callT 55 54 rfl rfl (Un 23) rfl rfl (by decide) (fun z hz => .inl hz) (fun hne => putpsk_fn (G := G) rT (bU l).length n9 TF1 (((ps.take i).foldl insU (bU l)).getD (n9 - 1) []) p2 hRr (by omega) (by omega) (by omega) hne) (fun m' => by obtain ⟨w, oz, h1, h2⟩ := own_fresh m' 3 (insR n9 (((ps.take i).foldl insU (bU l)).getD (n9 - 1) [])) (by rw [insR_len]; omega); exact ⟨_, _, oz, ⟨rfl, w, rfl, h1⟩, h2⟩) rfl rfl fun v5_3 c5_3 oz5_3 hS5_3 => ?_
      obtain ⟨rfl, w9, rfl, ho9⟩ := hS5_3
      refine Qn<|Qp<|(Q2 1)<|(Qm)<|Qn ?_
      refine QzL ⟨i + 1, _, _, _, _, rfl, rfl, rfl, by omega, (by (have h9 := rows_set (j := n9 - 1) hf0_1 (by omega) ho9); rw [if_neg (by omega), if_neg (by omega), if_pos hr] at h9; rw [fold_step (by omega), hn9, insU_insR]; exact h9), (fun q hq => by rw [fold_step (by omega)] at hq; have := insU_row hf0_2 q hq; omega)⟩ ⟨rfl, rfl, rfl, rfl, rfl, rfl, trivial⟩ ⟨rfl, rfl, rfl, rfl, rfl, rfl, rfl, rfl, rfl, trivial⟩ ?_
      omega
  · intro hc2
    have hc2 := of_decide_eq_false hc2
    have hz0 : i = ps.length := by omega
    refine Qe<|Qs<|Qp<|(QD 1) ?_
    refine e_freeze 2 [(0, _), (1, _), (50, _), (51, _), (52, _), (53, _), (54, _), (55, _)] rfl rfl (by repeat (first | exact bag_nil | exact bag_lab _ | apply bag_skip rfl)) ⟨rfl, rfl, rfl, rfl, rfl, rfl, rfl, rfl, trivial⟩ rfl rfl ?_
    simp only [catL]
    refine e_freeze 50 [(0, _), (1, _), (51, _), (52, _), (53, _), (54, _), (55, _)] rfl rfl (by repeat (first | exact bag_nil | exact bag_lab _ | apply bag_skip rfl)) ⟨rfl, rfl, rfl, rfl, rfl, rfl, rfl, trivial⟩ rfl rfl ?_
    simp only [catL]
    refine e_freeze 51 [(0, _), (1, _), (52, _), (53, _), (54, _), (55, _)] rfl rfl (by repeat (first | exact bag_nil | exact bag_lab _ | apply bag_skip rfl)) ⟨rfl, rfl, rfl, rfl, rfl, rfl, trivial⟩ rfl rfl ?_
    simp only [catL]
    refine e_freeze 52 [(0, _), (1, _), (53, _), (54, _), (55, _)] rfl rfl (by repeat (first | exact bag_nil | exact bag_lab _ | apply bag_skip rfl)) ⟨rfl, rfl, rfl, rfl, rfl, trivial⟩ rfl rfl ?_
    simp only [catL]
    refine e_freeze 53 [(0, _), (1, _), (54, _), (55, _)] rfl rfl (by repeat (first | exact bag_nil | exact bag_lab _ | apply bag_skip rfl)) ⟨rfl, rfl, rfl, rfl, trivial⟩ rfl rfl ?_
    simp only [catL]
    refine e_freeze 54 [(0, _), (1, _), (55, _)] rfl rfl (by repeat (first | exact bag_nil | exact bag_lab _ | apply bag_skip rfl)) ⟨rfl, rfl, rfl, trivial⟩ rfl rfl ?_
    simp only [catL]
    refine e_freeze 55 [(0, _), (1, _)] rfl rfl (by repeat (first | exact bag_nil | exact bag_lab _ | apply bag_skip rfl)) ⟨rfl, rfl, trivial⟩ rfl rfl ?_
    simp only [catL]
    refine e_storeA (i := 0) (Uz 26) rfl rfl (arrv_size _ _) (catOkP (shows_oneC ho3_2.shows) (shows_oneC hA.shows) (shows_oneC hB.shows) rfl) rfl cells_sz (.inl rfl) ?_
    refine (Qa)<|Qn<|Qr ?_
    exact ⟨_, _, _, ((((((([] ++ oz3_2.toList) ++ oa.toList) ++ ob.toList) ++ p0.toList) ++ p1.toList) ++ p2.toList) ++ (some ⟨rT, arrv (bU l).length TF1, 22⟩).toList), rfl, .cell (i := 0) rfl rfl (Uu 26) rfl (Uz 26) (arrv_size _ _), .tmp rfl, (by (have hR9 := hf0_1); rw [hz0, List.take_length] at hR9; exact with_pat (own_fix ho3_2 (Nat.zero_add _) rfl) hA hB hR9 (by rw [foldU_len]) (by intro o ho x hx; simp only [List.mem_cons, List.not_mem_nil, or_false] at ho; rcases ho with rfl | rfl | rfl | rfl | rfl | rfl <;> repeat (first | exact List.mem_append_right _ hx | apply List.mem_append_left)) (List.mem_append_right _ (List.mem_singleton.2 rfl))), (by repeat (first | exact bag_nil | exact bag_lab _ | apply bag_skip rfl))⟩
end Go.Proofs.YtfldnikepdbgkaaDoor
namespace Go.Proofs.YtfldnikepdbgkaaDoor
open Go Go.RowKit
theorem eqg37 : Tryd.prog.eqGuardType Tryd.prog.depth 37 = false := by kernel_rfl
theorem pls71 (w : World) : (((#[.mk "secured" 4 0 false "" "signet/trace" 0, .mk "told" 45 1 false "" "signet/trace" 8, .mk "mixed" 45 2 false "" "signet/trace" 32, .mk "used" 3 3 false "" "signet/trace" 56] : Array Field).mapM fun f => do pure (f.offset, ← sizeOf f.type) : Sem (Array (Nat × Nat)))).run Tryd.prog w = .ok #[(0, 1), (1, 1), (2, 1), (3, 1)] w := places_run (l := [(0, 1), (1, 1), (2, 1), (3, 1)]) (by kernel_rfl) w
end Go.Proofs.YtfldnikepdbgkaaDoor
namespace Go.Proofs.YtfldnikepdbgkaaDoor
open Go Go.RowKit
variable {G : Mem}
set_option maxHeartbeats 4000000 in
theorem wmix_fn (b : Nat) (sec : Bool) (s : WS) (n : Nat) (hs : s.Good n) (hn : n ≤ 1000) (v1 v2 : Value) (xs1 xs2 : List Value) (oa ob : Option Blk) (h1 : OwnS 53 4 v1 s.told.length xs1 oa.toList) (h2 : TO G s.told xs1) (h3 : OwnS 53 4 v2 s.mixed.length xs2 ob.toList) (h4 : TO G s.mixed xs2) (hnd : (((⟨b, wC sec v1 v2 s.used, 71⟩ : Blk) :: (oa.toList ++ ob.toList) : Mem).map (·.b)).Nodup) (t : TT) (c : Value) (ys : List Value) (hT : TL G t.args c ys) : Fx Tryd.prog G ((⟨b, wC sec v1 v2 s.used, 71⟩ : Blk) :: (oa.toList ++ ob.toList)) 53 #[ptr b, .agg (tC t c)] (Three b 71 oa ob (fun c' o1 o2 fz => WireIs 53 (fz ++ G) sec (s.mix t) c' o1 o2)) := by
  have hl1 := hs.tlen
  have hl2 := hs.mlen
  have hl3 := hs.ulen
  have hco := shows_oneC hT.2.1
  refine fxW3 (n := 15) Tryd.func53 rfl rfl (by simp) (argE [ptr b, .agg (tC t c)] 0) (argE_ok _) hnd ?_
  refine Qs<|Qp<|(Qh 3) fun r4=>Qn<|(Qq ⟨[], 1, [], none, (some (14, b))⟩)<|(Qm) ?_
  refine e_nilCheck rfl rfl ?_
  refine (Qf 2)<|(QV 2 0)<|(QD 3)<|(QC h3.shows) ?_
  refine e_buildSl 4 #[iv 0, iv 0, iv 0, nilS] (Uu 45 rfl) (Uz 53 rfl) (Ub 53 rfl) (by decide) (by decide) rfl (by kernel_rfl) rfl fun r5 => ?_
  refine e_appendJ 2 [(0, _), (1, _), (3, _), (4, _)] h3 (shows_new _ _ (by rfl)) rfl (seen1 4 rfl ⟨[], trivial⟩) (by repeat (first | exact bag_nil | exact bag_lab _ | apply bag_skip rfl)) (fun _ => ⟨rfl, rfl, rfl, rfl, trivial⟩) rfl rfl (Uu 45) (Uz 53) (Uy 53) (Ub 53) (by rfl) rfl rfl (by decide) (by simp only [maxLen]; omega) (by omega) rfl fun vq ozq jkq hoq hjq => ?_
  simp only [catL]
  refine e_atV hoq.shows (Uu 45) (Uz 53) rfl rfl (by omega) rfl ?_
  refine e_stOwnS (i := 2) hoq (Uz 53) rfl rfl (arrv_size _ _) (cells_one ⟨fun _ => rfl, fun _ => rfl, fun _ => rfl, fun _ => shows_oneC hT.2.1, trivial⟩) rfl (by omega) rfl (fun oz1_2 ho1_2 => ?_) (y_off 0 rfl (by decide) rfl (by decide))
  refine e_nilCheck rfl rfl ?_
  refine (Qf 2) ?_
  refine e_stVY (i := 0) 2 (Uz 45) rfl rfl (shows_oneC (OwnS.shows (own_fill h4.1 rfl ho1_2))) rfl rfl (by decide) (hid_var rfl rfl) ?_ (y_var rfl rfl)
  refine Qn ?_
  have hown9 := own_app (L := s.mixed) t (own_fill h4.1 rfl ho1_2)
  exact ⟨rfl, _, _, _, ([] ++ jkq), ⟨_, _, _, _, rfl, h1, h2.mono (fun z hz => List.mem_append_right _ hz), hown9, (h4.app (to_one hT)).mono (fun z hz => List.mem_append_right _ hz)⟩, rfl, rfl, rfl, (by repeat (first | exact bag_nil | exact bag_lab _ | apply bag_skip rfl)), (ids_2 (ids_own hoq hown9 hjq))⟩
end Go.Proofs.YtfldnikepdbgkaaDoor
namespace Go.Proofs.YtfldnikepdbgkaaDoor
open Go Go.RowKit
variable {G : Mem}
set_option maxHeartbeats 4000000 in
theorem wshow_fn (b : Nat) (sec : Bool) (s : WS) (n : Nat) (hs : s.Good n) (hn : n ≤ 900) (v1 v2 : Value) (xs1 xs2 : List Value) (oa ob : Option Blk) (h1 : OwnS 53 4 v1 s.told.length xs1 oa.toList) (h2 : TO G s.told xs1) (h3 : OwnS 53 4 v2 s.mixed.length xs2 ob.toList) (h4 : TO G s.mixed xs2) (hnd : (((⟨b, wC sec v1 v2 s.used, 71⟩ : Blk) :: (oa.toList ++ ob.toList) : Mem).map (·.b)).Nodup) (t : TT) (c : Value) (ys : List Value) (hT : TL G t.args c ys) (ht : t.form = 0) : Fx Tryd.prog G ((⟨b, wC sec v1 v2 s.used, 71⟩ : Blk) :: (oa.toList ++ ob.toList)) 52 #[ptr b, .agg (tC t c)] (Three b 71 oa ob (fun c' o1 o2 fz => WireIs 53 (fz ++ G) sec (s.show sec t) c' o1 o2)) := by
  have hl1 := hs.tlen
  have hl2 := hs.mlen
  have hl3 := hs.ulen
  have hco := shows_oneC hT.2.1
  refine fxW3 (n := 22) Tryd.func52 rfl rfl (by simp) (argE [ptr b, .agg (tC t c)] 0) (argE_ok _) hnd ?_
  refine Qs<|Qp<|(Qh 3) fun r4=>Qn<|Qs<|(Qq ⟨[], 1, [], none, (some (14, b))⟩)<|(Qm) ?_
  refine e_nilCheck rfl rfl ?_
  refine (Qf 1)<|(QV 1 0)<|(QD 3)<|(QC h1.shows) ?_
  refine e_buildSl 4 #[iv 0, iv 0, iv 0, nilS] (Uu 45 rfl) (Uz 53 rfl) (Ub 53 rfl) (by decide) (by decide) rfl (by kernel_rfl) rfl fun r5 => ?_
  refine e_appendJ 1 [(0, _), (2, _), (3, _), (4, _)] h1 (shows_new _ _ (by rfl)) rfl (seen1 4 rfl ⟨[], trivial⟩) (by repeat (first | exact bag_nil | exact bag_lab _ | apply bag_skip rfl)) (fun _ => ⟨rfl, rfl, rfl, rfl, trivial⟩) rfl rfl (Uu 45) (Uz 53) (Uy 53) (Ub 53) (by rfl) rfl rfl (by decide) (by simp only [maxLen]; omega) (by omega) rfl fun vq ozq jkq hoq hjq => ?_
  simp only [catL]
  refine e_atV hoq.shows (Uu 45) (Uz 53) rfl rfl (by omega) rfl ?_
  refine e_stOwnS (i := 1) hoq (Uz 53) rfl rfl (arrv_size _ _) (cells_one ⟨fun _ => rfl, fun _ => rfl, fun _ => rfl, fun _ => shows_oneC hT.2.1, trivial⟩) rfl (by omega) rfl (fun oz1_2 ho1_2 => ?_) (y_off 0 rfl (by decide) rfl (by decide))
  refine e_nilCheck rfl rfl ?_
  refine (Qf 1) ?_
  refine e_stVY (i := 0) 1 (Uz 45) rfl rfl (shows_oneC (OwnS.shows (own_fill h2.1 rfl ho1_2))) rfl rfl (by decide) (hid_var rfl rfl) ?_ (y_var rfl rfl)
  refine Qn ?_
  have hown9 := own_app (L := s.told) t (own_fill h2.1 rfl ho1_2)
  have hto9 := (h2.app (to_one hT)).mono (G' := ([] ++ jkq) ++ G) (fun z hz => List.mem_append_right _ hz)
  have hg9 : WS.Good ⟨s.told ++ [t], s.mixed, s.used⟩ (n + 1) := ⟨all_snoc hs.told ht, hs.mixed, by simp only [List.length_append, List.length_singleton]; omega, (by show s.mixed.length ≤ n + 1; omega), (by show s.used ≤ n + 1; omega)⟩
  refine Qs<|Qp<|(Qm) ?_
  refine e_nilCheck rfl rfl ?_
  refine (Qf 0)<|(QV 0 0)<|Qn ?_
  refine e_cond rfl ?_ ?_
  · intro hc0
    cases hc0
    refine QR ⟨[], 5, [], none, none⟩<|(Qm)<|(QD 3) ?_
    refine e_call3 0 1 2 [(3, _), (4, _)] (by repeat (first | exact bag_nil | exact bag_lab _ | apply bag_skip rfl)) ⟨rfl, rfl, trivial⟩ rfl ⟨⟨rfl, rfl⟩, rfl⟩ (by decide) rfl rfl (Un 53) rfl rfl rfl (bag_off3 (by repeat (first | exact bag_nil | exact bag_lab _ | apply bag_skip rfl))) (fun hnd => wmix_fn (G := ([] ++ jkq) ++ G) b _ ⟨s.told ++ [t], s.mixed, s.used⟩ (n + 1) hg9 (by omega) _ _ _ _ _ _ hown9 hto9 h3 (h4.mono (fun z hz => List.mem_append_right _ hz)) hnd t c ys (hT.mono (fun z hz => List.mem_append_right _ hz))) (fun m' => wire_room 53 _ _ _ (hg9.mix ht) (by simp only [maxLen]; omega) m') rfl rfl fun cr oar obr nfr hSr hir => ?_
    simp only [catL]
    refine Qn ?_
    exact ⟨rfl, _, _, _, (([] ++ jkq) ++ nfr), (by first | exact ⟨_, _, _, _, rfl, hown9, hto9, h3, h4.mono (fun z hz => List.mem_append_right _ hz)⟩ | exact hSr.mono in3), rfl, rfl, rfl, (by repeat (first | exact bag_nil | exact bag_lab _ | apply bag_skip rfl)), (by first | exact ids_1 (ids_own hoq hown9 hjq) | exact ids_then (ids_1 (ids_own hoq hown9 hjq)) hir)⟩
  · intro hc0
    cases hc0
    refine Qk ?_
    exact ⟨rfl, _, _, _, ([] ++ jkq), (by first | exact ⟨_, _, _, _, rfl, hown9, hto9, h3, h4.mono (fun z hz => List.mem_append_right _ hz)⟩ | exact hSr.mono in3), rfl, rfl, rfl, (by repeat (first | exact bag_nil | exact bag_lab _ | apply bag_skip rfl)), (by first | exact ids_1 (ids_own hoq hown9 hjq) | exact ids_then (ids_1 (ids_own hoq hown9 hjq)) hir)⟩
end Go.Proofs.YtfldnikepdbgkaaDoor
namespace Go.Proofs.YtfldnikepdbgkaaDoor
open Go Go.RowKit
variable {G : Mem}
set_option maxHeartbeats 400000 in
theorem tatom_fn (i : Int) : Fn Tryd.prog G 20 #[iv i] (.agg (tC (atomT i) nilS)) := by
  refine Qf1 Tryd.func20 ?_
  refine Qs<|Qp<|(QH 0) fun r1=>Qn<|Qs<|Qp<|(Qm) ?_
  refine e_buildS (tC (atomT i) nilS) (Ub 53 rfl) (Uu 53 rfl) pls53 rfl (by kernel_rfl) rfl ?_
  refine e_storeA (i := 0) (Uz 53) rfl rfl (arrv_size _ _) (cells_one ⟨fun _ => rfl, fun _ => rfl, fun _ => rfl, fun _ => rfl, trivial⟩) rfl cells_sz (.inl rfl) ?_
  refine Qn<|Qr ?_
  exact ⟨_, rfl, .cell (i := 0) rfl rfl (Uu 53) rfl (Uz 53) (arrv_size _ _)⟩
set_option maxHeartbeats 400000 in
theorem tpub_fn (i : Int) : Fn Tryd.prog G 32 #[iv i] (.agg (tC (pubT i) nilS)) := by
  refine Qf1 Tryd.func32 ?_
  refine Qs<|Qp<|(QH 0) fun r1=>Qn<|Qs<|Qp<|(Qm) ?_
  refine e_buildS (tC (pubT i) nilS) (Ub 53 rfl) (Uu 53 rfl) pls53 rfl (by kernel_rfl) rfl ?_
  refine e_storeA (i := 0) (Uz 53) rfl rfl (arrv_size _ _) (cells_one ⟨fun _ => rfl, fun _ => rfl, fun _ => rfl, fun _ => rfl, trivial⟩) rfl cells_sz (.inl rfl) ?_
  refine Qn<|Qr ?_
  exact ⟨_, rfl, .cell (i := 0) rfl rfl (Uu 53) rfl (Uz 53) (arrv_size _ _)⟩
set_option maxHeartbeats 400000 in
theorem agreed_fn (k : Int) : Fn Tryd.prog G 54 #[iv k] (.agg (tC (agT k) nilS)) := by
  refine Qf1 Tryd.func54 ?_
  refine Qs<|Qp<|(QH 0) fun r1=>Qn<|Qs<|Qp<|(Qa)<|(Qa)<|Qn<|Qs<|Qs<|Qp ?_
  refine e_join [(0, _), (2, _), (3, _), (4, _)] [(10, .bool (decide (k = 3) || decide (k = 4)))] [(0, some _)] ⟨rfl, rfl, rfl, rfl, trivial⟩ ⟨rfl, trivial⟩ ?_ ?_
  · skip
    refine (Qm)<|(Qc)<|(Qm) ?_
    refine e_case (fun hb0 => ?_) (fun hb0 => ?_)
    · skip
      refine (Qo)<|(Qo)<|(QT)<|Qn ?_
      exact ⟨⟨rfl, rfl, rfl, rfl, trivial⟩, ⟨bool_fin (by rw [hb0] <;> rfl), trivial⟩, ⟨rfl, trivial⟩⟩
    · skip
      refine (Qy)<|(Qm)<|(Qy)<|(Qc)<|(QF)<|Qn ?_
      exact ⟨⟨rfl, rfl, rfl, rfl, trivial⟩, ⟨bool_fin (by rw [hb0] <;> rfl), trivial⟩, ⟨rfl, trivial⟩⟩
  · simp only [catE]
    refine s_join [(0, _), (2, _), (10, _)] [(3, ii (agF k)), (4, ii 2)] [(0, some _)] ⟨rfl, rfl, rfl, trivial⟩ ⟨rfl, trivial⟩ ?_ ?_
    · skip
      refine e_cond rfl ?_ ?_
      · intro hc0
        refine Qp<|(Qa)<|Qn ?_
        exact ⟨⟨rfl, rfl, rfl, trivial⟩, ⟨(by unfold agF; first | (rw [if_pos (by simpa using hc0)] <;> rfl) | (rw [if_neg (by simpa using hc0)] <;> rfl)), rfl, trivial⟩, ⟨rfl, trivial⟩⟩
      · intro hc0
        refine Qk ?_
        exact ⟨⟨rfl, rfl, rfl, trivial⟩, ⟨(by unfold agF; first | (rw [if_pos (by simpa using hc0)] <;> rfl) | (rw [if_neg (by simpa using hc0)] <;> rfl)), rfl, trivial⟩, ⟨rfl, trivial⟩⟩
    · simp only [catE]
      refine Qs<|Qs<|Qp ?_
      refine e_join [(0, _), (2, _), (3, _), (4, _), (10, _)] [(16, .bool (decide (k = 3) || decide (k = 5)))] [(0, some _)] ⟨rfl, rfl, rfl, rfl, rfl, trivial⟩ ⟨rfl, trivial⟩ ?_ ?_
      · skip
        refine (Qm)<|(Qc)<|(Qm) ?_
        refine e_case (fun hb1 => ?_) (fun hb1 => ?_)
        · skip
          refine (Qo)<|(Qo)<|(QT)<|Qn ?_
          exact ⟨⟨rfl, rfl, rfl, rfl, rfl, trivial⟩, ⟨bool_fin (by rw [hb1] <;> rfl), trivial⟩, ⟨rfl, trivial⟩⟩
        · skip
          refine (Qy)<|(Qm)<|(Qy)<|(Qc)<|(QF)<|Qn ?_
          exact ⟨⟨rfl, rfl, rfl, rfl, rfl, trivial⟩, ⟨bool_fin (by rw [hb1] <;> rfl), trivial⟩, ⟨rfl, trivial⟩⟩
      · simp only [catE]
        refine s_join [(0, _), (2, _), (3, _), (10, _), (16, _)] [(4, ii (agO k))] [(0, some _)] ⟨rfl, rfl, rfl, rfl, rfl, trivial⟩ ⟨rfl, trivial⟩ ?_ ?_
        · skip
          refine e_cond rfl ?_ ?_
          · intro hc1
            refine Qp<|(Qa)<|Qn ?_
            exact ⟨⟨rfl, rfl, rfl, rfl, rfl, trivial⟩, ⟨(by unfold agO; first | (rw [if_pos (by simpa using hc1)] <;> rfl) | (rw [if_neg (by simpa using hc1)] <;> rfl)), trivial⟩, ⟨rfl, trivial⟩⟩
          · intro hc1
            refine Qk ?_
            exact ⟨⟨rfl, rfl, rfl, rfl, rfl, trivial⟩, ⟨(by unfold agO; first | (rw [if_pos (by simpa using hc1)] <;> rfl) | (rw [if_neg (by simpa using hc1)] <;> rfl)), trivial⟩, ⟨rfl, trivial⟩⟩
        · simp only [catE]
          refine Qs<|Qp<|(Qm)<|(Qm) ?_
          refine e_min rfl rfl rfl rfl ?_
          refine (Qm)<|(Qm) ?_
          refine e_max rfl rfl rfl rfl ?_
          refine e_buildS (tC (agT k) nilS) (Ub 53 rfl) (Uu 53 rfl) pls53 rfl (by kernel_rfl) rfl ?_
          refine e_storeA (i := 0) (Uz 53) rfl rfl (arrv_size _ _) (cells_one ⟨fun _ => rfl, fun _ => rfl, fun _ => rfl, fun _ => rfl, trivial⟩) rfl cells_sz (.inl rfl) ?_
          refine Qn<|Qr ?_
          exact ⟨_, rfl, .cell (i := 0) rfl rfl (Uu 53) rfl (Uz 53) (arrv_size _ _)⟩
set_option maxHeartbeats 2000000 in
theorem kdf_fn (w : Int) (a b : TT) (ca cb : Value) (ya yb : List Value) (hA : TL G a.args ca ya) (hB : TL G b.args cb yb) : Fx Tryd.prog G [] 66 #[iv w, .agg (tC a ca), .agg (tC b cb)] (fun v l1 nw => l1 = [] ∧ TermD G (kdfT w a b) v nw) := by
  have hco := shows_oneC hA.2.1
  have hco2 := shows_oneC hB.2.1
  refine fxD (n := 12) Tryd.func66 rfl rfl (by simp) (argE [iv w, .agg (tC a ca), .agg (tC b cb)] 0) (argE_ok _) ?_
  refine Qs<|Qp<|(Qh 0) fun r1=>(Qh 1) fun r2=>(QH 2) fun r3=>Qn<|Qs<|Qp<|(Qm)<|(QD 0)<|(QD 1) ?_
  refine e_buildSl 3 ((tC a ca).toList ++ (tC b cb).toList).toArray (Uu 45 rfl) (Uz 53 rfl) (Ub 53 rfl) (by decide) (by decide) rfl (fill_tC2 (by kernel_rfl)) rfl fun r4 => ?_
  refine e_buildS (tC (kdfT w a b) (.slice (some ⟨r4, 0, none⟩) 2 2)) (Ub 53 rfl) (Uu 53 rfl) pls53 rfl (by kernel_rfl) rfl ?_
  refine e_storeA (i := 2) (Uz 53) rfl rfl (arrv_size _ _) (cells_one ⟨fun _ => rfl, fun _ => rfl, fun _ => rfl, fun _ => rfl, trivial⟩) rfl cells_sz (.inl rfl) ?_
  refine Qn ?_
  refine s_freeze 3 [(0, _), (1, _), (2, _)] rfl rfl (by repeat (first | exact bag_nil | exact bag_lab _ | apply bag_skip rfl)) ⟨rfl, rfl, rfl, trivial⟩ rfl rfl ?_
  simp only [catL]
  refine Qr ?_
  exact ⟨_, _, ([] ++ (some (⟨r4, ((tC a ca).toList ++ (tC b cb).toList).toArray, 53⟩ : Blk)).toList), rfl, .cell (i := 2) rfl rfl (Uu 53) rfl (Uz 53) (arrv_size _ _), ⟨_, _, rfl, tl_blk (n := 2) (l := [a, b]) ((to_one (hA.mono (fun z hz => List.mem_append_right _ hz))).app (to_one (hB.mono (fun z hz => List.mem_append_right _ hz)))) rfl (List.mem_append_left _ (List.mem_append_right _ (List.mem_singleton.2 rfl))) (by decide)⟩, (by repeat (first | exact bag_nil | exact bag_lab _ | apply bag_skip rfl))⟩
set_option maxHeartbeats 2000000 in
theorem lock_fn (a b t : TT) (ca cb ct : Value) (ya yb yt : List Value) (hA : TL G a.args ca ya) (hB : TL G b.args cb yb) (hC : TL G t.args ct yt) : Fx Tryd.prog G [] 55 #[.agg (tC a ca), .agg (tC b cb), .agg (tC t ct)] (fun v l1 nw => l1 = [] ∧ TermD G (lockT a b t) v nw) := by
  have hco := shows_oneC hA.2.1
  have hco2 := shows_oneC hB.2.1
  have hco3 := shows_oneC hC.2.1
  refine fxD (n := 12) Tryd.func55 rfl rfl (by simp) (argE [.agg (tC a ca), .agg (tC b cb), .agg (tC t ct)] 0) (argE_ok _) ?_
  refine Qs<|Qp<|(Qh 0) fun r1=>(Qh 1) fun r2=>(Qh 2) fun r3=>(QH 3) fun r4=>Qn<|Qs<|Qp<|(QD 0)<|(QD 1)<|(QD 2) ?_
  refine e_buildSl 4 ((tC a ca).toList ++ (tC b cb).toList ++ (tC t ct).toList).toArray (Uu 45 rfl) (Uz 53 rfl) (Ub 53 rfl) (by decide) (by decide) rfl (fill_tC3 (by kernel_rfl)) rfl fun r5 => ?_
  refine e_buildS (tC (lockT a b t) (.slice (some ⟨r5, 0, none⟩) 3 3)) (Ub 53 rfl) (Uu 53 rfl) pls53 rfl (by kernel_rfl) rfl ?_
  refine e_storeA (i := 3) (Uz 53) rfl rfl (arrv_size _ _) (cells_one ⟨fun _ => rfl, fun _ => rfl, fun _ => rfl, fun _ => rfl, trivial⟩) rfl cells_sz (.inl rfl) ?_
  refine Qn ?_
  refine s_freeze 4 [(0, _), (1, _), (2, _), (3, _)] rfl rfl (by repeat (first | exact bag_nil | exact bag_lab _ | apply bag_skip rfl)) ⟨rfl, rfl, rfl, rfl, trivial⟩ rfl rfl ?_
  simp only [catL]
  refine Qr ?_
  exact ⟨_, _, ([] ++ (some (⟨r5, ((tC a ca).toList ++ (tC b cb).toList ++ (tC t ct).toList).toArray, 53⟩ : Blk)).toList), rfl, .cell (i := 3) rfl rfl (Uu 53) rfl (Uz 53) (arrv_size _ _), ⟨_, _, rfl, tl_blk (n := 3) (l := [a, b, t]) ((to_one (hA.mono (fun z hz => List.mem_append_right _ hz))).app (to_one (hB.mono (fun z hz => List.mem_append_right _ hz))) |>.app (to_one (hC.mono (fun z hz => List.mem_append_right _ hz)))) rfl (List.mem_append_left _ (List.mem_append_right _ (List.mem_singleton.2 rfl))) (by decide)⟩, (by repeat (first | exact bag_nil | exact bag_lab _ | apply bag_skip rfl))⟩
end Go.Proofs.YtfldnikepdbgkaaDoor
