import Derived.Test.YtfldnikepdbgkaaKt1
import Derived.Lib.AppendZeros
import Derived.ScopeJumps
import Derived.ProofKit
import Derived.OpenShut
import Derived.Carry
import Derived.SizedLaws
namespace Go.Proofs.Ytfldnikepdbgkaa
open Go Go.RowKit
section
variable {P : Program} {G : Mem} {R : Reg} {ops : Array Oper} {n : Nat} {K : Env → Mm → Prop} {rest : List Oper} {E : Env} {M : Mm} {d : Nat} {ty : TypeId} {pos : String} {aft : Array Edge}
variable {T T' : TypeId} {x y : Operand}
def SeenE (G : Mem) (R : Reg) (M : Mm) (B : Mem) : Prop := ∀ z ∈ B, z ∈ G ∨ ∃ i, lkM M i = some z ∧ ∃ js, okXL M i js R
theorem SeenE.seen {B : Mem} (h : SeenE G R M B) {m : Mem} (hM : FitsM M m) : Seen G R m B := fun z hz => by
  rcases h z hz with h1 | ⟨i, h1, js, h2⟩
  · exact .inl h1
  · exact .inr ⟨hM.has i z h1, okXL_not hM h1 h2⟩
theorem seenG : SeenE G R M G := fun _ hz => .inl hz
theorem seenM (i : Nat) {oz : Option Blk} (hi : lkM M i = oz) (hX : ∃ js, okXL M i js R) : SeenE G R M oz.toList := fun z hz => by
  have : oz = some z := by simpa using hz
  exact .inr ⟨i, hi.trans this, hX⟩
theorem seen1 (i : Nat) {z : Blk} (hi : lkM M i = some z) (hX : ∃ js, okXL M i js R) : SeenE G R M [z] := fun q hq => by
  simp at hq; subst hq
  exact .inr ⟨i, hi, hX⟩
theorem e_lenV {e : TypeId} {v : Value} {B : Mem} {z k : Nat} {xs : List Value} (hv : Shows B z v k xs) (hT : P.underlying T = some (.slice e)) (hx : rd E x = some v) (hd : Nat.blt d n = true) (hR : callOk R = true) (h : OpsE P G R ops n K rest ((d, ii k) :: E) M) :
    OpsE P G R ops n K (⟨some d, .call ⟨.builtin .len, #[x], #[T]⟩, ty, pos, aft, none⟩ :: rest) E M := fun _ _ ha hM => st_lenS hR hT (ha.rd hx) hv (h _ _ (ha.put hd _) hM)
theorem e_min {k k' : IntKind} {p q : Nat} (hx : rd E x = some (.int k (p : Int))) (hy : rd E y = some (.int k' (q : Int))) (hd : Nat.blt d n = true) (hR : callOk R = true) (h : OpsE P G R ops n K rest ((d, .int k ((min p q : Nat) : Int)) :: E) M) :
    OpsE P G R ops n K (⟨some d, .call ⟨.builtin .min, #[x, y], #[T, T']⟩, ty, pos, aft, none⟩ :: rest) E M := fun _ _ ha hM => st_min hR (ha.rd hx) (ha.rd hy) (h _ _ (ha.put hd _) hM)
theorem e_atV {e : TypeId} {k : IntKind} {v : Value} {B : Mem} {z l j : Nat} {xs : List Value} (hv : Shows B z v l xs) (hT : P.underlying T = some (.slice e)) (hs : (P.info? e).map (·.size) = some z) (hx : rd E x = some v) (hy : rd E y = some (.int k (j : Int))) (hj : j < l) (hd : Nat.blt d n = true)
    (h : OpsE P G R ops n K rest ((d, slAddr v (j * z)) :: E) M) : OpsE P G R ops n K (⟨some d, .indexAddr T x y, ty, pos, aft, none⟩ :: rest) E M := fun _ _ ha hM => st_atV hT hs (ha.rd hx) (ha.rd hy) hv hj (h _ _ (ha.put hd _) hM)
theorem e_loadV {td : TypeDesc} {v u : Value} {B : Mem} {l j : Nat} {xs : List Value} (hv : Shows B 1 v l xs) (hB : SeenE G R M B) (hT : P.underlying T = some td) (hn : rowLike td = false) (hx : rd E x = some (slAddr v j)) (hj : xs[j]? = some u) (hd : Nat.blt d n = true)
    (h : OpsE P G R ops n K rest ((d, u) :: E) M) : OpsE P G R ops n K (⟨some d, .load T x, ty, pos, aft, none⟩ :: rest) E M := fun _ _ ha hM => st_loadV (hB.seen hM) hT hn (ha.rd hx) hv hj (h _ _ (ha.put hd _) hM)
theorem e_sliceV (i j : Nat) {e : TypeId} {v : Value} {B : Mem} {z l : Nat} {xs : List Value} {lo hi : Option Operand} {vl vh : Option Value} (hv : Shows B z v l xs) (hT : P.underlying T = some (.slice e)) (hs : (P.info? e).map (·.size) = some z) (hx : rd E x = some v) (hlo : rdo E lo = some vl) (hhi : rdo E hi = some vh) (hl : isB vl i 0) (hh : isB vh j l)
    (h1 : i ≤ j) (h2 : j ≤ l) (hd : Nat.blt d n = true) (hK : OpsE P G R ops n K rest ((d, slPart z v i j) :: E) M) : OpsE P G R ops n K (⟨some d, .slice T x lo hi none, ty, pos, aft, none⟩ :: rest) E M :=
  fun _ _ ha hM => st_sliceV hT hs (ha.rd hx) hv (by rw [ha.rdo hlo]; exact hl) (by rw [ha.rdo hhi]; exact hh) h1 h2 (hK _ _ (ha.put hd _) hM)
theorem FitsM.change {m m' : Mem} (hM : FitsM M m) (i : Nat) {oz : Option Blk} (h1 : ∀ j x, j ≠ i → lkM M j = some x → x ∈ m') (h2 : ∀ z, oz = some z → z ∈ m' ∧ ∀ j x, j ≠ i → lkM M j = some x → x.b ≠ z.b) : FitsM ((i, oz) :: M) m' := by
  refine ⟨fun j x hx => ?_, fun j k x z hx hz hne => ?_⟩
  · rw [lkM_cons] at hx
    split at hx
    · exact (h2 x hx).1
    · rename_i hne; exact h1 j x (fun e => hne e.symm) hx
  · rw [lkM_cons] at hx hz
    split at hx
    · split at hz
      · rename_i e1 e2; exact absurd (e1.symm.trans e2) hne
      · rename_i e2; exact fun e => (h2 x hx).2 k z (fun e' => e2 e'.symm) hz e.symm
    · split at hz
      · rename_i e1 _; exact (h2 z hz).2 j x (fun e' => e1 e'.symm) hx
      · exact hM.apart j k x z hx hz hne
theorem FitsM.others {m lr : Mem} (hM : FitsM M m) {i : Nat} {oz : Option Blk} (hi : lkM M i = oz) (hp : List.Perm m (oz.toList ++ lr)) : ∀ j x, j ≠ i → lkM M j = some x → x ∈ lr := fun j x hne hx => by
  have hm := hp.mem_iff.1 (hM.has j x hx)
  rcases List.mem_append.1 hm with h | h
  · have : oz = some x := by simpa using h
    exact absurd rfl (hM.apart j i x x hx (hi.trans this) hne)
  · exact h
theorem FitsM.perm1 {m : Mem} (hM : FitsM M m) {i : Nat} {oz : Option Blk} (hi : lkM M i = oz) : ∃ lr, List.Perm m (oz.toList ++ lr) := by
  cases oz with
  | none => exact ⟨m, by simp⟩
  | some z =>
    obtain ⟨l1, l2, h⟩ := List.append_of_mem (hM.has i z hi)
    exact ⟨l1 ++ l2, by rw [h]; simp⟩
theorem FitsM.same {m lr : Mem} (hM : FitsM M m) {i : Nat} {oz oz' : Option Blk} (hi : lkM M i = oz) (hp : List.Perm m (oz.toList ++ lr)) (hid : oz'.toList.map (·.b) = oz.toList.map (·.b)) : FitsM ((i, oz') :: M) (oz'.toList ++ lr) :=
  hM.change i (fun j x hne hx => List.mem_append_right _ (hM.others hi hp j x hne hx)) fun z hz => ⟨by subst hz; simp, fun j x hne hx => by
    subst hz
    cases oz with
    | none => simp at hid
    | some q =>
      simp at hid
      rw [hid]; exact hM.apart j i x q hx hi hne⟩
theorem FitsM.fresh {m lr : Mem} (hM : FitsM M m) (i : Nat) {oz : Option Blk} {l0 : Mem} (hp : List.Perm m (l0 ++ lr)) (hf : FreshM m oz.toList) : FitsM ((i, oz) :: M) (l0 ++ lr ++ oz.toList) :=
  hM.change i (fun j x _ hx => List.mem_append_left _ (hp.mem_iff.1 (hM.has j x hx))) fun z hz => ⟨by subst hz; simp, fun j x _ hx => hf.2 z (by subst hz; simp) x (hM.has j x hx)⟩
theorem own_opt {e : TypeId} {z k : Nat} {v : Value} {xs : List Value} {l : Mem} (h : OwnS e z v k xs l) : ∃ oz : Option Blk, l = oz.toList := by
  rcases h with ⟨_, _, _, rfl⟩ | ⟨r, cap, c, _, rfl, _⟩
  · exact ⟨none, rfl⟩
  · exact ⟨some _, rfl⟩
def OffL (M : Mm) (i : Nat) : Option (List Nat) → Prop
  | none => True
  | some l => ∃ js, okX M i js l
theorem OffL.off {M : Mm} {m : Mem} {i : Nat} {oz : Option Blk} {L : Option (List Nat)} (h : OffL M i L) (hM : FitsM M m) (hi : lkM M i = oz) : ∀ x ∈ oz.toList, offL L x.b := fun x hx => by
  have e : oz = some x := by simpa using hx
  cases L with
  | none => trivial
  | some l =>
    obtain ⟨js, hjs⟩ := h
    exact okX_not hM (hi.trans e) hjs
theorem e_appendL (i : Nat) {e : TypeId} {z l k bytes : Nat} {zv v vy : Value} {xs news : List Value} {oz : Option Blk} {B : Mem} (hown : OwnS e z v l xs oz.toList) (hsrc : Shows B z vy k news) (hi : lkM M i = oz) (hB : ∀ q ∈ B, q ∈ G ∨ ∃ j, lkM M j = some q) (hoff : OffL M i R.L)
    (hT : P.underlying T = some (.slice e)) (hs : (P.info? e).map (·.size) = some z) (hb : (P.info? e).map (·.bytes) = some bytes) (hz : (P.info? e).bind (·.zero) = some zv) (hzs : zv.cells.size = z)
    (hx : rd E x = some v) (hy : rd E y = some vy) (h1 : ∀ u ∈ news, u.oneCell' = true) (h63 : l + k ≤ maxLen) (hbytes : (l + k) * bytes ≤ 140737488355328) (hd : Nat.blt d n = true)
    (h : ∀ v' (oz' : Option Blk), OwnS e z v' (l + k) (xs ++ news) oz'.toList → OpsE P G R ops n K rest ((d, v') :: E) ((i, oz') :: M)) : OpsE P G R ops n K (⟨some d, .call ⟨.builtin .append, #[x, y], #[T, T]⟩, ty, pos, aft, none⟩ :: rest) E M :=
  fun _ m ha hM => by
    obtain ⟨lr, hp⟩ := hM.perm1 hi
    refine st_append hT hs hb hz hzs (ha.rd hx) (ha.rd hy) hown (hoff.off hM hi) hp hsrc (fun q hq => ?_) h1 h63 hbytes fun v' l' ho => ?_
    · rcases hB q hq with h2 | ⟨j, h2⟩
      · exact .inl h2
      · exact .inr (hM.has j q h2)
    · obtain ⟨oz', rfl⟩ := own_opt ho
      refine ⟨fun hid => ?_, fun hf => ?_⟩
      · simpa using h v' oz' ho _ _ (ha.put hd _) (hM.same hi hp hid)
      · exact h v' oz' ho _ _ (ha.put hd _) (hM.fresh i hp hf)
theorem e_append (i : Nat) {e : TypeId} {z l k bytes : Nat} {zv v vy : Value} {xs news : List Value} {oz : Option Blk} {B : Mem} (hown : OwnS e z v l xs oz.toList) (hsrc : Shows B z vy k news) (hi : lkM M i = oz) (hB : SeenE G R M B)
    (hT : P.underlying T = some (.slice e)) (hs : (P.info? e).map (·.size) = some z) (hb : (P.info? e).map (·.bytes) = some bytes) (hz : (P.info? e).bind (·.zero) = some zv) (hzs : zv.cells.size = z)
    (hx : rd E x = some v) (hy : rd E y = some vy) (h1 : ∀ u ∈ news, u.oneCell' = true) (h63 : l + k ≤ maxLen) (hbytes : (l + k) * bytes ≤ 140737488355328) (hd : Nat.blt d n = true)
    (h : ∀ v' (oz' : Option Blk), OwnS e z v' (l + k) (xs ++ news) oz'.toList → OpsE P G R ops n K rest ((d, v') :: E) ((i, oz') :: M)) (hL : R.L = none := by rfl) : OpsE P G R ops n K (⟨some d, .call ⟨.builtin .append, #[x, y], #[T, T]⟩, ty, pos, aft, none⟩ :: rest) E M :=
  e_appendL i hown hsrc hi (fun q hq => (hB q hq).imp id fun ⟨j, h2, _⟩ => ⟨j, h2⟩) (by rw [hL]; trivial) hT hs hb hz hzs hx hy h1 h63 hbytes hd h
theorem e_callN (i : Nat) (mk : Value → Value) {fo : Operand} {f : FuncId} {args : Array Operand} {tys : Array TypeId} {vs cap : List Value} {g' : Mem} {e : TypeId} {z k : Nat} {xs : List Value} (hf : rd E fo = some (.func (.func f) #[] cap.toArray)) (hargs : rdl E args.toList = some vs) (he : enters P f = true) (hg : SeenE G R M g')
    (hF : Fx P g' [] f (vs ++ cap).toArray (fun v l1 nw => l1 = [] ∧ ∃ v', v = mk v' ∧ OwnS e z v' k xs nw)) (hk : k ≤ maxLen) (hkx : xs.length = k * z) (hd : Nat.blt d n = true) (hR : callMk R = true)
    (h : ∀ v' (oz : Option Blk), OwnS e z v' k xs oz.toList → OpsE P G R ops n K rest ((d, mk v') :: E) ((i, oz) :: M)) (hpu : pureD R (some d) = false := by first | rfl | assumption) : OpsE P G R ops n K (⟨some d, .call ⟨.value fo, args, tys⟩, ty, pos, aft, none⟩ :: rest) E M :=
  fun _ m ha hM => by
    refine st_callN hR hpu (S := fun v nw => ∃ v', v = mk v' ∧ OwnS e z v' k xs nw) (ha.rd hf) (ha.args hargs) he (by simpa using hF) ?_ (fun w hG hv q hq => (hg.seen hM).rin hG hv hq) ?_
    · intro m'
      obtain ⟨r, hr⟩ := fresh_of m'
      exact ⟨_, [⟨r, xs.toArray, e⟩], ⟨.slice (some ⟨r, 0, none⟩) k k, rfl, .inr ⟨r, k, xs.toArray, rfl, rfl, Nat.le_refl _, hk, by simpa using hkx, hkx, by rw [← hkx]; exact List.take_length⟩⟩, by simp, by simpa using hr⟩
    · rintro v nw ⟨v', rfl, ho⟩ hfr
      obtain ⟨oz, rfl⟩ := own_opt ho
      have := hM.fresh i (l0 := []) (lr := m) (by simp) hfr
      exact h v' oz ho _ _ (ha.put hd _) (by simpa using this)
end
section
variable {P : Program} {G : Mem} {n : Nat}
theorem mapM0 (f : ResultVar → Sem Value) : Array.mapM f #[] = pure #[] := by
  rw [Array.mapM_eq_mapM_toList]; simp
def EndW (b : Nat) (c' : Array Value) (t : TypeId) (fn : Func) : Exit → Env → Mm → Prop
  | .normal, _, M | .ret, _, M => fn.results = #[] ∧ ∃ i, lkM M i = some ⟨b, c', t⟩
  | _, _, _ => False
def EndN (P : Program) (e : TypeId) (z k : Nat) (xs : List Value) (fn : Func) : Exit → Env → Mm → Prop
  | .normal, E, M | .ret, E, M => ∃ r v oz i, fn.results = #[r] ∧ Res P E M r v ∧ OwnS e z v k xs (Option.toList oz) ∧ lkM M i = oz
  | _, _, _ => False
theorem own_nd {e : TypeId} {z k : Nat} {v : Value} {xs : List Value} {l : Mem} (h : OwnS e z v k xs l) : (l.map (·.b)).Nodup := by
  rcases h with ⟨_, _, _, rfl⟩ | ⟨r, cap, c, _, rfl, _⟩ <;> simp
theorem fxN {f : FuncId} {fn : Func} {c : Code} {args : Array Value} {e : TypeId} {z k : Nat} {xs : List Value} (hf : P.funcs[f]? = some fn) (hb : fn.body = some c) (hn : fn.ntmps = n) (ha : args.size ≤ n) (E : Env) (hE : ∀ t v, lk E t = some v → args[t]? = some v)
    (h : SatE P G c n (EndN P e z k xs fn) E []) : Fx P G [] f args (fun v l1 nw => l1 = [] ∧ ∃ v', v = v' ∧ OwnS e z v' k xs nw) :=
  fx_of hf hb (sat_mono (h _ [] ⟨by simp [hn]; omega, rfl, fun t v ht => by
    have := hE t v ht
    have hlt := (Array.getElem?_eq_some_iff.1 this).1
    rw [Array.getElem?_append_left hlt]; exact this⟩ (FitsM.nil _)) fun e' a m ⟨E', M', h1, h0, h2⟩ => by
      have key : (∃ r v oz i, fn.results = #[r] ∧ Res P E' M' r v ∧ OwnS e z v k xs (Option.toList oz) ∧ lkM M' i = oz) → a.defers = [] ∧ ∃ v l1 nw, (l1 = [] ∧ ∃ v', v = v' ∧ OwnS e z v' k xs nw) ∧ (nw.map (·.b)).Nodup ∧ (∀ x ∈ nw, x.b ∉ ([] : Mem).map (·.b)) ∧ (∀ x ∈ l1 ++ nw, x ∈ m) ∧ ∀ w, MemIn m w → (results fn a.tmps).run P w = .ok v w := fun ⟨r, v, oz, i, hr, hR, ho, hi⟩ =>
        ⟨h1.defers, v, [], oz.toList, ⟨rfl, v, rfl, ho⟩, own_nd ho, by simp, fun x hx => by
          have : oz = some x := by simpa using hx
          exact h0.has i x (hi.trans this), fun w hw => by
          have := res_run h1 h0 hw hR
          rw [results_eq, hr, mapM1]
          simp [this]⟩
      cases e' <;> first | exact key h2 | exact h2.elim)
end
end Go.Proofs.Ytfldnikepdbgkaa
namespace Go.Proofs.Ytfldnikepdbgkaa
open Go Go.RowKit
def arrv (n : Nat) (F : Nat → Value) : Array Value := ((List.range n).map F).toArray
def updv (F : Nat → Value) (j : Nat) (v : Value) : Nat → Value := fun i => if i = j then v else F i
def putv (F : Nat → Value) (o l : Nat) (A : Nat → Value) : Nat → Value := fun i => if o ≤ i ∧ i < o + l then A (i - o) else F i
theorem arrv_size (n : Nat) (F : Nat → Value) : (arrv n F).size = n := by simp [arrv]
theorem arrv_get {n j : Nat} {F : Nat → Value} (h : j < n) : (arrv n F)[j]? = some (F j) := by simp [arrv, h]
theorem arrv_congr {n : Nat} {F H : Nat → Value} (h : ∀ j, j < n → F j = H j) : arrv n F = arrv n H := by
  unfold arrv
  congr 1
  exact List.map_congr_left fun i hi => h i (by simpa using hi)
theorem arrv_set {n : Nat} {F : Nat → Value} (j : Nat) (v : Value) : (arrv n F).setIfInBounds j v = arrv n (updv F j v) := by
  apply Array.ext
  · simp [arrv_size]
  · intro i h1 h2
    have hi : i < n := by simpa [arrv_size] using h2
    by_cases e : j = i
    · subst e; simp [arrv, updv]
    · have e' : ¬ i = j := fun h => e h.symm
      simp [arrv, updv, e, e']
theorem arrv_part (N o l : Nat) (F : Nat → Value) (h : o + l ≤ N) : (arrv N F).extract o (o + l) = arrv l (fun t => F (o + t)) := by
  apply Array.ext
  · simp [arrv]; omega
  · intro i h1 h2
    simp [arrv]
theorem setRow_blk {w : World} {b : Nat} {c' : Array Value} {t : TypeId} : w.setRow b c' = setBlk w ⟨b, c', t⟩ := rfl
section
variable {P : Program} {G : Mem} {R : Reg} {ops : Array Oper} {K : Act → Mem → Prop} {rest : List Oper} {a : Act} {m : Mem} {d : Option Tmp} {ty : TypeId} {pos : String} {aft : Array Edge}
variable {T T' : TypeId} {x y : Operand}
end
section
variable {P : Program} {G : Mem} {R : Reg} {ops : Array Oper} {n : Nat} {K : Env → Mm → Prop} {rest : List Oper} {E : Env} {M : Mm} {d : Nat} {ty : TypeId} {pos : String} {aft : Array Edge}
variable {T T' : TypeId} {x y : Operand}
theorem e_ldP {b i o l N : Nat} {F : Nat → Value} {t : TypeId} {td : TypeDesc} (hT : P.underlying T = some td) (hn : rowLike td = true) (hs : (P.info? T).map (·.size) = some l)
    (hx : rd E x = some (.pointer (some ⟨b, o, none⟩))) (hm : lkM M i = some ⟨b, arrv N F, t⟩) (ho : o + l ≤ N) (hd : Nat.blt d n = true) (hX : ∃ js, okXL M i js R) (h : OpsE P G R ops n K rest ((d, .agg (arrv l (fun t => F (o + t)))) :: E) M) :
    OpsE P G R ops n K (⟨some d, .load T x, ty, pos, aft, none⟩ :: rest) E M :=
  fun _ _ ha hM => by
    obtain ⟨j, hj⟩ := hM.at hm
    obtain ⟨js, hjs⟩ := hX
    exact st_loadS hT hn hs (ha.rd hx) hj (okXL_not hM hm hjs) (by rw [arrv_size]; exact ho) (by rw [arrv_part N o l F ho]; exact h _ _ (ha.put hd _) hM)
theorem e_st1 {b o i N : Nat} {F : Nat → Value} {v : Value} {t : TypeId} (hs : (P.info? T).map (·.size) = some 1) (hx : rd E x = some (.pointer (some ⟨b, o, none⟩))) (hy : rd E y = some v) (hv : v.oneCell' = true)
    (hm : lkM M i = some ⟨b, arrv N F, t⟩) (ho : o < N) (hX : R.X = [] ∨ b ∈ R.X) (h : OpsE P G R ops n K rest E ((i, some ⟨b, arrv N (updv F o v), t⟩) :: M)) (hY : R.Y = none := by first | rfl | assumption) : OpsE P G R ops n K (⟨none, .store T x y, ty, pos, aft, none⟩ :: rest) E M :=
  fun _ _ ha hM => by
    obtain ⟨j, hj⟩ := hM.at hm
    exact st_store1 hs (ha.rd hx) (ha.rd hy) hv hj hX (by rw [arrv_size]; exact ho) (by rw [arrv_set]; exact h _ _ ha (hM.store hm hj _))
end
end Go.Proofs.Ytfldnikepdbgkaa
namespace Go.Proofs.Ytfldnikepdbgkaa
open Go Go.RowKit
abbrev Part := Nat × (Nat → Value)
def catF : List Part → Nat → Value
  | [], _ => .bool false
  | p :: ps, i => if i < p.1 then p.2 i else catF ps (i - p.1)
def catA0 : List Part → Nat → Option (Nat × Part)
  | [], _ => none
  | p :: _, 0 => some (0, p)
  | p :: ps, k + 1 => match catA0 ps k with
    | none => none
    | some q => some (p.1 + q.1, q.2)
def catGo : List Part → Nat → Nat → Option (Nat × Part)
  | [], _, _ => none
  | p :: _, 0, a => some (a, p)
  | p :: ps, k + 1, a => catGo ps k (a + p.1)
abbrev catAt (ps : List Part) (k : Nat) : Option (Nat × Part) := catGo ps k 0
theorem catGo_eq : ∀ (ps : List Part) (k a : Nat), catGo ps k a = (catA0 ps k).map fun q => (a + q.1, q.2)
  | [], _, _ => rfl
  | _ :: _, 0, _ => rfl
  | p :: ps, k + 1, a => by
    rw [catGo, catA0, catGo_eq ps k]
    cases catA0 ps k with
    | none => rfl
    | some q => simp [Nat.add_assoc]
theorem catAt_old {ps : List Part} {k : Nat} {q : Nat × Part} (h : catAt ps k = some q) : catA0 ps k = some q := by
  unfold catAt at h
  rw [catGo_eq] at h
  cases hc : catA0 ps k with
  | none => rw [hc] at h; cases h
  | some x =>
    rw [hc] at h
    simp at h
    rw [← h]
def catSet : List Part → Nat → (Nat → Value) → List Part
  | [], _, _ => []
  | p :: ps, 0, F => (p.1, F) :: ps
  | p :: ps, k + 1, F => p :: catSet ps k F
def catOk : List Part → Prop
  | [] => True
  | p :: ps => (∀ i, (p.2 i).oneCell' = true) ∧ catOk ps
abbrev pV (v : Value) : Part := (1, fun _ => v)
abbrev cells (N : Nat) (ps : List Part) : Array Value := arrv N (catF ps)
theorem cat_part0 : ∀ {ps : List Part} {k o l : Nat} {F : Nat → Value}, catA0 ps k = some (o, l, F) → ∀ t, t < l → catF ps (o + t) = F t
  | [], _, _, _, _, h, _, _ => by simp [catA0] at h
  | p :: ps, 0, o, l, F, h, t, ht => by
    simp only [catA0, Option.some.injEq, Prod.mk.injEq] at h
    obtain ⟨rfl, rfl⟩ := h
    simp [catF, ht]
  | p :: ps, k + 1, o, l, F, h, t, ht => by
    simp only [catA0] at h
    cases hq : catA0 ps k with
    | none => simp [hq] at h
    | some q =>
      obtain ⟨o', l', F'⟩ := q
      simp only [hq, Option.some.injEq, Prod.mk.injEq] at h
      obtain ⟨rfl, rfl, rfl⟩ := h
      have := cat_part0 hq t ht
      simp only [catF]
      rw [if_neg (by omega), show p.1 + o' + t - p.1 = o' + t by omega, this]
theorem cat_put0 : ∀ {ps : List Part} {k o l : Nat} {F : Nat → Value} (A : Nat → Value), catA0 ps k = some (o, l, F) → ∀ i, putv (catF ps) o l A i = catF (catSet ps k A) i
  | [], _, _, _, _, _, h, _ => by simp [catA0] at h
  | p :: ps, 0, o, l, F, A, h, i => by
    simp only [catA0, Option.some.injEq, Prod.mk.injEq] at h
    obtain ⟨rfl, rfl⟩ := h
    simp only [putv, catF, catSet]
    by_cases hi : i < l
    · rw [if_pos (by omega), if_pos hi, Nat.sub_zero]
    · rw [if_neg (by omega), if_neg hi, if_neg hi]
  | p :: ps, k + 1, o, l, F, A, h, i => by
    simp only [catA0] at h
    cases hq : catA0 ps k with
    | none => simp [hq] at h
    | some q =>
      obtain ⟨o', l', F'⟩ := q
      simp only [hq, Option.some.injEq, Prod.mk.injEq] at h
      obtain ⟨rfl, rfl, rfl⟩ := h
      have := cat_put0 A hq (i - p.1)
      simp only [catF, catSet]
      rw [← this]
      simp only [putv]
      by_cases hi : i < p.1
      · rw [if_neg (by omega), if_pos hi, if_pos hi]
      · rw [if_neg hi, if_neg hi]
        by_cases h2 : o' ≤ i - p.1 ∧ i - p.1 < o' + l'
        · rw [if_pos (by omega), if_pos h2]; congr 1; omega
        · rw [if_neg (by omega), if_neg h2]
theorem cat_part {ps : List Part} {k o l : Nat} {F : Nat → Value} (h : catAt ps k = some (o, l, F)) : ∀ t, t < l → catF ps (o + t) = F t := cat_part0 (catAt_old h)
theorem cat_put {ps : List Part} {k o l : Nat} {F : Nat → Value} (A : Nat → Value) (h : catAt ps k = some (o, l, F)) : ∀ i, putv (catF ps) o l A i = catF (catSet ps k A) i := cat_put0 A (catAt_old h)
theorem putv_one (F : Nat → Value) (o : Nat) (v : Value) : putv F o 1 (fun _ => v) = updv F o v := by
  funext i
  unfold putv updv
  by_cases h : i = o
  · subst h; rw [if_pos (by omega), if_pos rfl]
  · rw [if_neg (by omega), if_neg h]
theorem cat_one : ∀ {ps : List Part}, catOk ps → ∀ i, (catF ps i).oneCell' = true
  | [], _, _ => rfl
  | p :: ps, h, i => by
    simp only [catF]
    split
    · exact h.1 _
    · exact cat_one h.2 _
theorem cells_one {N : Nat} {ps : List Part} (h : catOk ps) : ∀ v ∈ cells N ps, v.oneCell' = true := fun v hv => by
  simp [cells, arrv] at hv
  obtain ⟨i, _, rfl⟩ := hv
  exact cat_one h i
theorem cells_sz {N : Nat} {ps qs : List Part} : (cells N ps).size = (cells N qs).size := by rw [arrv_size, arrv_size]
section
variable {P : Program} {G : Mem} {R : Reg} {ops : Array Oper} {n : Nat} {K : Env → Mm → Prop} {rest : List Oper} {E : Env} {M : Mm} {d : Nat} {ty : TypeId} {pos : String} {aft : Array Edge}
variable {T T' : TypeId} {x y : Operand}
theorem e_ldV1 (k : Nat) {b i o N : Nat} {v : Value} {ps : List Part} {t : TypeId} {td : TypeDesc} (hT : P.underlying T = some td) (hn : rowLike td = false)
    (hx : rd E x = some (.pointer (some ⟨b, o, none⟩))) (hm : lkM M i = some ⟨b, cells N ps, t⟩) (hk : catAt ps k = some (o, pV v)) (hN : o < N) (hd : Nat.blt d n = true) (hX : ∃ js, okXL M i js R) (h : OpsE P G R ops n K rest ((d, v) :: E) M) :
    OpsE P G R ops n K (⟨some d, .load T x, ty, pos, aft, none⟩ :: rest) E M :=
  e_load1 (v := v) hT hn hx hm (by have := cat_part hk 0 (by decide); rw [Nat.add_zero] at this; rw [cells, arrv_get hN, this]) hd hX h
theorem e_stV (k : Nat) {b o i N : Nat} {v : Value} {F : Nat → Value} {ps : List Part} {t : TypeId} (hs : (P.info? T).map (·.size) = some 1) (hx : rd E x = some (.pointer (some ⟨b, o, none⟩))) (hy : rd E y = some v) (hv : v.oneCell' = true)
    (hm : lkM M i = some ⟨b, cells N ps, t⟩) (hk : catAt ps k = some (o, 1, F)) (hN : o < N) (hX : R.X = [] ∨ b ∈ R.X) (h : OpsE P G R ops n K rest E ((i, some ⟨b, cells N (catSet ps k (fun _ => v)), t⟩) :: M)) (hY : R.Y = none := by first | rfl | assumption) : OpsE P G R ops n K (⟨none, .store T x y, ty, pos, aft, none⟩ :: rest) E M :=
  e_st1 hs hx hy hv hm hN hX (by rw [← putv_one, funext (cat_put _ hk)]; exact h)
end
section
variable {P : Program} {G : Mem} {R : Reg} {ops : Array Oper} {n : Nat} {K : Env → Mm → Prop} {rest : List Oper} {E : Env} {M : Mm} {d : Nat} {ty : TypeId} {pos : String} {aft : Array Edge}
theorem e_no2 {op : Op} {g s : Nat} {want : Bool} (hg : (ops[g]?).bind (·.dst) = some s) (hb : lk E s = some undef) (hd : Nat.blt d n = true) (h : OpsE P G R ops n K rest ((d, undef) :: E) M) :
    OpsE P G R ops n K (⟨some d, op, ty, pos, aft, some (g, want)⟩ :: rest) E M := fun a m ha hM => .inl ⟨by
      have hy : Go.yielded ops a.tmps g = none := by
        unfold Go.yielded
        rw [hg]
        simp [ha.slots _ _ hb, undef]
      simp [Region.wanted, hy], h _ _ (ha.put hd _) hM⟩
end
end Go.Proofs.Ytfldnikepdbgkaa
namespace Go.Proofs.Ytfldnikepdbgkaa
open Go Go.RowKit
section
variable {P : Program} {G : Mem} {R : Reg} {ops : Array Oper} {K : Act → Mem → Prop} {rest : List Oper} {a : Act} {m : Mem} {d : Option Tmp} {ty : TypeId} {pos : String} {aft : Array Edge}
variable {T T' : TypeId} {x y : Operand}
end
section
variable {P : Program} {G : Mem} {R : Reg} {ops : Array Oper} {n : Nat} {K : Env → Mm → Prop} {rest : List Oper} {E : Env} {M : Mm} {d : Nat} {ty : TypeId} {pos : String} {aft : Array Edge}
variable {T T' : TypeId} {x y : Operand}
end
section
variable {P : Program}
end
section
variable {P : Program} {G : Mem} {R : Reg} {ops : Array Oper} {n : Nat} {K : Env → Mm → Prop} {rest : List Oper} {E : Env} {M : Mm} {d : Nat} {ty : TypeId} {pos : String} {aft : Array Edge}
variable {T T' : TypeId} {x y : Operand}
end
end Go.Proofs.Ytfldnikepdbgkaa
namespace Go.Proofs.Ytfldnikepdbgkaa
open Go Go.RowKit
section
variable {P : Program} {G : Mem} {R : Reg} {ops : Array Oper} {K : Act → Mem → Prop} {rest : List Oper} {a : Act} {m : Mem} {d : Option Tmp} {ty : TypeId} {pos : String} {aft : Array Edge}
variable {T T' : TypeId} {x y : Operand}
end
section
variable {P : Program} {G : Mem} {R : Reg} {ops : Array Oper} {n : Nat} {K : Env → Mm → Prop} {rest : List Oper} {E : Env} {M : Mm} {d : Nat} {ty : TypeId} {pos : String} {aft : Array Edge}
variable {T T' : TypeId} {x y : Operand}
end
end Go.Proofs.Ytfldnikepdbgkaa
namespace Go.Proofs.Ytfldnikepdbgkaa
open Go Go.RowKit
def catE : Env → Env → Env
  | [], F => F
  | x :: E, F => x :: catE E F
def catL : Mm → Mm → Mm
  | [], F => F
  | x :: E, F => x :: catL E F
section
variable {P : Program} {G : Mem} {R : Reg} {ops : Array Oper} {n : Nat} {K : Env → Mm → Prop} {Q : Exit → Env → Mm → Prop} {rest : List Oper} {E : Env} {M : Mm} {d : Nat} {ty : TypeId} {pos : String} {aft : Array Edge}
variable {T T' : TypeId} {x y : Operand}
theorem e_loopK {c : Code} (Ek : Env) (Mk : Mm) (I : Nat → Env → Mm → Prop) (E0 : Env) (M0 : Mm) (k : Nat) (hs : sub (catE E0 Ek) E) (hl : subL (catL M0 Mk) M) (h0 : I k E0 M0)
    (round : ∀ k E M, I k E M → SatE P G c n (thenE (fun E' M' => ∃ k' E'' M'', k' < k ∧ sub (catE E'' Ek) E' ∧ subL (catL M'' Mk) M' ∧ I k' E'' M'') Q) (catE E Ek) (catL M Mk)) : SatE P G (.loop c) n Q E M :=
  e_loop (fun k E M => ∃ E1 M1, E = catE E1 Ek ∧ M = catL M1 Mk ∧ I k E1 M1) (catE E0 Ek) (catL M0 Mk) k hs hl ⟨_, _, rfl, rfl, h0⟩ fun k E M ⟨E1, M1, e1, e2, hI⟩ => by
    subst e1 e2
    intro a m ha hM
    refine sat_mono (round k E1 M1 hI a m ha hM) fun e a' m' ⟨E', M', h1, h2, h3⟩ => ⟨E', M', h1, h2, ?_⟩
    cases e with
    | normal =>
      obtain ⟨k', E'', M'', q1, q2, q3, q4⟩ := h3
      exact ⟨k', _, _, q1, q2, q3, _, _, rfl, rfl, q4⟩
    | _ => exact h3
theorem e_sub_in {p q : Nat} (hx : rd E x = some (ii p)) (hy : rd E y = some (ii q)) (hd : Nat.blt d n = true) (hb : p < 9223372036854775808) (hq : q ≤ p) (h : OpsE P G R ops n K rest ((d, ii (p - q)) :: E) M) :
    OpsE P G R ops n K (⟨some d, .binOp .sub T x y T', ty, pos, aft, none⟩ :: rest) E M := e_sub_z hx hy hd (by omega) (by omega) (by rw [show (p : Int) - (q : Int) = ((p - q : Nat) : Int) by omega]; exact h)
theorem e_gen_i {l : List Oper} {s p : Nat} (h : ∀ q, q = p → OpsE P G R ops n K l ((s, ii q) :: E) M) : OpsE P G R ops n K l ((s, ii p) :: E) M := h p rfl
end
end Go.Proofs.Ytfldnikepdbgkaa
namespace Go.Proofs.Ytfldnikepdbgkaa
open Go Go.RowKit
theorem shows_one {B : Mem} {z n : Nat} {v : Value} {xs : List Value} (h : Shows B z v n xs) : v.cells = #[v] := by
  rcases h with ⟨_, _, oa, c, rfl, _⟩ | ⟨b, o, c, cs, t, rfl, _⟩ <;> rfl
section
variable {P : Program} {G : Mem} {R : Reg} {ops : Array Oper} {K : Act → Mem → Prop} {rest : List Oper} {a : Act} {m : Mem} {d : Option Tmp} {ty : TypeId} {pos : String} {aft : Array Edge}
variable {T T' : TypeId} {x y : Operand}
end
section
variable {P : Program} {G : Mem} {R : Reg} {ops : Array Oper} {n : Nat} {K : Env → Mm → Prop} {rest : List Oper} {E : Env} {M : Mm} {d : Nat} {ty : TypeId} {pos : String} {aft : Array Edge}
variable {T T' : TypeId} {x y : Operand}
theorem seen_app {A B : Mem} (h1 : SeenE G R M A) (h2 : SeenE G R M B) : SeenE G R M (A ++ B) := fun z hz => by
  rcases List.mem_append.1 hz with h | h
  · exact h1 z h
  · exact h2 z h
theorem e_callS {g' : Mem} {fo : Operand} {f : FuncId} {args : Array Operand} {tys : Array TypeId} {vs cap : List Value} {v : Value} (hf : rd E fo = some (.func (.func f) #[] cap.toArray)) (hargs : rdl E args.toList = some vs) (he : enters P f = true) (hg : SeenE G R M g')
    (hF : Fn P g' f (vs ++ cap).toArray v) (hd : Nat.blt d n = true) (hR : callOk R = true) (h : OpsE P G R ops n K rest ((d, v) :: E) M) : OpsE P G R ops n K (⟨some d, .call ⟨.value fo, args, tys⟩, ty, pos, aft, none⟩ :: rest) E M :=
  fun _ _ ha hM => st_callV hR (ha.rd hf) (ha.args hargs) he (fun w hG hm => by
    have := hF w (fun z hz => (hg.seen hM).rin hG hm hz)
    simpa using this) (h _ _ (ha.put hd _) hM)
end
end Go.Proofs.Ytfldnikepdbgkaa
namespace Go.Proofs.Ytfldnikepdbgkaa
open Go Go.RowKit
section
variable {P : Program}
end
end Go.Proofs.Ytfldnikepdbgkaa
namespace Go.Proofs.Ytfldnikepdbgkaa
open Go Go.RowKit
section
variable {P : Program} {G : Mem} {R : Reg} {ops : Array Oper} {K : Act → Mem → Prop} {rest : List Oper} {a : Act} {m : Mem} {d : Option Tmp} {ty : TypeId} {pos : String} {aft : Array Edge}
variable {T T' : TypeId} {x y : Operand}
end
variable {P : Program} {G : Mem} {R : Reg} {ops : Array Oper} {n : Nat} {K : Env → Mm → Prop} {rest : List Oper} {E : Env} {M : Mm} {d : Nat} {ty : TypeId} {pos : String} {aft : Array Edge}
variable {T T' : TypeId} {x y : Operand}
end Go.Proofs.Ytfldnikepdbgkaa
namespace Go.Proofs.Ytfldnikepdbgkaa
open Go Go.RowKit
section
variable {P : Program} {G : Mem} {n : Nat}
end
section
variable {P : Program} {G : Mem} {R : Reg} {ops : Array Oper} {K : Act → Mem → Prop} {rest : List Oper} {a : Act} {m : Mem} {d : Option Tmp} {ty : TypeId} {pos : String} {aft : Array Edge}
variable {T T' : TypeId} {x y : Operand}
theorem Shows.cells {z n o : Nat} {c : Array Value} {xs : List Value} {j l : Nat} (hl : xs.length = n * z) (ho : o + n * z ≤ c.size) (hc : ∀ j u, xs[j]? = some u → c[o + j]? = some u) (hj : j + l ≤ xs.length) : c.extract (o + j) (o + j + l) = ((xs.drop j).take l).toArray := by
  apply Array.ext_getElem?
  intro i
  by_cases hi : i < l
  · have h1 : (xs.drop j)[i]? = xs[j + i]? := List.getElem?_drop
    have h2 : xs[j + i]? = some xs[j + i] := List.getElem?_eq_getElem (by omega)
    have h3 := hc (j + i) _ h2
    have hL : (c.extract (o + j) (o + j + l))[i]? = some xs[j + i] := by rw [Array.getElem?_extract, if_pos (by omega), show o + j + i = o + (j + i) by omega, h3]
    have hR : ((xs.drop j).take l).toArray[i]? = some xs[j + i] := by rw [List.getElem?_toArray, List.getElem?_take_of_lt hi, h1, h2]
    rw [hL, hR]
  · rw [Array.getElem?_eq_none (by simp; omega), Array.getElem?_eq_none (by simp; omega)]
theorem st_loadVS {td : TypeDesc} {v : Value} {B : Mem} {n j l z : Nat} {xs : List Value} (hB : Seen G R m B) (hT : P.underlying T = some td) (hn : rowLike td = true) (hs : (P.info? T).map (·.size) = some l) (hx : a.eval x = slAddr v j) (hv : Shows B z v n xs) (hl : 0 < l) (hj : j + l ≤ xs.length)
    (h : opsM P G R ops K rest (a.put d (.agg ((xs.drop j).take l).toArray)) m) : opsM P G R ops K (⟨d, .load T x, ty, pos, aft, none⟩ :: rest) a m :=
  .inr ⟨rfl, .agg ((xs.drop j).take l).toArray, fun w hG hm => .inl (by
    rcases hv with ⟨_, rfl, _⟩ | ⟨b, o, cap, c, t, rfl, _, hb, hlx, ho, hc⟩
    · simp at hj; omega
    · have hin := hB.rin hG hm hb
      have e := Shows.cells hlx ho hc hj
      have hsz : o + j + l ≤ c.size := by omega
      simp only [execOp, Instr.loadAt, hx, slAddr, Instr.sureAddr]
      simp [run_loadPart hin hT hn hs hsz, e]), h⟩
end
section
variable {P : Program} {G : Mem} {R : Reg} {ops : Array Oper} {n : Nat} {K : Env → Mm → Prop} {rest : List Oper} {E : Env} {M : Mm} {d : Nat} {ty : TypeId} {pos : String} {aft : Array Edge}
variable {T T' : TypeId} {x y : Operand}
theorem e_loadVS {td : TypeDesc} {v : Value} {B : Mem} {k j l z : Nat} {xs cs : List Value} (hv : Shows B z v k xs) (hB : SeenE G R M B) (hT : P.underlying T = some td) (hn : rowLike td = true) (hs : (P.info? T).map (·.size) = some l) (hx : rd E x = some (slAddr v j)) (hl : 0 < l) (hj : j + l ≤ xs.length) (hc : (xs.drop j).take l = cs) (hd : Nat.blt d n = true)
    (h : OpsE P G R ops n K rest ((d, .agg cs.toArray) :: E) M) : OpsE P G R ops n K (⟨some d, .load T x, ty, pos, aft, none⟩ :: rest) E M := fun _ _ ha hM => st_loadVS (hB.seen hM) hT hn hs (ha.rd hx) hv hl hj (by rw [hc]; exact h _ _ (ha.put hd _) hM)
theorem flatMap_len {α : Type} {C : α → List Value} {z : Nat} (hC : ∀ x, (C x).length = z) : ∀ rs : List α, (rs.flatMap C).length = rs.length * z
  | [] => by simp
  | r :: rs => by rw [List.flatMap_cons, List.length_append, hC, flatMap_len hC rs, List.length_cons, Nat.succ_mul]; omega
theorem flatMap_at {α : Type} {C : α → List Value} {z : Nat} (hC : ∀ x, (C x).length = z) : ∀ (rs : List α) (i : Nat) (h : i < rs.length), ((rs.flatMap C).drop (i * z)).take z = C rs[i]
  | r :: rs, 0, _ => by rw [List.flatMap_cons, Nat.zero_mul, List.drop_zero, ← hC r, List.take_left']; rfl; rfl
  | r :: rs, i + 1, h => by
    rw [List.flatMap_cons, Nat.succ_mul, Nat.add_comm, ← List.drop_drop, List.drop_left' (hC r)]
    exact flatMap_at hC rs i (by simpa using h)
end
end Go.Proofs.Ytfldnikepdbgkaa
namespace Go.Proofs.Ytfldnikepdbgkaa
open Go Go.RowKit
section
variable {P : Program} {G : Mem} {R : Reg} {ops : Array Oper} {K : Act → Mem → Prop} {rest : List Oper} {a : Act} {m : Mem} {d : Option Tmp} {ty : TypeId} {pos : String} {aft : Array Edge}
variable {T T' : TypeId} {x y : Operand}
end
section
variable {P : Program} {G : Mem} {R : Reg} {ops : Array Oper} {n : Nat} {K : Env → Mm → Prop} {rest : List Oper} {E : Env} {M : Mm} {d : Nat} {ty : TypeId} {pos : String} {aft : Array Edge}
variable {T T' : TypeId} {x y : Operand}
end
section
variable {P : Program}
end
end Go.Proofs.Ytfldnikepdbgkaa
namespace Go.Proofs.Ytfldnikepdbgkaa
end Go.Proofs.Ytfldnikepdbgkaa
namespace Go.Proofs.Ytfldnikepdbgkaa
end Go.Proofs.Ytfldnikepdbgkaa
namespace Go.Proofs.Ytfldnikepdbgkaa
open Go Go.RowKit
end Go.Proofs.Ytfldnikepdbgkaa
namespace Go.Proofs.Ytfldnikepdbgkaa
open Go Go.RowKit
theorem own_fix {e : TypeId} {z n n' : Nat} {v : Value} {xs xs' : List Value} {l : Mem} (h : OwnS e z v n xs l) (hn : n = n') (hx : xs = xs') : OwnS e z v n' xs' l := hn ▸ hx ▸ h
end Go.Proofs.Ytfldnikepdbgkaa
namespace Go.Proofs.Ytfldnikepdbgkaa
open Go Go.RowKit
end Go.Proofs.Ytfldnikepdbgkaa
namespace Go.Proofs.Ytfldnikepdbgkaa
open Go Go.RowKit
end Go.Proofs.Ytfldnikepdbgkaa
namespace Go.Proofs.Ytfldnikepdbgkaa
open Go Go.RowKit
end Go.Proofs.Ytfldnikepdbgkaa
namespace Go.Proofs.Ytfldnikepdbgkaa
open Go Go.RowKit
theorem get_getD {vs : List Value} {i : Nat} (h : i < vs.length) : vs[i]? = some (vs.getD i undef) := by
  rw [List.getD_eq_getElem?_getD, List.getElem?_eq_getElem h]; rfl
theorem fill_ones : ∀ (vs : List Value) (k : Nat) (Z : Array Value), (∀ v ∈ vs, v.cells = #[v]) → k + vs.length = Z.size → Instr.fill (fun i => some (i * 1, 1)) Z ((vs.zipIdx k).map fun p => (p.2, p.1)) = some (Z.toList.take k ++ vs).toArray
  | [], k, Z, _, hk => by
    have : Z.toList.take k = Z.toList := List.take_of_length_le (by simp at hk; simp; omega)
    simp [Instr.fill, this]
  | v :: vs, k, Z, hv, hk => by
    have h1 := hv v (by simp)
    have ih := fill_ones vs (k + 1) (Z.setIfInBounds k v) (fun u hu => hv u (by simp [hu])) (by simp at hk ⊢; omega)
    have hkz : k < Z.size := by simp at hk; omega
    have e : (Z.setIfInBounds k v).toList.take (k + 1) ++ vs = Z.toList.take k ++ v :: vs := by
      rw [Array.toList_setIfInBounds, List.take_add_one, List.take_set_of_le (Nat.le_refl k), List.getElem?_set_self (by simpa using hkz)]
      simp
    rw [e] at ih
    have hsz : v.cells.size = 1 := by rw [h1]; rfl
    have hf : v.cells.zipIdx.foldl (fun cs (c, j) => cs.setIfInBounds (k * 1 + j) c) Z = Z.setIfInBounds k v := by
      rw [h1]; simp
    have hc : ¬ (v.cells.size ≠ 1 || k * 1 + v.cells.size > Z.size) = true := by rw [hsz]; simp; omega
    simp only [List.zipIdx_cons, List.map_cons, Instr.fill]
    rw [if_neg hc, hf]
    exact ih
section
variable {P : Program} {G : Mem} {R : Reg} {ops : Array Oper} {K : Act → Mem → Prop} {rest : List Oper} {a : Act} {m : Mem} {d : Option Tmp} {ty : TypeId} {pos : String} {aft : Array Edge}
variable {T T' : TypeId} {x y : Operand}
end
section
variable {P : Program} {G : Mem} {R : Reg} {ops : Array Oper} {n : Nat} {K : Env → Mm → Prop} {rest : List Oper} {E : Env} {M : Mm} {d : Nat} {ty : TypeId} {pos : String} {aft : Array Edge}
variable {T T' : TypeId} {x y : Operand}
theorem e_condT {Q : Exit → Env → Mm → Prop} {c : Operand} {p q : Code} (hc : rd E c = some (.bool true)) (h : SatE P G p n Q E M) : SatE P G (.cond c p q) n Q E M := e_cond hc (fun _ => h) (fun e => (by cases e))
theorem e_condF {Q : Exit → Env → Mm → Prop} {c : Operand} {p q : Code} (hc : rd E c = some (.bool false)) (h : SatE P G q n Q E M) : SatE P G (.cond c p q) n Q E M := e_cond hc (fun e => (by cases e)) (fun _ => h)
end
end Go.Proofs.Ytfldnikepdbgkaa
namespace Go.Proofs.Ytfldnikepdbgkaa
open Go Go.RowKit
def lab : Nat → Mem → Mm
  | _, [] => []
  | k, x :: l => (k, some x) :: lab (k + 1) l
theorem lab_lk : ∀ (nw : Mem) (k i : Nat), lkM (lab k nw) i = if k ≤ i then nw[i - k]? else none
  | [], k, i => by simp [lab, lkM]
  | x :: l, k, i => by
    rw [lab, lkM_cons]
    by_cases h : k = i
    · subst h; simp
    · rw [if_neg h, lab_lk l (k + 1) i]
      by_cases h2 : k ≤ i
      · rw [if_pos (by omega), if_pos h2, show i - k = (i - (k + 1)) + 1 by omega, List.getElem?_cons_succ]
      · rw [if_neg (by omega), if_neg h2]
def Bag (fz : Mem) (M : Mm) : Prop := ∀ i, 1000 ≤ i → lkM M i = fz[i - 1000]?
theorem bag_lab (fz : Mem) : Bag fz (lab 1000 fz) := fun i hi => by rw [lab_lk, if_pos hi]
theorem bag_nil : Bag [] [] := fun i _ => by simp [lkM]
theorem bag_skip {fz : Mem} {M : Mm} {i : Nat} {x : Option Blk} (hi : Nat.blt i 1000 = true) (h : Bag fz M) : Bag fz ((i, x) :: M) := fun j hj => by
  have : i < 1000 := by simpa using hi
  rw [lkM_cons, if_neg (by omega)]; exact h j hj
theorem bag_sub {fz : Mem} {M : Mm} (h : Bag fz M) : subL (lab 1000 fz) M := by
  have key : ∀ (l : Mem) (k : Nat), 1000 ≤ k → (∀ j x, l[j]? = some x → lkM M (k + j) = some x) → subL (lab k l) M := by
    intro l
    induction l with
    | nil => intro k _ _; exact trivial
    | cons x l ih =>
      intro k hk hl
      refine ⟨by simpa using hl 0 x rfl, ih (k + 1) (by omega) fun j y hy => ?_⟩
      have := hl (j + 1) y (by simpa using hy)
      rw [show k + 1 + j = k + (j + 1) by omega]; exact this
  exact key fz 1000 (Nat.le_refl _) fun j x hx => by rw [h (1000 + j) (by omega), show 1000 + j - 1000 = j by omega]; exact hx
theorem subL_cat {A B M : Mm} (h1 : subL A M) (h2 : subL B M) : subL (catL A B) M := by
  induction A with
  | nil => exact h2
  | cons x A ih => exact ⟨h1.1, ih h1.2⟩
theorem cat_lk {T : Mm} : ∀ {L : Mm} {i : Nat} {x : Blk}, lkM (catL L T) i = some x → lkM L i = some x ∨ lkM T i = some x
  | [], _, _, h => .inr h
  | (s, v) :: L, i, x, h => by
    rw [catL, lkM_cons] at h
    rw [lkM_cons]
    by_cases e : s = i
    · rw [if_pos e] at h ⊢; exact .inl h
    · rw [if_neg e] at h ⊢; exact cat_lk h
def small : Mm → Bool
  | [] => true
  | (i, _) :: L => Nat.blt i 1000 && small L
theorem small_lk : ∀ {L : Mm} {i : Nat} {x : Blk}, small L = true → lkM L i = some x → i < 1000
  | [], _, _, _, h => by simp [lkM] at h
  | (s, v) :: L, i, x, hs, h => by
    rw [small, Bool.and_eq_true] at hs
    have : s < 1000 := by simpa using hs.1
    rw [lkM_cons] at h
    by_cases e : s = i
    · omega
    · rw [if_neg e] at h; exact small_lk hs.2 h
theorem FitsM.bag {M L : Mm} {m m' fz nw : Mem} (hM : FitsM M m) (hb : Bag fz M) (hL : subL L M) (hs : small L = true) (hm : ∀ x ∈ m, x ∈ m') (hn : ∀ x ∈ nw, x ∈ m') (hnd : (nw.map (·.b)).Nodup) (hap : ∀ x ∈ nw, ∀ i y, (1000 ≤ i ∨ ∃ z, lkM L i = some z) → lkM M i = some y → y.b ≠ x.b) : FitsM (catL L (lab 1000 (fz ++ nw))) m' := by
  have look : ∀ i x, lkM (catL L (lab 1000 (fz ++ nw))) i = some x → (lkM M i = some x ∧ (1000 ≤ i ∨ ∃ z, lkM L i = some z) ∧ (1000 ≤ i → i < 1000 + fz.length)) ∨ (1000 + fz.length ≤ i ∧ nw[i - 1000 - fz.length]? = some x) := fun i x h => by
    rcases cat_lk h with h | h
    · have h1 := small_lk hs h
      exact .inl ⟨subL_lk hL i x h, .inr ⟨x, h⟩, fun h2 => by omega⟩
    · rw [lab_lk] at h
      by_cases hi : 1000 ≤ i
      · rw [if_pos hi] at h
        by_cases hl : i - 1000 < fz.length
        · rw [List.getElem?_append_left hl] at h
          exact .inl ⟨by rw [hb i hi]; exact h, .inl hi, fun _ => by omega⟩
        · rw [List.getElem?_append_right (by omega)] at h
          exact .inr ⟨by omega, h⟩
      · rw [if_neg hi] at h; cases h
  refine ⟨fun i x h => ?_, fun i j x y hx hy hne => ?_⟩
  · rcases look i x h with ⟨h1, _⟩ | ⟨_, h1⟩
    · exact hm x (hM.has i x h1)
    · exact hn x (List.mem_of_getElem? h1)
  · rcases look i x hx with ⟨h1, g1, _⟩ | ⟨h0, h1⟩
    · rcases look j y hy with ⟨h2, _, _⟩ | ⟨_, h2⟩
      · exact hM.apart i j x y h1 h2 hne
      · exact hap y (List.mem_of_getElem? h2) i x g1 h1
    · rcases look j y hy with ⟨h2, g2, _⟩ | ⟨h3, h2⟩
      · exact fun e => hap x (List.mem_of_getElem? h1) j y g2 h2 e.symm
      · intro e
        have l1 := (List.getElem?_eq_some_iff.1 h1).1
        have l2 := (List.getElem?_eq_some_iff.1 h2).1
        have q1 : (nw.map (·.b))[i - 1000 - fz.length]? = some x.b := by rw [List.getElem?_map, h1]; rfl
        have q2 : (nw.map (·.b))[j - 1000 - fz.length]? = some x.b := by rw [List.getElem?_map, h2, e]; rfl
        have := (List.getElem?_inj (by simpa using l1) hnd).1 (q1.trans q2.symm)
        omega
section
variable {P : Program} {G : Mem} {R : Reg} {ops : Array Oper} {n : Nat} {K : Env → Mm → Prop} {Q : Exit → Env → Mm → Prop} {rest : List Oper} {E : Env} {M : Mm} {d : Nat} {ty : TypeId} {pos : String} {aft : Array Edge}
variable {T T' : TypeId} {x y : Operand}
theorem okXL_none {i : Nat} (hX : R.X = []) (hL : R.L = none := by rfl) : okXL M i [] R := by
  unfold okXL
  rw [hL]
  show okX M i [] R.X
  rw [hX]
  trivial
theorem seen_bag {fz : Mem} (hb : Bag fz M) (hX : R.X = []) (hL : R.L = none := by rfl) : SeenE G R M fz := fun z hz => by
  obtain ⟨j, hj⟩ := List.getElem?_of_mem hz
  exact .inr ⟨1000 + j, by rw [hb _ (by omega), show 1000 + j - 1000 = j by omega]; exact hj, [], okXL_none hX hL⟩
theorem seen_cons {z : Blk} (i : Nat) (hi : lkM M i = some z) (hX : R.X = [] := by rfl) (hL : R.L = none := by rfl) : SeenE G R M (z :: G) := fun q hq => by
  rcases List.mem_cons.1 hq with rfl | h
  · exact .inr ⟨i, hi, [], okXL_none hX hL⟩
  · exact .inl h
theorem e_callD (L : Mm) {fz : Mem} {fo : Operand} {f : FuncId} {args : Array Operand} {tys : Array TypeId} {vs cap : List Value} {g' : Mem} {S : Value → Mem → Prop} (hb : Bag fz M) (hL : subL L M) (hs : small L = true) (hf : rd E fo = some (.func (.func f) #[] cap.toArray)) (hargs : rdl E args.toList = some vs) (he : enters P f = true) (hg : SeenE G R M g')
    (hF : Fx P g' [] f (vs ++ cap).toArray (fun v l1 nw => l1 = [] ∧ S v nw)) (hS : ∀ m' : Mem, ∃ v nw, S v nw ∧ FreshM m' nw) (hd : Nat.blt d n = true) (hR : callMk R = true)
    (h : ∀ v nw, S v nw → OpsE P G R ops n K rest ((d, v) :: E) (catL L (lab 1000 (fz ++ nw)))) (hpu : pureD R (some d) = false := by first | rfl | assumption) : OpsE P G R ops n K (⟨some d, .call ⟨.value fo, args, tys⟩, ty, pos, aft, none⟩ :: rest) E M :=
  fun _ m ha hM => by
    refine st_callN hR hpu (S := S) (ha.rd hf) (ha.args hargs) he (by simpa using hF) hS (fun w hG hv q hq => (hg.seen hM).rin hG hv hq) ?_
    intro v nw hSv hfr
    exact h v nw hSv _ _ (ha.put hd _) (hM.bag hb hL hs (fun x hx => List.mem_append_left _ hx) (fun x hx => List.mem_append_right _ hx) hfr.1 fun x hx i y _ hy => hfr.2 x hx y (hM.has i y hy))
theorem FitsM.freeze {L : Mm} {m fz : Mem} (hM : FitsM M m) (i : Nat) {oz : Option Blk} (hi : lkM M i = oz) (h1 : Nat.blt i 1000 = true) (hb : Bag fz M) (hL : subL L M) (hs : small L = true) (hn : lkM L i = none) : FitsM (catL L (lab 1000 (fz ++ oz.toList))) m := by
  have h1' : i < 1000 := by simpa using h1
  cases oz with
  | none => exact hM.bag hb hL hs (fun _ h => h) (fun x hx => by simp at hx) (by simp) (fun x hx => by simp at hx)
  | some z =>
    refine hM.bag hb hL hs (fun _ h => h) (fun x hx => ?_) (by simp) fun x hx j y hj hy => ?_
    · simp at hx; subst hx; exact hM.has i x hi
    · simp at hx; subst hx
      refine hM.apart j i y x hy hi fun e => ?_
      subst e
      rcases hj with hj | ⟨q, hq⟩
      · omega
      · rw [hn] at hq; cases hq
theorem e_freeze (i : Nat) (L : Mm) {l : List Oper} {fz : Mem} {oz : Option Blk} (hi : lkM M i = oz) (h1 : Nat.blt i 1000 = true) (hb : Bag fz M) (hL : subL L M) (hs : small L = true) (hn : lkM L i = none) (h : OpsE P G R ops n K l E (catL L (lab 1000 (fz ++ oz.toList)))) : OpsE P G R ops n K l E M :=
  fun _ _ ha hM => h _ _ ha (hM.freeze i hi h1 hb hL hs hn)
theorem s_freeze (i : Nat) (L : Mm) {c : Code} {fz : Mem} {oz : Option Blk} (hi : lkM M i = oz) (h1 : Nat.blt i 1000 = true) (hb : Bag fz M) (hL : subL L M) (hs : small L = true) (hn : lkM L i = none) (h : SatE P G c n Q E (catL L (lab 1000 (fz ++ oz.toList)))) : SatE P G c n Q E M :=
  fun _ _ ha hM => h _ _ ha (hM.freeze i hi h1 hb hL hs hn)
theorem e_loopB {c : Code} (Ek : Env) (Mk : Mm) (I : Nat → Env → Mm → Mem → Prop) {E0 : Env} {M0 : Mm} {fz : Mem} {k : Nat} (h0 : I k E0 M0 fz) (hs : sub (catE E0 Ek) E) (hl : subL (catL M0 Mk) M) (hb : Bag fz M)
    (round : ∀ k E M fz, I k E M fz → SatE P G c n (thenE (fun E' M' => ∃ k' E'' M'' fz', k' < k ∧ sub (catE E'' Ek) E' ∧ subL (catL M'' Mk) M' ∧ Bag fz' M' ∧ I k' E'' M'' fz') Q) (catE E Ek) (catL (catL M Mk) (lab 1000 fz))) : SatE P G (.loop c) n Q E M :=
  e_loop (fun k E M => ∃ E1 M1 fz, E = catE E1 Ek ∧ M = catL (catL M1 Mk) (lab 1000 fz) ∧ I k E1 M1 fz) (catE E0 Ek) (catL (catL M0 Mk) (lab 1000 fz)) k hs (subL_cat hl (bag_sub hb)) ⟨_, _, _, rfl, rfl, h0⟩ fun k E M ⟨E1, M1, fz, e1, e2, hI⟩ => by
    subst e1 e2
    intro a m ha hM
    refine sat_mono (round k E1 M1 fz hI a m ha hM) fun e a' m' ⟨E', M', h1, h2, h3⟩ => ⟨E', M', h1, h2, ?_⟩
    cases e with
    | normal =>
      obtain ⟨k', E'', M'', fz', q1, q2, q3, q5, q4⟩ := h3
      exact ⟨k', _, _, q1, q2, subL_cat q3 (bag_sub q5), _, _, _, rfl, rfl, q4⟩
    | _ => exact h3
theorem e_round {Ek : Env} {Mk : Mm} {I : Nat → Env → Mm → Mem → Prop} {k k' : Nat} {E' E'' : Env} {M' M'' : Mm} {fz' : Mem} (h : I k' E'' M'' fz') (hs : sub (catE E'' Ek) E') (hl : subL (catL M'' Mk) M') (hb : Bag fz' M') (hk : k' < k) : ∃ k' E'' M'' fz', k' < k ∧ sub (catE E'' Ek) E' ∧ subL (catL M'' Mk) M' ∧ Bag fz' M' ∧ I k' E'' M'' fz' := ⟨_, _, _, _, hk, hs, hl, hb, h⟩
end
section
variable {P : Program} {G : Mem} {R : Reg} {ops : Array Oper} {n : Nat} {K : Env → Mm → Prop} {Q : Exit → Env → Mm → Prop} {E : Env} {M : Mm}
theorem sub_cat {A B F : Env} (h1 : sub A F) (h2 : sub B F) : sub (catE A B) F := by
  induction A with
  | nil => exact h2
  | cons x A ih => exact ⟨h1.1, ih h1.2⟩
theorem e_join (Fk Fn : Env) (Nk : Mm) {l : List Oper} (_hk : sub Fk E) (_hn : subL Nk M) (h : OpsE P G R ops n (fun E' M' => sub Fk E' ∧ sub Fn E' ∧ subL Nk M') l E M) (hK : K (catE Fn Fk) Nk) : OpsE P G R ops n K l E M :=
  fun a m ha hM => opsM_mono (fun _ _ ⟨_, _, h1, h2, h3, h4, h5⟩ => ⟨_, _, h1.sub (sub_cat h4 h3), h2.sub h5, hK⟩) l (h a m ha hM)
def joinQ (Fk Fn : Env) (Nk : Mm) (Q : Exit → Env → Mm → Prop) : Exit → Env → Mm → Prop
  | .normal, E', M' => sub Fk E' ∧ sub Fn E' ∧ subL Nk M'
  | e, E', M' => Q e E' M'
theorem s_join (Fk Fn : Env) (Nk : Mm) {c : Code} (_hk : sub Fk E) (_hn : subL Nk M) (h : SatE P G c n (joinQ Fk Fn Nk Q) E M) (hK : Q .normal (catE Fn Fk) Nk) : SatE P G c n Q E M :=
  fun a m ha hM => sat_mono (h a m ha hM) fun e _ _ ⟨E', M', h1, h2, h3⟩ => by
    cases e with
    | normal => exact ⟨_, _, h1.sub (sub_cat h3.2.1 h3.1), h2.sub h3.2.2, hK⟩
    | _ => exact ⟨E', M', h1, h2, h3⟩
theorem e_case {l : List Oper} {s : Nat} {b : Bool} (ht : b = true → OpsE P G R ops n K l ((s, .bool true) :: E) M) (hf : b = false → OpsE P G R ops n K l ((s, .bool false) :: E) M) : OpsE P G R ops n K l ((s, .bool b) :: E) M := by
  cases b with
  | true => exact ht rfl
  | false => exact hf rfl
theorem cell_one {v : Value} (h : v.cells = #[v]) : v.cells[0]? = some v := by rw [h]; rfl
theorem bool_fin {b b' : Bool} (h : b = b') : some (Value.bool b) = some (Value.bool b') := by rw [h]
end
theorem own_two {e : TypeId} {r : Nat} {v w : Value} : OwnS e 1 (.slice (some ⟨r, 0, none⟩) 2 2) 2 [v, w] [⟨r, #[v, w], e⟩] := .inr ⟨r, 2, #[v, w], rfl, rfl, Nat.le_refl _, by decide, rfl, rfl, rfl⟩
theorem own_none {e : TypeId} {z r : Nat} : OwnS e z (.slice (some ⟨r, 0, none⟩) 0 0) 0 [] [⟨r, #[], e⟩] := .inr ⟨r, 0, #[], rfl, rfl, Nat.le_refl _, by decide, by simp, by simp, by simp⟩
theorem st_buildSl0 {P : Program} {G : Mem} {R : Reg} {ops : Array Oper} {K : Act → Mem → Prop} {rest : List Oper} {a : Act} {m : Mem} {d : Option Tmp} {ty T : TypeId} {pos : String} {aft : Array Edge} {z : Nat} {e : TypeId} (hT : P.underlying T = some (.slice e)) (hs : (P.info? e).map (·.size) = some z)
    (h : ∀ r, (∀ x ∈ m, x.b ≠ r) → opsM P G R ops K rest (a.put d (.slice (some ⟨r, 0, none⟩) 0 0)) (m ++ [⟨r, #[], e⟩])) : opsM P G R ops K (⟨d, .buildSlice T 0 #[], ty, pos, aft, none⟩ :: rest) a m :=
  .inr ⟨rfl, #[], e, fun r => .slice (some ⟨r, 0, none⟩) 0 0, fun w => by
    cases hi : P.info? e with
    | none => simp [hi] at hs
    | some j =>
      simp only [execOp, Instr.buildSlice, zeroValue, typeInfo, underlying, program, sizeOf, newRow, newObj]
      simp [Sem.run, hT, hi, Instr.fill]
      congr 2
      apply Array.ext
      · simp
      · intro i h1 h2
        simp at h2, h⟩
theorem e_buildSl0 {P : Program} {G : Mem} {R : Reg} {ops : Array Oper} {n : Nat} {K : Env → Mm → Prop} {rest : List Oper} {E : Env} {M : Mm} {d : Nat} {ty T : TypeId} {pos : String} {aft : Array Edge} (i : Nat) {z : Nat} {e : TypeId} (hT : P.underlying T = some (.slice e)) (hs : (P.info? e).map (·.size) = some z) (hd : Nat.blt d n = true)
    (h : ∀ r, OpsE P G R ops n K rest ((d, .slice (some ⟨r, 0, none⟩) 0 0) :: E) ((i, some ⟨r, #[], e⟩) :: M)) : OpsE P G R ops n K (⟨some d, .buildSlice T 0 #[], ty, pos, aft, none⟩ :: rest) E M :=
  fun _ _ ha hM => st_buildSl0 hT hs fun r hr => h r _ _ (ha.put hd _) (hM.alloc i ⟨r, #[], e⟩ hr)
section
variable {P : Program} {G : Mem} {n : Nat}
theorem FitsM.bag_in {M : Mm} {m fz : Mem} (hM : FitsM M m) (hb : Bag fz M) : (fz.map (·.b)).Nodup ∧ ∀ x ∈ fz, x ∈ m := by
  have at_ : ∀ j x, fz[j]? = some x → lkM M (1000 + j) = some x := fun j x hx => by rw [hb _ (by omega), show 1000 + j - 1000 = j by omega]; exact hx
  refine ⟨?_, fun x hx => by
    obtain ⟨j, hj⟩ := List.getElem?_of_mem hx
    exact hM.has _ x (at_ j x hj)⟩
  unfold List.Nodup
  rw [List.pairwise_iff_getElem]
  intro i j hi hj hij e
  have hi' : i < fz.length := by simpa using hi
  have hj' : j < fz.length := by simpa using hj
  have h1 : fz[i]? = some fz[i] := List.getElem?_eq_getElem hi'
  have h2 : fz[j]? = some fz[j] := List.getElem?_eq_getElem hj'
  exact hM.apart _ _ _ _ (at_ i _ h1) (at_ j _ h2) (by omega) (by simpa using e)
def EndD (P : Program) (S : Value → Mem → Prop) (fn : Func) : Exit → Env → Mm → Prop
  | .normal, E, M | .ret, E, M => ∃ r v fz, fn.results = #[r] ∧ Res P E M r v ∧ S v fz ∧ Bag fz M
  | _, _, _ => False
theorem fxD {f : FuncId} {fn : Func} {c : Code} {args : Array Value} {S : Value → Mem → Prop} (hf : P.funcs[f]? = some fn) (hb : fn.body = some c) (hn : fn.ntmps = n) (ha : args.size ≤ n) (E : Env) (hE : ∀ t v, lk E t = some v → args[t]? = some v)
    (h : SatE P G c n (EndD P S fn) E []) : Fx P G [] f args (fun v l1 nw => l1 = [] ∧ S v nw) :=
  fx_of hf hb (sat_mono (h _ [] ⟨by simp [hn]; omega, rfl, fun t v ht => by
    have := hE t v ht
    have hlt := (Array.getElem?_eq_some_iff.1 this).1
    rw [Array.getElem?_append_left hlt]; exact this⟩ (FitsM.nil _)) fun e' a m ⟨E', M', h1, h0, h2⟩ => by
      have key : (∃ r v fz, fn.results = #[r] ∧ Res P E' M' r v ∧ S v fz ∧ Bag fz M') → a.defers = [] ∧ ∃ v l1 nw, (l1 = [] ∧ S v nw) ∧ (nw.map (·.b)).Nodup ∧ (∀ x ∈ nw, x.b ∉ ([] : Mem).map (·.b)) ∧ (∀ x ∈ l1 ++ nw, x ∈ m) ∧ ∀ w, MemIn m w → (results fn a.tmps).run P w = .ok v w := fun ⟨r, v, fz, hr, hR, ho, hb⟩ =>
        ⟨h1.defers, v, [], fz, ⟨rfl, ho⟩, (h0.bag_in hb).1, by simp, fun x hx => (h0.bag_in hb).2 x (by simpa using hx), fun w hw => by
          have := res_run h1 h0 hw hR
          rw [results_eq, hr, mapM1]
          simp [this]⟩
      cases e' <;> first | exact key h2 | exact h2.elim)
end
end Go.Proofs.Ytfldnikepdbgkaa
namespace Go.Proofs.Ytfldnikepdbgkaa
open Go Go.RowKit
section
variable {P : Program} {G : Mem} {R : Reg} {ops : Array Oper} {K : Act → Mem → Prop} {rest : List Oper} {a : Act} {m : Mem} {d : Option Tmp} {ty : TypeId} {pos : String} {aft : Array Edge}
variable {T T' : TypeId} {x : Operand}
end
section
variable {P : Program} {G : Mem} {R : Reg} {ops : Array Oper} {n : Nat} {K : Env → Mm → Prop} {rest : List Oper} {E : Env} {M : Mm} {d : Nat} {ty : TypeId} {pos : String} {aft : Array Edge}
variable {T T' : TypeId} {x : Operand}
end
section
variable {P : Program} {G : Mem} {R : Reg} {ops : Array Oper} {n : Nat} {K : Env → Mm → Prop} {rest : List Oper} {E : Env} {M : Mm} {d : Nat} {ty : TypeId} {pos : String} {aft : Array Edge}
variable {T T' : TypeId} {x y : Operand}
end
end Go.Proofs.Ytfldnikepdbgkaa
namespace Go.Proofs.Ytfldnikepdbgkaa
open Go Go.RowKit
section
variable {P : Program} {G : Mem} {R : Reg} {ops : Array Oper} {K : Act → Mem → Prop} {rest : List Oper} {a : Act} {m : Mem} {d : Option Tmp} {ty : TypeId} {pos : String} {aft : Array Edge}
variable {T T' : TypeId} {x y : Operand}
end
section
variable {P : Program} {G : Mem} {R : Reg} {ops : Array Oper} {n : Nat} {K : Env → Mm → Prop} {rest : List Oper} {E : Env} {M : Mm} {d : Nat} {ty : TypeId} {pos : String} {aft : Array Edge}
variable {T T' : TypeId} {x y : Operand}
end
end Go.Proofs.Ytfldnikepdbgkaa
namespace Go.Proofs.Ytfldnikepdbgkaa
open Go Go.RowKit
section
variable {P : Program}
end
section
variable {P : Program} {G : Mem} {R : Reg} {ops : Array Oper} {n : Nat} {K : Env → Mm → Prop} {rest : List Oper} {E : Env} {M : Mm} {d : Nat} {ty : TypeId} {pos : String} {aft : Array Edge}
variable {T T' : TypeId} {x y : Operand}
end
end Go.Proofs.Ytfldnikepdbgkaa
namespace Go.Proofs.Ytfldnikepdbgkaa
open Go Go.RowKit
section
variable {P : Program} {G : Mem} {R : Reg} {ops : Array Oper} {K : Act → Mem → Prop} {rest : List Oper} {a : Act} {m : Mem} {d : Option Tmp} {ty T T' : TypeId} {pos : String} {aft : Array Edge} {x y : Operand}
theorem st_max {k k' : IntKind} {p q : Nat} (hR : callOk R = true) (hx : a.eval x = .int k (p : Int)) (hy : a.eval y = .int k' (q : Int)) (h : opsM P G R ops K rest (a.put d (.int k ((max p q : Nat) : Int))) m) :
    opsM P G R ops K (⟨d, .call ⟨.builtin .max, #[x, y], #[T, T']⟩, ty, pos, aft, none⟩ :: rest) a m :=
  st_value rfl hR (fun w => by
    have e : (if p < q then (q : Int) else p) = ((max p q : Nat) : Int) := by split <;> omega
    have : (Builtin.max_ #[T, T'] ty #[.int k (p : Int), .int k' (q : Int)]).run P w = .ok (.int k ((max p q : Nat) : Int)) w := by simp [Builtin.max_, Builtin.max2, e]
    simp only [execOp, resolve, invoke, builtin, Sem.run_bind, Sem.run_pure, Result.andThen_ok, List.map_toArray, List.map_cons, List.map_nil, hx, hy, this]) h
end
section
variable {P : Program} {G : Mem} {R : Reg} {ops : Array Oper} {n : Nat} {K : Env → Mm → Prop} {rest : List Oper} {E : Env} {M : Mm} {d : Nat} {ty : TypeId} {pos : String} {aft : Array Edge}
variable {T T' : TypeId} {x y : Operand}
theorem e_max {k k' : IntKind} {p q : Nat} (hx : rd E x = some (.int k (p : Int))) (hy : rd E y = some (.int k' (q : Int))) (hd : Nat.blt d n = true) (hR : callOk R = true) (h : OpsE P G R ops n K rest ((d, .int k ((max p q : Nat) : Int)) :: E) M) :
    OpsE P G R ops n K (⟨some d, .call ⟨.builtin .max, #[x, y], #[T, T']⟩, ty, pos, aft, none⟩ :: rest) E M := fun _ _ ha hM => st_max hR (ha.rd hx) (ha.rd hy) (h _ _ (ha.put hd _) hM)
end
end Go.Proofs.Ytfldnikepdbgkaa
namespace Go.Proofs.Ytfldnikepdbgkaa
open Go Go.RowKit
section
variable {P : Program} {G : Mem} {R : Reg} {ops : Array Oper} {K : Act → Mem → Prop} {rest : List Oper} {a : Act} {m : Mem} {d : Option Tmp} {ty T T' : TypeId} {pos : String} {aft : Array Edge} {x y : Operand}
theorem st_nilCheck {q : Addr} (hx : a.eval x = .pointer (some q)) (h : opsM P G R ops K rest (a.put d (.pointer (some q))) m) : opsM P G R ops K (⟨d, .nilCheck x, ty, pos, aft, none⟩ :: rest) a m :=
  st_quiet (v := .pointer (some q)) rfl rfl (fun w => by simp only [execOp, hx]; rfl) h
end
section
variable {P : Program} {G : Mem} {R : Reg} {ops : Array Oper} {K : Act → Mem → Prop} {rest : List Oper} {a : Act} {m : Mem} {d : Option Tmp} {ty T T' : TypeId} {pos : String} {aft : Array Edge} {x y : Operand}
theorem st_idxP {j n : Nat} {k2 : IntKind} {e : TypeId} {F : Nat → Value} {td : TypeDesc} (hT : P.underlying T = some (.array n e)) (he : P.underlying e = some td) (hn : rowLike td = false) (hs : (P.info? e).map (·.size) = some 1) (hx : a.eval x = .agg (arrv n F)) (hy : a.eval y = .int k2 (j : Int)) (hj : j < n)
    (h : opsM P G R ops K rest (a.put d (F j)) m) : opsM P G R ops K (⟨d, .index T x y, ty, pos, aft, none⟩ :: rest) a m :=
  st_quiet (v := F j) rfl rfl (fun w => by
    cases hi : P.info? e with
    | none => simp [hi] at hs
    | some i =>
      have hsz : i.size = 1 := by simpa [hi] using hs
      have h0 : (0 : Int) ≤ j ∧ (j : Int) < n := by omega
      have hp : (part e (arrv n F) j).run P w = .ok (F j) w := by
        unfold part
        simp [run_isAgg he, hn, arrv_get hj]
      simp only [execOp, Instr.index, hx, hy, asIntOf, underlying, program, sizeOf, typeInfo]
      simp [Sem.run, hT, hi, hsz, hj, hp]) h
end
theorem FitsM.more {M : Mm} {m m' : Mem} (hM : FitsM M m) (h : ∀ x ∈ m, x ∈ m') : FitsM M m' := ⟨fun i x hx => h x (hM.has i x hx), hM.apart⟩
def Two (b : Nat) (t : TypeId) (oz : Option Blk) (S : Value → Array Value → Option Blk → Prop) : Value → Mem → Mem → Prop := fun v l1 nw =>
  ∃ c' oz', S v c' oz' ∧ ((l1 = ⟨b, c', t⟩ :: oz'.toList ∧ nw = [] ∧ oz'.toList.map (·.b) = oz.toList.map (·.b)) ∨ ∃ lo, l1 = ⟨b, c', t⟩ :: lo ∧ lo.map (·.b) = oz.toList.map (·.b) ∧ nw = oz'.toList)
section
variable {P : Program} {G : Mem} {R : Reg} {ops : Array Oper} {n : Nat} {K : Env → Mm → Prop} {rest : List Oper} {E : Env} {M : Mm} {d : Nat} {ty T T' : TypeId} {pos : String} {aft : Array Edge} {x y : Operand}
theorem e_nilCheck {q : Addr} (hx : rd E x = some (.pointer (some q))) (hd : Nat.blt d n = true) (h : OpsE P G R ops n K rest ((d, .pointer (some q)) :: E) M) : OpsE P G R ops n K (⟨some d, .nilCheck x, ty, pos, aft, none⟩ :: rest) E M :=
  fun _ _ ha hM => st_nilCheck (ha.rd hx) (h _ _ (ha.put hd _) hM)
theorem e_idxP {j l : Nat} {k2 : IntKind} {e : TypeId} {F : Nat → Value} {td : TypeDesc} (hT : P.underlying T = some (.array l e)) (he : P.underlying e = some td) (hn : rowLike td = false) (hs : (P.info? e).map (·.size) = some 1) (hx : rd E x = some (.agg (arrv l F))) (hy : rd E y = some (.int k2 (j : Int))) (hj : j < l) (hd : Nat.blt d n = true)
    (h : OpsE P G R ops n K rest ((d, F j) :: E) M) : OpsE P G R ops n K (⟨some d, .index T x y, ty, pos, aft, none⟩ :: rest) E M := fun _ _ ha hM => st_idxP hT he hn hs (ha.rd hx) (ha.rd hy) hj (h _ _ (ha.put hd _) hM)
theorem e_callWS (i : Nat) {fo : Operand} {f : FuncId} {args : Array Operand} {tys : Array TypeId} {vs cap : List Value} {g' : Mem} {b : Nat} {c : Array Value} {t : TypeId} {S : Value → Array Value → Prop} (hf : rd E fo = some (.func (.func f) #[] cap.toArray)) (hargs : rdl E args.toList = some vs) (he : enters P f = true)
    (hm : lkM M i = some ⟨b, c, t⟩) (hg : ∀ z ∈ g', z ∈ G ∨ ∃ j, j ≠ i ∧ lkM M j = some z) (hF : Fx P g' [⟨b, c, t⟩] f (vs ++ cap).toArray (fun v l1 nw => nw = [] ∧ ∃ c', l1 = [⟨b, c', t⟩] ∧ S v c')) (hS : ∃ v c', S v c') (hd : Nat.blt d n = true) (hR : R.c = 5)
    (h : ∀ v c', S v c' → OpsE P G R ops n K rest ((d, v) :: E) ((i, some ⟨b, c', t⟩) :: M)) (hL : R.L = none := by rfl) (hpu : pureD R (some d) = false := by first | rfl | assumption) : OpsE P G R ops n K (⟨some d, .call ⟨.value fo, args, tys⟩, ty, pos, aft, none⟩ :: rest) E M :=
  fun _ m ha hM => by
    obtain ⟨lr, hp⟩ := hM.perm1 hm
    obtain ⟨v0, c0, h0⟩ := hS
    refine st_callX hR hpu (S := fun v l1 nw => nw = [] ∧ ∃ c', l1 = [⟨b, c', t⟩] ∧ S v c') (ha.rd hf) (ha.args hargs) he (by simpa using hF) (lr := lr) (fun _ _ => off_none hL _) (by simpa using hp) (fun _ => ⟨v0, _, [], ⟨rfl, c0, rfl, h0⟩, by simp, by simp⟩) ?_ (fun w hG hw z hz => ?_) (by simp) (fun hA z hz => ?_) ?_
    · rintro v' l1 nw ⟨_, c', rfl, _⟩; rfl
    · rcases hg z hz with h1 | ⟨j, _, h1⟩
      · exact hG z h1
      · exact (hw z (hM.has j z h1)).read
    · rcases hg z hz with h1 | ⟨j, hne, h1⟩
      · simpa using hA z h1 ⟨b, c, t⟩ (hM.has i _ hm)
      · simpa using hM.apart j i z _ h1 hm hne
    · rintro v' l1 nw ⟨rfl, c', rfl, h2⟩ _
      have := hM.same (oz' := some ⟨b, c', t⟩) hm hp rfl
      exact h _ _ h2 _ _ (ha.put hd _) (by simpa using this)
end
section
variable {P : Program} {G : Mem} {n : Nat}
def EndWS (P : Program) (b : Nat) (t : TypeId) (S : Value → Array Value → Prop) (fn : Func) : Exit → Env → Mm → Prop
  | .normal, E, M | .ret, E, M => ∃ r v c', fn.results = #[r] ∧ Res P E M r v ∧ S v c' ∧ ∃ i, lkM M i = some ⟨b, c', t⟩
  | _, _, _ => False
theorem FitsM.single (x : Blk) : FitsM [(0, some x)] [x] := ⟨fun i y hy => by
    rw [lkM_cons] at hy
    split at hy
    · cases hy; simp
    · simp [lkM] at hy, fun i j y z hy hz hne => by
    rw [lkM_cons] at hy hz
    split at hy
    · split at hz
      · rename_i e1 e2; exact absurd (e1.symm.trans e2) hne
      · simp [lkM] at hz
    · simp [lkM] at hy⟩
theorem fxWS {f : FuncId} {fn : Func} {c : Code} {args : Array Value} {b : Nat} {c0 : Array Value} {t : TypeId} {S : Value → Array Value → Prop} (hf : P.funcs[f]? = some fn) (hb : fn.body = some c) (hn : fn.ntmps = n) (ha : args.size ≤ n) (E : Env) (hE : ∀ t v, lk E t = some v → args[t]? = some v)
    (h : SatE P G c n (EndWS P b t S fn) E [(0, some ⟨b, c0, t⟩)]) : Fx P G [⟨b, c0, t⟩] f args (fun v l1 nw => nw = [] ∧ ∃ c', l1 = [⟨b, c', t⟩] ∧ S v c') :=
  fx_of hf hb (sat_mono (h _ [⟨b, c0, t⟩] ⟨by simp [hn]; omega, rfl, fun t v ht => by
    have := hE t v ht
    have hlt := (Array.getElem?_eq_some_iff.1 this).1
    rw [Array.getElem?_append_left hlt]; exact this⟩ (.single _)) fun e' a m ⟨E', M', h1, h0, h2⟩ => by
      have key : (∃ r v c', fn.results = #[r] ∧ Res P E' M' r v ∧ S v c' ∧ ∃ i, lkM M' i = some ⟨b, c', t⟩) → a.defers = [] ∧ ∃ v l1 nw, (nw = [] ∧ ∃ c', l1 = [⟨b, c', t⟩] ∧ S v c') ∧ (nw.map (·.b)).Nodup ∧ (∀ x ∈ nw, x.b ∉ [(⟨b, c0, t⟩ : Blk)].map (·.b)) ∧ (∀ x ∈ l1 ++ nw, x ∈ m) ∧ ∀ w, MemIn m w → (results fn a.tmps).run P w = .ok v w := fun ⟨r, v, c', hr, hR, hS, i, hi⟩ =>
        ⟨h1.defers, v, [⟨b, c', t⟩], [], ⟨rfl, c', rfl, hS⟩, by simp, by simp, fun x hx => by
          simp at hx; subst hx; exact h0.has i _ hi, fun w hw => by
          have := res_run h1 h0 hw hR
          rw [results_eq, hr, mapM1]
          simp [this]⟩
      cases e' <;> first | exact key h2 | exact h2.elim)
def TwoEnd (b : Nat) (t : TypeId) (oz : Option Blk) (c' : Array Value) (oz' : Option Blk) (M : Mm) : Prop :=
  lkM M 0 = some ⟨b, c', t⟩ ∧ ((lkM M 1 = oz' ∧ oz'.toList.map (·.b) = oz.toList.map (·.b)) ∨ ∃ k lo, k ≠ 0 ∧ k ≠ 1 ∧ lkM M k = oz' ∧ lkM M 1 = lo ∧ lo.toList.map (·.b) = oz.toList.map (·.b))
theorem FitsM.two {x : Blk} {oz : Option Blk} (h : ∀ z, oz = some z → z.b ≠ x.b) : FitsM [(1, oz), (0, some x)] (x :: oz.toList) :=
  (FitsM.single x).change 1 (fun j y _ hy => by rw [lkM_cons] at hy; split at hy; cases hy; simp; simp [lkM] at hy) fun z hz => ⟨by subst hz; simp, fun j y _ hy => by
    rw [lkM_cons] at hy
    split at hy
    · cases hy; exact fun e => h z hz e.symm
    · simp [lkM] at hy⟩
theorem TwoEnd.post {b : Nat} {t : TypeId} {c0 c' : Array Value} {oz oz' : Option Blk} {M : Mm} {m : Mem} {S : Value → Array Value → Option Blk → Prop} {v : Value} (hM : FitsM M m) (hS : S v c' oz') (h : TwoEnd b t oz c' oz' M) :
    ∃ l1 nw, Two b t oz S v l1 nw ∧ (nw.map (·.b)).Nodup ∧ (∀ x ∈ nw, x.b ∉ (⟨b, c0, t⟩ :: oz.toList).map (·.b)) ∧ ∀ x ∈ l1 ++ nw, x ∈ m := by
  obtain ⟨h0, ⟨h1, hid⟩ | ⟨k, lo, k0, k1, hk, h1, hid⟩⟩ := h
  · refine ⟨⟨b, c', t⟩ :: oz'.toList, [], ⟨c', oz', hS, .inl ⟨rfl, rfl, hid⟩⟩, by simp, by simp, fun x hx => ?_⟩
    rw [List.append_nil] at hx
    rcases List.mem_cons.1 hx with rfl | hx
    · exact hM.has 0 _ h0
    · exact hM.has 1 x (h1.trans (by simpa using hx))
  · refine ⟨⟨b, c', t⟩ :: lo.toList, oz'.toList, ⟨c', oz', hS, .inr ⟨_, rfl, hid, rfl⟩⟩, ?_, fun x hx => ?_, fun x hx => ?_⟩
    · cases oz' <;> simp
    · have e : oz' = some x := by simpa using hx
      have n0 := hM.apart k 0 x _ (hk.trans e) h0 k0
      rw [List.map_cons, ← hid]
      cases lo with
      | none => simpa using n0
      | some q => simpa using ⟨n0, hM.apart k 1 x q (hk.trans e) h1 k1⟩
    · rcases List.mem_append.1 hx with hx | hx
      · rcases List.mem_cons.1 hx with rfl | hx
        · exact hM.has 0 _ h0
        · exact hM.has 1 x (h1.trans (by simpa using hx))
      · exact hM.has k x (hk.trans (by simpa using hx))
end
end Go.Proofs.Ytfldnikepdbgkaa
namespace Go.Proofs.Ytfldnikepdbgkaa
open Go Go.RowKit
section
variable {P : Program} {G : Mem}
end
section
variable {P : Program} {G : Mem} {n : Nat} {Q : Exit → Env → Mm → Prop} {E : Env} {M : Mm}
end
section
variable {P : Program} {G : Mem} {R : Reg} {ops : Array Oper} {n : Nat} {K : Env → Mm → Prop} {rest : List Oper} {E : Env} {M : Mm} {d : Nat} {ty : TypeId} {pos : String} {aft : Array Edge}
variable {T T' : TypeId} {x y : Operand}
theorem e_store1 {b i : Nat} {c : Array Value} {t : TypeId} {v : Value} (hs : (P.info? T).map (·.size) = some 1) (hx : rd E x = some (.pointer (some ⟨b, 0, none⟩))) (hy : rd E y = some v) (hv : v.oneCell' = true) (hm : lkM M i = some ⟨b, c, t⟩) (hc : c.size = 1) (hX : hid R ⟨none, .store T x y, ty, pos, aft, none⟩ b)
    (h : OpsE P G R ops n K rest E ((i, some ⟨b, #[v], t⟩) :: M)) (hYk : yOk R ⟨none, .store T x y, ty, pos, aft, none⟩ b := by first | exact yOk_none rfl _ _ | exact yOk_none (by assumption) _ _) : OpsE P G R ops n K (⟨none, .store T x y, ty, pos, aft, none⟩ :: rest) E M := fun _ _ ha hM => by
  obtain ⟨j, hj⟩ := hM.at hm
  have e : c.setIfInBounds 0 v = #[v] := by
    obtain ⟨q, rfl⟩ : ∃ q, c = #[q] := by
      rcases c with ⟨_ | ⟨p, _ | ⟨q, l⟩⟩⟩
      · simp at hc
      · exact ⟨p, rfl⟩
      · simp at hc
    rfl
  refine st_store1Y hs (ha.rd hx) (ha.rd hy) hv hj hX (by omega) ?_ hYk
  rw [e]
  exact h _ _ ha (hM.store hm hj _)
end
theorem hid_var {R : Reg} {o : Oper} {t b : Nat} (hY : R.Y = some (t, b)) (ht : addrT o = some t) : hid R o b := by
  unfold hid isY; rw [hY]; dsimp only; rw [ht]; exact .inl (by simp)
theorem hid_off {R : Reg} {o : Oper} {b : Nat} (hX : R.X = []) (h : offL R.L b) : hid R o b := by
  unfold hid
  cases R.Y with
  | none => exact .inl hX
  | some q => exact .inr ⟨.inl hX, h⟩
theorem y_var {R : Reg} {o : Oper} {t b : Nat} (hY : R.Y = some (t, b)) (ht : addrT o = some t) : yOk R o b := by
  unfold yOk; rw [hY]; dsimp only; rw [if_pos ht]
theorem y_none {R : Reg} (hY : R.Y = none) {o : Oper} {M : Mm} {i : Nat} : ∀ b : Blk, lkM M i = some b → ∀ m, FitsM M m → yOk R o b.b := fun b _ _ _ => yOk_none hY o b.b
theorem y_off {R : Reg} {o : Oper} {M : Mm} {i t : Nat} (j : Nat) {z : Blk} (hj : lkM M j = some z) (hij : i ≠ j) (hY : R.Y = some (t, z.b)) (ht : addrT o ≠ some t) : ∀ b : Blk, lkM M i = some b → ∀ m, FitsM M m → yOk R o b.b := fun b hb m hM => by
  unfold yOk; rw [hY]; dsimp only; rw [if_neg ht]
  exact hM.apart i j b z hb hj hij
section
variable {P : Program} {G : Mem} {R : Reg} {ops : Array Oper} {n : Nat} {K : Env → Mm → Prop} {rest : List Oper} {E : Env} {M : Mm} {d : Nat} {ty : TypeId} {pos : String} {aft : Array Edge}
variable {T T' : TypeId} {x y : Operand}
end
end Go.Proofs.Ytfldnikepdbgkaa
namespace Go.Proofs.Ytfldnikepdbgkaa
open Go Go.RowKit
abbrev Ev := Nat × Nat
def ev2 (x : Ev) : Nat → Nat := fun j => if j = 0 then x.1 else x.2
def evC (x : Ev) : List Value := [ii x.1, ii x.2]
theorem evC_len (x : Ev) : (evC x).length = 2 := rfl
theorem evC_arr (x : Ev) : (evC x).toArray = arr .i64 2 (ev2 x) := rfl
def hit (who tok : Int) (x : Ev) : Bool := decide ((x.2 : Int) = tok) && (decide (who < 0) || decide ((x.1 : Int) = who))
def hap (l : List Ev) (who tok : Int) : Bool := l.any (hit who tok)
theorem hap_none {l : List Ev} {who tok : Int} (h : ∀ j (hj : j < l.length), hit who tok l[j] = false) : hap l who tok = false := by
  rw [hap, List.any_eq_false]
  intro x hx
  obtain ⟨j, hj, rfl⟩ := List.getElem_of_mem hx
  rw [h j hj]; decide
theorem hap_hit {l : List Ev} {who tok : Int} {i : Nat} (hi : i < l.length) (h : hit who tok l[i] = true) : hap l who tok = true := by
  rw [hap, List.any_eq_true]
  exact ⟨_, List.getElem_mem hi, h⟩
theorem ev_at {l : List Ev} {i : Nat} (h : i < l.length) : ((l.flatMap evC).drop (i * 2)).take 2 = evC l[i] := flatMap_at evC_len l i h
theorem ev_len (l : List Ev) : (l.flatMap evC).length = l.length * 2 := flatMap_len evC_len l
abbrev iv (z : Int) : Value := .int .i64 z
def ShowsLI (B : Mem) (vs : List Value) (ls : List (List Int)) : Prop := vs.length = ls.length ∧ ∀ i, i < ls.length → Shows B 1 (vs.getD i undef) (ls.getD i []).length ((ls.getD i []).map iv)
theorem iv_at {l : List Int} {i : Nat} (h : i < l.length) : (l.map iv)[i]? = some (iv (l.getD i 0)) := by
  rw [List.getElem?_map, List.getElem?_eq_getElem h, List.getD_eq_getElem?_getD, List.getElem?_eq_getElem h]; rfl
def wrong (x : Int) : Bool := decide (x < 1) || decide (7 < x)
def first1 : List (List Int) → Nat
  | [] => 0
  | t :: r => if 6 < t.length then 1 else if t.any wrong then 2 else first1 r
theorem first1_none {ls : List (List Int)} (h : ∀ j, j < ls.length → (ls.getD j []).length ≤ 6 ∧ (ls.getD j []).any wrong = false) : first1 ls = 0 := by
  induction ls with
  | nil => rfl
  | cons t r ih =>
    have h0 := h 0 (by simp)
    simp at h0
    rw [first1, if_neg (by omega)]
    have : t.any wrong = false := by simpa using h0.2
    rw [this, if_neg (by decide)]
    exact ih fun j hj => by simpa using h (j + 1) (by simpa using hj)
theorem first1_at : ∀ {ls : List (List Int)} {i : Nat}, i < ls.length → (∀ j, j < i → (ls.getD j []).length ≤ 6 ∧ (ls.getD j []).any wrong = false) → first1 ls = first1 (ls.getD i [] :: ls.drop (i + 1))
  | t :: r, 0, _, _ => rfl
  | t :: r, i + 1, hi, h => by
    have h0 := h 0 (by omega)
    simp at h0
    have : t.any wrong = false := by simpa using h0.2
    rw [first1, if_neg (by omega), this, if_neg (by decide)]
    exact (first1_at (by simpa using hi) fun j hj => by simpa using h (j + 1) (by omega))
theorem any_none {l : List Int} (h : ∀ j, j < l.length → wrong (l.getD j 0) = false) : l.any wrong = false := by
  rw [List.any_eq_false]
  intro x hx
  obtain ⟨j, hj, rfl⟩ := List.getElem_of_mem hx
  have := h j hj
  rw [List.getD_eq_getElem?_getD, List.getElem?_eq_getElem hj] at this
  simp at this
  simp [this]
theorem any_at {l : List Int} {j : Nat} (hj : j < l.length) (h : wrong (l.getD j 0) = true) : l.any wrong = true := by
  rw [List.any_eq_true]
  refine ⟨_, List.getElem_mem hj, ?_⟩
  rw [List.getD_eq_getElem?_getD, List.getElem?_eq_getElem hj] at h
  exact h
def mown (who : Int) : Nat := if who = 1 then 4 else 5
def mfre (who : Int) : Nat := if who = 1 then 5 else 4
def mlock (l : List Ev) (who : Int) : Bool := !(hap l (-1) 7 && !(hap l who 1)) && ((!(hap l (-1) (mown who)) || hap l (-1) 3) && (!(hap l (-1) 6) || hap l (-1) (mfre who)))
def locksE (es : List Ev) : Bool := hap es (-1) 3 || hap es (-1) 4 || hap es (-1) 5 || hap es (-1) 6 || hap es (-1) 7
def okPre (es : List Ev) (e : Ev) : Bool := !(decide (2 < (e.2 : Int)) || hap es e.1 e.2)
def okT (es : List Ev) (w y : Nat) : Bool :=
  if y = 0 then (!(locksE es) || mlock es w)
  else if y = 1 then !(hap es w 1)
  else if y = 2 then (!(hap es w 2) && (!(locksE es) || mlock es w))
  else if y = 3 then ((hap es 0 1 && hap es 1 1) && !(hap es (-1) y))
  else if y = 4 then ((hap es 0 1 && hap es 1 2) && !(hap es (-1) y))
  else if y = 5 then ((hap es 0 2 && hap es 1 1) && !(hap es (-1) y))
  else if y = 6 then ((hap es 0 2 && hap es 1 2) && !(hap es (-1) y))
  else true
def okTurn (es : List Ev) (e : Ev) : Bool := okT es e.1 e.2
def whoT (late : Bool) (i : Nat) : Nat := if late then (i + 1) % 2 else i % 2
def evL (late : Bool) (q0 q1 : List Nat) (us : List (List Nat)) : List (List Ev) := q0.map (fun x => (0, x)) :: q1.map (fun x => (1, x)) :: us.zipIdx.map (fun p => (p.1 ++ [0]).map fun x => (whoT late p.2, x))
def uptoE (L : List (List Ev)) (i j : Nat) : List Ev := (L.take i).flatten ++ (L.getD i []).take j
def okAt (L : List (List Ev)) (i j : Nat) : Bool := (if i < 2 then okPre else okTurn) (uptoE L i j) ((L.getD i []).getD j (0, 0))
def allOk (L : List (List Ev)) : Bool := (List.range L.length).all fun i => (List.range (L.getD i []).length).all fun j => okAt L i j
theorem allOk_true {L : List (List Ev)} (h : ∀ i j, i < L.length → j < (L.getD i []).length → okAt L i j = true) : allOk L = true := by
  rw [allOk, List.all_eq_true]
  intro i hi
  rw [List.all_eq_true]
  intro j hj
  exact h i j (by simpa using hi) (by simpa using hj)
theorem allOk_false {L : List (List Ev)} {i j : Nat} (hi : i < L.length) (hj : j < (L.getD i []).length) (h : okAt L i j = false) : allOk L = false := by
  cases e : allOk L with
  | false => rfl
  | true =>
    rw [allOk, List.all_eq_true] at e
    have := e i (by simpa using hi)
    rw [List.all_eq_true] at this
    rw [this j (by simpa using hj)] at h
    cases h
theorem uptoE_zero (L : List (List Ev)) : uptoE L 0 0 = [] := by simp [uptoE]
theorem uptoE_next {L : List (List Ev)} {i j : Nat} (hj : j < (L.getD i []).length) : uptoE L i (j + 1) = uptoE L i j ++ [(L.getD i []).getD j (0, 0)] := by
  unfold uptoE
  rw [List.take_add_one, List.append_assoc, List.getD_eq_getElem?_getD (i := j), List.getElem?_eq_getElem hj]; rfl
theorem uptoE_row {L : List (List Ev)} {i : Nat} (hi : i < L.length) : uptoE L i (L.getD i []).length = uptoE L (i + 1) 0 := by
  unfold uptoE
  rw [List.take_length, List.take_zero, List.append_nil, List.take_add_one, List.flatten_append, List.getD_eq_getElem?_getD, List.getElem?_eq_getElem hi]
  simp
theorem ev_push (es : List Ev) (e : Ev) : es.flatMap evC ++ evC e = (es ++ [e]).flatMap evC := by simp
abbrev ci (q : List Nat) : List Int := q.map fun x : Nat => (x : Int)
theorem ci_at {q : List Nat} {i : Nat} (h : i < q.length) : ((ci q).map iv)[i]? = some (ii (q.getD i 0)) := by
  rw [List.getElem?_map, List.getElem?_map, List.getElem?_eq_getElem h, List.getD_eq_getElem?_getD, List.getElem?_eq_getElem h]; rfl
theorem li_head {B : Mem} {v : Value} {vs : List Value} {q : List Nat} {ls : List (List Int)} (h : ShowsLI B (v :: vs) (ci q :: ls)) : Shows B 1 v q.length ((ci q).map iv) := by
  have h0 : Shows B 1 v (ci q).length ((ci q).map iv) := h.2 0 (by simp)
  rw [List.length_map] at h0; exact h0
theorem li_tail {B : Mem} {v : Value} {l : List Int} {vs : List Value} {ls : List (List Int)} (h : ShowsLI B (v :: vs) (l :: ls)) : ShowsLI B vs ls :=
  ⟨by have := h.1; simpa using this, fun i hi => by have := h.2 (i + 1) (by simpa using hi); exact this⟩
theorem li_at {B : Mem} {vs : List Value} {us : List (List Nat)} (h : ShowsLI B vs (us.map ci)) {i : Nat} (hi : i < us.length) : Shows B 1 (vs.getD i undef) (us.getD i []).length ((ci (us.getD i [])).map iv) := by
  have h0 := h.2 i (by simpa using hi)
  have e : (us.map ci).getD i [] = ci (us.getD i []) := by
    simp [List.getD_eq_getElem?_getD, hi]
  rw [e, List.length_map] at h0; exact h0
theorem li_one {B : Mem} {vs : List Value} {ls : List (List Int)} (h : ShowsLI B vs ls) : ∀ u ∈ vs, u.oneCell' = true := fun u hu => by
  obtain ⟨i, hi, rfl⟩ := List.getElem_of_mem hu
  have h0 := h.2 i (by rw [← h.1]; exact hi)
  rw [List.getD_eq_getElem?_getD, List.getElem?_eq_getElem hi] at h0
  rcases h0 with ⟨_, _, oa, c, e, _⟩ | ⟨b, o, c, cs, t, e, _⟩ <;> (simp only [Option.getD_some] at e; rw [e]; rfl)
theorem li_mono {B B' : Mem} {vs : List Value} {ls : List (List Int)} (h : ShowsLI B vs ls) (hs : ∀ x ∈ B, x ∈ B') : ShowsLI B' vs ls := ⟨h.1, fun i hi => (h.2 i hi).mono hs⟩
def qq (q0 q1 : List Nat) (a : Nat) : List Nat := if a = 0 then q0 else q1
def vq (v0 v1 : Value) (a : Nat) : Value := if a = 0 then v0 else v1
theorem pre_cell {b : Value} {c d v0 v1 e : Value} {a : Nat} (h : a < 2) : (cells 6 [pV b, pV c, pV d, pV v0, pV v1, pV e])[3 + a]? = some (vq v0 v1 a) := by
  have : a = 0 ∨ a = 1 := by omega
  rcases this with rfl | rfl <;> rfl
theorem evL_pre {late : Bool} {q0 q1 : List Nat} {us : List (List Nat)} {a : Nat} (h : a < 2) : (evL late q0 q1 us).getD a [] = (qq q0 q1 a).map (fun x => (a, x)) := by
  have : a = 0 ∨ a = 1 := by omega
  rcases this with rfl | rfl <;> rfl
theorem evL_turn {late : Bool} {q0 q1 : List Nat} {us : List (List Nat)} {i : Nat} (h : i < us.length) : (evL late q0 q1 us).getD (2 + i) [] = (us.getD i [] ++ [0]).map (fun x => (whoT late i, x)) := by
  rw [show 2 + i = i + 2 by omega]
  show (us.zipIdx.map (fun p => (p.1 ++ [0]).map fun x => (whoT late p.2, x))).getD i [] = _
  simp [List.getD_eq_getElem?_getD, h]
theorem evL_len {late : Bool} {q0 q1 : List Nat} {us : List (List Nat)} : (evL late q0 q1 us).length = 2 + us.length := by
  simp [evL]; omega
theorem map_at {a j : Nat} {q : List Nat} (h : j < q.length) : (q.map (fun x => (a, x))).getD j (0, 0) = (a, q.getD j 0) := by
  simp [List.getD_eq_getElem?_getD, h]
def fin3 (L : List (List Ev)) : Nat := if allOk L then 0 else 3
theorem fin3_bad {L : List (List Ev)} {i j : Nat} (hi : i < L.length) (hj : j < (L.getD i []).length) (h : okAt L i j = false) : fin3 L = 3 := by
  rw [fin3, allOk_false hi hj h]; rfl
theorem fin3_ok {L : List (List Ev)} (h : ∀ i j, i < L.length → j < (L.getD i []).length → okAt L i j = true) : fin3 L = 0 := by
  rw [fin3, allOk_true h]; rfl
theorem okAt_pre {L : List (List Ev)} {a j x : Nat} (ha : a < 2) (he : (L.getD a []).getD j (0, 0) = (a, x)) : okAt L a j = !(decide (2 < (x : Int)) || hap (uptoE L a j) a x) := by
  rw [okAt, if_pos ha, he]; rfl
theorem okAt_turn {L : List (List Ev)} {i j w x : Nat} (he : (L.getD (2 + i) []).getD j (0, 0) = (w, x)) : okAt L (2 + i) j = okT (uptoE L (2 + i) j) w x := by
  rw [okAt, if_neg (by omega), he]; rfl
theorem uptoE_le {L : List (List Ev)} (h : ∀ r ∈ L, r.length ≤ 7) (i j : Nat) : (uptoE L i j).length ≤ 7 * i + 7 := by
  have key : ∀ (L : List (List Ev)) (i : Nat), (∀ r ∈ L, r.length ≤ 7) → ((L.take i).flatten).length ≤ 7 * i := by
    intro L
    induction L with
    | nil => intro i _; simp
    | cons r L ih =>
      intro i hr
      cases i with
      | zero => simp
      | succ i =>
        have h1 := ih i fun x hx => hr x (by simp [hx])
        have h2 := hr r (by simp)
        simp only [List.take_succ_cons, List.flatten_cons, List.length_append]
        omega
  have h1 := key L i h
  have h2 : ((L.getD i []).take j).length ≤ 7 := by
    rw [List.length_take]
    by_cases hi : i < L.length
    · have := h (L.getD i []) (by rw [List.getD_eq_getElem?_getD, List.getElem?_eq_getElem hi]; exact List.getElem_mem hi)
      omega
    · simp [List.getD_eq_getElem?_getD, hi]
  unfold uptoE
  rw [List.length_append]; omega
theorem evL_rows {late : Bool} {q0 q1 : List Nat} {us : List (List Nat)} (h0 : q0.length ≤ 6) (h1 : q1.length ≤ 6) (hu : ∀ u ∈ us, u.length ≤ 6) : ∀ r ∈ evL late q0 q1 us, r.length ≤ 7 := fun r hr => by
  rw [evL, List.mem_cons, List.mem_cons] at hr
  rcases hr with rfl | rfl | hr
  · simp; omega
  · simp; omega
  · obtain ⟨⟨u, k⟩, hp, rfl⟩ := List.mem_map.1 hr
    have : u ∈ us := by
      have := List.mem_zipIdx' hp
      rw [this.2]; exact List.getElem_mem _
    have := hu u this
    simp; omega
theorem ev_shows (r : Nat) (e : TypeId) (x : Ev) : Shows [⟨r, arr .i64 2 (ev2 x), e⟩] 2 (.slice (some ⟨r, 0, none⟩) 1 1) 1 (evC x) := shows_new (arr .i64 2 (ev2 x)) e rfl
theorem ev_one (x : Ev) : ∀ u ∈ evC x, u.oneCell' = true := fun u hu => by
  simp [evC] at hu
  rcases hu with rfl | rfl <;> rfl
theorem iv_one {l : List Int} : ∀ u ∈ l.map iv, u.oneCell' = true := fun u hu => by
  obtain ⟨n, _, rfl⟩ := List.mem_map.1 hu; rfl
theorem tok_at {u : List Nat} {p : Nat} (h : p < u.length + 1) : (([] ++ (ci u).map iv) ++ [ii 0])[p]? = some (ii ((u ++ [0]).getD p 0)) := by
  have e : ([] ++ (ci u).map iv) ++ [ii 0] = (ci (u ++ [0])).map iv := by simp [ci]
  rw [e]
  exact ci_at (by simpa using h)
theorem pre_shows {G : Mem} {v0 v1 : Value} {q0 q1 : List Nat} (h0 : Shows G 1 v0 q0.length ((ci q0).map iv)) (h1 : Shows G 1 v1 q1.length ((ci q1).map iv)) : ∀ a, a < 2 → Shows G 1 (vq v0 v1 a) (qq q0 q1 a).length ((ci (qq q0 q1 a)).map iv) := fun a ha => by
  have : a = 0 ∨ a = 1 := by omega
  rcases this with rfl | rfl
  · exact h0
  · exact h1
end Go.Proofs.Ytfldnikepdbgkaa
namespace Go.Proofs.Ytfldnikepdbgkaa
open Go.ChangeShapes Go.WideShapes Go.ChangeAt Go.RowKit
section
variable {H : Type} {enc : TypeId × Value → H} {P : Program} {n : Nat} {t e : TypeId} {k : IntKind}
end
end Go.Proofs.Ytfldnikepdbgkaa
namespace Go.Proofs.Ytfldnikepdbgkaa
open Go Go.ChangeShapes Go.WideShapes Go.ChangeAt Go.RowKit
section
variable {H : Type} {enc : TypeId × Value → H} {P : Program} {t e : TypeId}
theorem row_of_cell {w : World} {b o : Nat} {u : Value} (h : w.cell? ⟨b, o, none⟩ = some u) : ∃ cs et fr, w.heap[b]? = some (.cells cs et fr) := by
  unfold World.cell? at h
  cases hb : w.heap[b]? with
  | none => simp [hb] at h
  | some ob => cases ob with
    | cells cs t fr => exact ⟨cs, t, fr, rfl⟩
    | _ => simp [hb] at h
theorem str_list (s : ByteArray) : ∃ l : List Nat, (∀ x ∈ l, x < 256) ∧ s = bstr l := by
  refine ⟨s.data.toList.map UInt8.toNat, fun x hx => ?_, ?_⟩
  · obtain ⟨b, _, rfl⟩ := List.mem_map.1 hx
    exact b.toNat_lt
  · unfold bstr
    rw [List.map_map]
    have : s.data.toList.map (UInt8.ofNat ∘ UInt8.toNat) = s.data.toList := by
      conv => rhs; rw [← List.map_id s.data.toList]
      exact List.map_congr_left fun b _ => by simp
    rw [this]
end
end Go.Proofs.Ytfldnikepdbgkaa
namespace Go.Proofs.Ytfldnikepdbgkaa
open Go Go.ChangeShapes Go.WideShapes Go.ChangeAt Go.RowKit
section
variable {P : Program} {t : TypeId}
theorem open_cells {W : World} {b0 : Nat} {v : Value} {ts : List TypeId} {fs : Array Field} (hT : P.underlying t = some (.struct fs)) (hct : P.cellTypes P.depth t = some ts) (hsz : P.cellsOf t = ts.length) (hval : Value.okWide P W .any b0 t v) :
    ∃ cs, v = .agg cs ∧ cs.size = ts.length ∧ ∀ (i : Nat) u, ts[i]? = some u → ∃ x, cs[i]? = some x ∧ Cell.okWide P W .any b0 u x := by
  unfold Value.okWide at hval
  rw [hT] at hval
  obtain ⟨cs, rfl, h1, ts', h2, _, h3⟩ := hval
  have e : ts' = ts := Option.some.inj (h2.symm.trans hct)
  subst e
  refine ⟨cs, rfl, h1.trans hsz, fun i u hi => ?_⟩
  have hlt : i < ts'.length := (List.getElem?_eq_some_iff.1 hi).1
  have hcs : i < cs.size := by omega
  obtain ⟨u', h4, h5⟩ := h3 i cs[i] (Array.getElem?_eq_getElem hcs)
  rw [Nat.mod_eq_of_lt hlt, hi] at h4
  injection h4 with h4
  subst h4
  exact ⟨_, Array.getElem?_eq_getElem hcs, h5⟩
end
end Go.Proofs.Ytfldnikepdbgkaa
namespace Go.Proofs.Ytfldnikepdbgkaa
open Go Go.ChangeShapes Go.WideShapes Go.ChangeAt Go.RowKit
section
variable {H : Type} {enc : TypeId × Value → H} {P : Program} {t e : TypeId}
end
end Go.Proofs.Ytfldnikepdbgkaa
namespace Go.Proofs.Ytfldnikepdbgkaa
open Go Go.ChangeShapes Go.WideShapes Go.ChangeAt Go.RowKit
abbrev Dat := Nat
def repN (P : Program) (G : Mem) : Nat → TypeId → List Value → Prop
  | 0, _, _ => False
  | d + 1, t, cs => match P.underlying t with
    | some (.int k) => ∃ z, cs = [.int k z] ∧ (Lit.int k z).wf = true
    | some .bool => ∃ b, cs = [.bool b]
    | some .string => ∃ l : List Nat, cs = [sv l] ∧ (∀ b ∈ l, b < 256) ∧ l.length ≤ maxLen
    | some (.struct fs) => cs.length = P.cellsOf t ∧ ∀ (i : Nat) f, fs[i]? = some f → repN P G d f.type ((cs.drop f.offset).take (P.cellsOf f.type))
    | some (.array n e) => cs.length = P.cellsOf t ∧ ∀ i, i < n → repN P G d e ((cs.drop (i * P.cellsOf e)).take (P.cellsOf e))
    | some (.slice e) => ∃ v xs n, cs = [v] ∧ n ≤ maxLen ∧ Shows G (P.cellsOf e) v n xs ∧ ∀ i, i < n → repN P G d e ((xs.drop (i * P.cellsOf e)).take (P.cellsOf e))
    | _ => False
abbrev Rep (P : Program) (G : Mem) (t : TypeId) (cs : List Value) (d : Dat) : Prop := repN P G d t cs
section
variable {P : Program} {G : Mem}
theorem repN_mono {G' : Mem} (hs : ∀ x ∈ G, x ∈ G') : ∀ (d : Nat) {t : TypeId} {cs : List Value}, repN P G d t cs → repN P G' d t cs
  | 0, _, _, h => h
  | d + 1, t, cs, h => by
    unfold repN at h ⊢
    cases hu : P.underlying t with
    | none => rw [hu] at h; exact h
    | some td =>
      rw [hu] at h
      cases td with
      | struct fs => exact ⟨h.1, fun i f hf => repN_mono hs d (h.2 i f hf)⟩
      | array n e => exact ⟨h.1, fun i hi => repN_mono hs d (h.2 i hi)⟩
      | slice e =>
        obtain ⟨v, xs, n, h1, h2, h3, h4⟩ := h
        exact ⟨v, xs, n, h1, h2, h3.mono hs, fun i hi => repN_mono hs d (h4 i hi)⟩
      | _ => exact h
def closedT (P : Program) (L : List TypeId) : Bool := L.all fun t => match P.underlying t with
  | some (.int _) | some .bool | some .string => true
  | some (.struct fs) => fs.all fun f => L.contains f.type
  | some (.array _ e) => L.contains e
  | some (.slice e) => L.contains e && decide (0 < P.cellsOf e)
  | _ => false
theorem closed_at {L : List TypeId} (h : closedT P L = true) {t : TypeId} (ht : t ∈ L) : (match P.underlying t with
  | some (.int _) | some .bool | some .string => true
  | some (.struct fs) => fs.all fun f => L.contains f.type
  | some (.array _ e) => L.contains e
  | some (.slice e) => L.contains e && decide (0 < P.cellsOf e)
  | _ => false) = true := (List.all_eq_true.1 h) t ht
theorem rep_all {W : World} {n d : Nat} (T : Nat → TypeId) (C : Nat → List Value) (h : ∀ i, i < n → ∃ G, repN P G d (T i) (C i) ∧ MemR G W) : ∃ G : Mem, MemR G W ∧ ∀ i, i < n → repN P G d (T i) (C i) := by
  induction n with
  | zero => exact ⟨[], by simp [MemR], fun i hi => absurd hi (Nat.not_lt_zero i)⟩
  | succ n ih =>
    obtain ⟨G, h2, h3⟩ := ih fun i hi => h i (by omega)
    obtain ⟨G', h4, h5⟩ := h n (by omega)
    refine ⟨G ++ G', fun x hx => (List.mem_append.1 hx).elim (h2 x) (h5 x), fun i hi => ?_⟩
    by_cases hin : i < n
    · exact repN_mono (fun x hx => List.mem_append_left _ hx) d (h3 i hin)
    · obtain rfl : i = n := by omega
      exact repN_mono (fun x hx => List.mem_append_right _ hx) d h4
variable {H : Type} {enc : TypeId × Value → H}
theorem rep_trod {W : World} {base : Nat} {s : Nat → Bool} {held : Bool} {L : List TypeId} (hL : closedT P L = true) : ∀ (fuel : Nat) (t : TypeId) (cs : List Value) (x : DataW H × List MemPlace), t ∈ L → DataW.trod enc P W base s held fuel t cs = some x → ∃ G, repN P G fuel t cs ∧ MemR G W := by
  intro fuel
  induction fuel with
  | zero => intro t cs x _ h; simp [DataW.trod] at h
  | succ m ih =>
    intro t cs x ht h
    have hc := closed_at hL ht
    cases hu : P.underlying t with
    | none => rw [hu] at hc; cases hc
    | some td =>
      rw [hu] at hc
      cases td with
      | int k =>
        obtain ⟨z, rfl, _, hw⟩ := DataW.trod_int hu h
        exact ⟨[], by unfold repN; rw [hu]; exact ⟨z, rfl, hw⟩, by simp [MemR]⟩
      | bool =>
        obtain ⟨b, rfl, _⟩ := DataW.trod_bool hu h
        exact ⟨[], by unfold repN; rw [hu]; exact ⟨b, rfl⟩, by simp [MemR]⟩
      | string =>
        obtain ⟨b, rfl, _, hm⟩ := DataW.trod_string hu h
        obtain ⟨l, hl, rfl⟩ := str_list b
        exact ⟨[], by unfold repN; rw [hu]; exact ⟨l, rfl, hl, by rw [← bstr_size]; exact hm⟩, by simp [MemR]⟩
      | struct fs =>
        obtain ⟨xs, m', e1, _, hlen, hn, hel⟩ := DataW.trod_struct hu h
        have e1 : m = m' := by omega
        subst e1
        obtain ⟨G, h2, h3⟩ := rep_all (P := P) (W := W) (n := fs.size) (d := m) (fun i => (fs[i]?.map (·.type)).getD 0) (fun i => match fs[i]? with
          | some f => (cs.drop f.offset).take (P.cellsOf f.type)
          | none => []) fun i hi => by
            have hf : fs[i]? = some fs[i] := Array.getElem?_eq_getElem hi
            have := hel i fs[i] hf
            rw [List.getElem?_eq_getElem (by omega)] at this
            have hmem : fs[i].type ∈ L := by
              have := (Array.all_eq_true.1 hc) i hi
              simpa using this
            simp only [hf, Option.map_some, Option.getD_some]
            exact ih _ _ _ hmem this
        refine ⟨G, ?_, h2⟩
        unfold repN
        rw [hu]
        refine ⟨hlen, fun i f hf => ?_⟩
        have := h3 i (Array.getElem?_eq_some_iff.1 hf).1
        simp only [hf, Option.map_some, Option.getD_some] at this
        exact this
      | array n e =>
        obtain ⟨xs, m', e1, _, hlen, hn, hel⟩ := DataW.trod_array hu h
        have e1 : m = m' := by omega
        subst e1
        have hmem : e ∈ L := by simpa using hc
        obtain ⟨G, h2, h3⟩ := rep_all (P := P) (W := W) (n := n) (d := m) (fun _ => e) (fun i => (cs.drop (i * P.cellsOf e)).take (P.cellsOf e)) fun i hi => by
          have := hel i hi
          rw [List.getElem?_eq_getElem (by omega)] at this
          exact ih _ _ _ hmem this
        refine ⟨G, ?_, h2⟩
        unfold repN
        rw [hu]
        exact ⟨hlen, h3⟩
      | slice e =>
        have hc : (L.contains e && decide (0 < P.cellsOf e)) = true := hc
        rw [Bool.and_eq_true, decide_eq_true_eq] at hc
        have hmem : e ∈ L := by simpa using hc.1
        have hz := hc.2
        rcases DataW.trod_slice hu h with ⟨rfl, _⟩ | ⟨a, len, cap, elems, rest, m', e1, rfl, _, hb, hl, hm, hlen, hel, _, _⟩
        · exact ⟨[], by unfold repN; rw [hu]; exact ⟨_, [], 0, rfl, by simp [maxLen], .inl ⟨rfl, rfl, none, 0, rfl, fun _ => rfl⟩, fun i hi => absurd hi (Nat.not_lt_zero i)⟩, by simp [MemR]⟩
        have e1 : m = m' := by omega
        subst e1
        obtain ⟨z, hze⟩ : ∃ z, z = P.cellsOf e := ⟨_, rfl⟩
        rw [← hze] at hz hel
        have hE : ∀ i, i < len → ∃ ci y, W.cells? base (a.add (i * z)) z = some ci ∧ DataW.trod enc P W base s held m e ci = some y := fun i hi => by
          have := hel i hi
          rw [List.getElem?_eq_getElem (by omega)] at this
          cases hcc : W.cells? base (a.add (i * z)) z with
          | none => rw [hcc] at this; cases this
          | some ci => rw [hcc] at this; exact ⟨ci, _, rfl, this⟩
        by_cases h0 : len = 0
        · subst h0
          exact ⟨[], by unfold repN; rw [hu]; exact ⟨_, [], 0, rfl, by simp [maxLen], .inl ⟨rfl, rfl, some a, cap, rfl, fun h => by cases h⟩, fun i hi => absurd hi (Nat.not_lt_zero i)⟩, by simp [MemR]⟩
        obtain ⟨c0, y0, hc0, _⟩ := hE 0 (by omega)
        obtain ⟨b, off, spot⟩ := a
        have hg0 := (World.cells?_some hc0).2.2 0 hz
        have hl0 := (World.cells?_some hc0).2.1
        rw [List.getElem?_eq_getElem (by omega)] at hg0
        have hspot : spot = none := by simpa [Addr.add] using World.cell?_spot hg0
        subst hspot
        obtain ⟨cs0, et, fr, hbk⟩ := row_of_cell (b := b) (o := off) (by simpa [Addr.add] using hg0)
        have hcl : ∀ o, W.cell? ⟨b, o, none⟩ = cs0[o]? := fun o => by simp [World.cell?, hbk]
        have hadd : ∀ i r, (Addr.add (Addr.add ⟨b, off, none⟩ (i * z)) r) = ⟨b, off + (i * z + r), none⟩ := fun i r => by
          rw [Go.WideShapes.add_plain, Go.WideShapes.add_plain, Nat.add_assoc]
        have hcell : ∀ i, i < len → ∀ ci, W.cells? base (Addr.add ⟨b, off, none⟩ (i * z)) z = some ci → ∀ r, r < z → cs0[off + (i * z + r)]? = ci[r]? := fun i _ ci hci r hr => by
          rw [← hcl, ← hadd i r]
          exact (World.cells?_some hci).2.2 r hr
        have hbound : off + len * z ≤ cs0.size := by
          obtain ⟨ci, y, hci, _⟩ := hE (len - 1) (by omega)
          have h1 := hcell (len - 1) (by omega) ci hci (z - 1) (by omega)
          rw [List.getElem?_eq_getElem (by have := (World.cells?_some hci).2.1; omega)] at h1
          have h2 := (Array.getElem?_eq_some_iff.1 h1).1
          have h3 : (len - 1) * z + z = len * z := by rw [← Nat.succ_mul]; congr 1; omega
          omega
        obtain ⟨xs, hxs⟩ : ∃ xs, xs = (cs0.toList.drop off).take (len * z) := ⟨_, rfl⟩
        have hxl : xs.length = len * z := by rw [hxs]; simp; omega
        have hxj : ∀ j, j < len * z → xs[j]? = cs0[off + j]? := fun j hj => by rw [hxs, List.getElem?_take_of_lt hj, List.getElem?_drop]; simp
        obtain ⟨G, h2, h3⟩ := rep_all (P := P) (W := W) (n := len) (d := m) (fun _ => e) (fun i => (xs.drop (i * z)).take z) fun i hi => by
          obtain ⟨ci, y, hci, hy⟩ := hE i hi
          have hcl2 := (World.cells?_some hci).2.1
          have hle : i * z + z ≤ len * z := by rw [← Nat.succ_mul]; exact Nat.mul_le_mul_right _ hi
          have : (xs.drop (i * z)).take z = ci := by
            apply List.ext_getElem?
            intro r
            by_cases hr : r < z
            · rw [List.getElem?_take_of_lt hr, List.getElem?_drop, hxj _ (by omega)]
              exact hcell i hi ci hci r hr
            · rw [List.getElem?_eq_none (by rw [List.length_take]; omega), List.getElem?_eq_none (by omega)]
          rw [this]
          exact ih _ _ _ hmem hy
        refine ⟨⟨b, cs0, et⟩ :: G, ?_, fun x hx => ?_⟩
        · unfold repN
          rw [hu]
          refine ⟨_, xs, len, rfl, by omega, .inr ⟨b, off, cap, cs0, et, rfl, by omega, List.mem_cons_self, by rw [← hze]; exact hxl, by rw [← hze]; exact hbound, fun j u hj => ?_⟩, fun i hi => ?_⟩
          · rw [← hxj j (by rw [← hxl]; exact (List.getElem?_eq_some_iff.1 hj).1)]; exact hj
          · rw [← hze]
            exact repN_mono (fun x hx => List.mem_cons_of_mem _ hx) m (h3 i hi)
        · rcases List.mem_cons.1 hx with rfl | hx
          · exact ⟨(Array.getElem?_eq_some_iff.1 hbk).1, fun o _ => hcl o⟩
          · exact h2 x hx
      | _ => cases hc
theorem rep_open {W : World} {base : Nat} {s : Nat → Bool} {held : Bool} {t : TypeId} {v : Value} {d : DataW H} {ps : List MemPlace} (L : List TypeId) (hL : closedT P L = true) (ht : t ∈ L) (hd : DataW.Trod enc P W base s held t v d ps) : ∃ x G, Rep P G t v.cells.toList x ∧ MemR G W := by
  obtain ⟨fuel, hf⟩ := hd
  exact ⟨fuel, rep_trod hL fuel t _ _ ht hf⟩
end
end Go.Proofs.Ytfldnikepdbgkaa
namespace Go.Proofs.Ytfldnikepdbgkaa
open Go Go.ChangeShapes Go.WideShapes Go.ChangeAt Go.RowKit
structure RawT where
  a : Int
  b : Int
  c : Int
  t : List Nat
section
variable {P : Program} {G : Mem}
theorem rep_int {t : TypeId} {cs : List Value} {d : Dat} {k : IntKind} (hu : P.underlying t = some (.int k)) (h : Rep P G t cs d) : ∃ z, cs = [.int k z] ∧ (Lit.int k z).wf = true := by
  cases d with
  | zero => exact h.elim
  | succ d => unfold Rep repN at h; rw [hu] at h; exact h
theorem rep_bool {t : TypeId} {cs : List Value} {d : Dat} (hu : P.underlying t = some .bool) (h : Rep P G t cs d) : ∃ b, cs = [.bool b] := by
  cases d with
  | zero => exact h.elim
  | succ d => unfold Rep repN at h; rw [hu] at h; exact h
theorem rep_str {t : TypeId} {cs : List Value} {d : Dat} (hu : P.underlying t = some .string) (h : Rep P G t cs d) : ∃ l : List Nat, cs = [sv l] ∧ (∀ b ∈ l, b < 256) ∧ l.length ≤ maxLen := by
  cases d with
  | zero => exact h.elim
  | succ d => unfold Rep repN at h; rw [hu] at h; exact h
theorem rep_struct {t : TypeId} {cs : List Value} {d : Dat} {fs : Array Field} (hu : P.underlying t = some (.struct fs)) (h : Rep P G t cs d) : ∃ d', cs.length = P.cellsOf t ∧ ∀ (i : Nat) f, fs[i]? = some f → Rep P G f.type ((cs.drop f.offset).take (P.cellsOf f.type)) d' := by
  cases d with
  | zero => exact h.elim
  | succ d => unfold Rep repN at h; rw [hu] at h; exact ⟨d, h⟩
theorem rep_slice {t e : TypeId} {cs : List Value} {d : Dat} (hu : P.underlying t = some (.slice e)) (h : Rep P G t cs d) : ∃ d' v xs n, cs = [v] ∧ n ≤ maxLen ∧ Shows G (P.cellsOf e) v n xs ∧ ∀ i, i < n → Rep P G e ((xs.drop (i * P.cellsOf e)).take (P.cellsOf e)) d' := by
  cases d with
  | zero => exact h.elim
  | succ d => unfold Rep repN at h; rw [hu] at h; exact ⟨d, h⟩
theorem rep_elems {α : Type} {e : TypeId} {z n : Nat} {d : Dat} (C : α → List Value) (Q : α → Prop) {xs : List Value} (hx : xs.length = n * z) (hE : ∀ cs d, Rep P G e cs d → ∃ x, cs = C x ∧ Q x)
    (he : ∀ i, i < n → Rep P G e ((xs.drop (i * z)).take z) d) : ∃ rs : List α, rs.length = n ∧ xs = rs.flatMap C ∧ ∀ r ∈ rs, Q r := by
  induction n generalizing xs with
  | zero => exact ⟨[], rfl, by simpa using hx, by simp⟩
  | succ m ih =>
    have h0 := he 0 (by omega)
    rw [Nat.zero_mul, List.drop_zero] at h0
    obtain ⟨r, hr, hq⟩ := hE _ _ h0
    obtain ⟨rs, h1, h2, h3⟩ := ih (xs := xs.drop z) (by rw [List.length_drop, hx, Nat.succ_mul]; omega) fun i hi => by
      have := he (i + 1) (by omega)
      rw [List.drop_drop, show z + i * z = (i + 1) * z by rw [Nat.succ_mul]; omega]
      exact this
    refine ⟨r :: rs, by simp [h1], ?_, fun x hx' => ?_⟩
    · rw [List.flatMap_cons, ← h2, ← hr, List.take_append_drop]
    · rcases List.mem_cons.1 hx' with rfl | hx'
      · exact hq
      · exact h3 x hx'
end
section
variable {P : Program} {H : Type} {enc : TypeId × Value → H}
end
end Go.Proofs.Ytfldnikepdbgkaa
