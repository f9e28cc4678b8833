import Derived.Test.YthljakcegoohlaaDoorKS1
import Derived.Lib.AppendZeros
namespace Go.Proofs.YthljakcegoohlaaDoor
open Go Go.RowKit
section
variable {P : Program} {G : Mem} {R : Reg} {ops : Array Oper} {n : Nat} {K : Env → Mm → Prop} {rest : List Oper} {E : Env} {M : Mm} {d : Nat} {ty : TypeId} {pos : String} {aft : Array Edge}
variable {T T' : TypeId} {x y : Operand}
theorem e_add_w {p q : Nat} (hx : rd E x = some (uw p)) (hy : rd E y = some (uw q)) (hd : Nat.blt d n = true) (h : OpsE P G R ops n K rest ((d, uw ((p + q) % 4294967296)) :: E) M) :
    OpsE P G R ops n K (⟨some d, .binOp .add T x y T', ty, pos, aft, none⟩ :: rest) E M := fun _ _ ha hM => st_add_w (ha.rd hx) (ha.rd hy) (h _ _ (ha.put hd _) hM)
theorem e_or_w {p q : Nat} (hx : rd E x = some (uw p)) (hy : rd E y = some (uw q)) (hd : Nat.blt d n = true) (h : OpsE P G R ops n K rest ((d, uw ((p ||| q) % 4294967296)) :: E) M) :
    OpsE P G R ops n K (⟨some d, .binOp .or T x y T', ty, pos, aft, none⟩ :: rest) E M := fun _ _ ha hM => st_or_w (ha.rd hx) (ha.rd hy) (h _ _ (ha.put hd _) hM)
theorem e_xor_w {p q : Nat} (hx : rd E x = some (uw p)) (hy : rd E y = some (uw q)) (hd : Nat.blt d n = true) (h : OpsE P G R ops n K rest ((d, uw ((p ^^^ q) % 4294967296)) :: E) M) :
    OpsE P G R ops n K (⟨some d, .binOp .xor T x y T', ty, pos, aft, none⟩ :: rest) E M := fun _ _ ha hM => st_xor_w (ha.rd hx) (ha.rd hy) (h _ _ (ha.put hd _) hM)
theorem e_shl_w {k : IntKind} {p s : Nat} (hx : rd E x = some (uw p)) (hy : rd E y = some (.int k (s : Int))) (hd : Nat.blt d n = true) (hs : s ≤ 32) (h : OpsE P G R ops n K rest ((d, uw ((p * 2 ^ s) % 4294967296)) :: E) M) :
    OpsE P G R ops n K (⟨some d, .binOp .shl T x y T', ty, pos, aft, none⟩ :: rest) E M := fun _ _ ha hM => st_shl_w (ha.rd hx) (ha.rd hy) hs (h _ _ (ha.put hd _) hM)
theorem e_shr_w {k : IntKind} {p s : Nat} (hx : rd E x = some (uw p)) (hy : rd E y = some (.int k (s : Int))) (hd : Nat.blt d n = true) (hs : s ≤ 32) (h : OpsE P G R ops n K rest ((d, uw (p / 2 ^ s)) :: E) M) :
    OpsE P G R ops n K (⟨some d, .binOp .shr T x y T', ty, pos, aft, none⟩ :: rest) E M := fun _ _ ha hM => st_shr_w (ha.rd hx) (ha.rd hy) hs (h _ _ (ha.put hd _) hM)
theorem e_conv_w {k : IntKind} {dk : TypeDesc} {p : Nat} (hs : P.underlying T = some dk) (ht : P.underlying T' = some (.int .u32)) (hx : rd E x = some (.int k (p : Int))) (hd : Nat.blt d n = true) (hv : kconv R T T' = 1)
    (h : OpsE P G R ops n K rest ((d, uw (p % 4294967296)) :: E) M) : OpsE P G R ops n K (⟨some d, .convert T T' x, ty, pos, aft, none⟩ :: rest) E M := fun _ _ ha hM => st_conv_w hv hs ht (ha.rd hx) (h _ _ (ha.put hd _) hM)
theorem e_conv_i {k : IntKind} {dk : TypeDesc} {p : Nat} (hs : P.underlying T = some dk) (ht : P.underlying T' = some (.int .i64)) (hx : rd E x = some (.int k (p : Int))) (hd : Nat.blt d n = true) (hv : kconv R T T' = 1) (hp : p < 9223372036854775808)
    (h : OpsE P G R ops n K rest ((d, ii p) :: E) M) : OpsE P G R ops n K (⟨some d, .convert T T' x, ty, pos, aft, none⟩ :: rest) E M := fun _ _ ha hM => st_conv_i hv hs ht (ha.rd hx) hp (h _ _ (ha.put hd _) hM)
theorem e_catS {l k : List Nat} (hx : rd E x = some (sv l)) (hy : rd E y = some (sv k)) (hd : Nat.blt d n = true) (hl : l.length + k.length ≤ 9223372036854775807) (h : OpsE P G R ops n K rest ((d, sv (l ++ k)) :: E) M) :
    OpsE P G R ops n K (⟨some d, .binOp .add T x y T', ty, pos, aft, none⟩ :: rest) E M := fun _ _ ha hM => st_catS (ha.rd hx) (ha.rd hy) hl (h _ _ (ha.put hd _) hM)
theorem e_sliceStr (i j : Nat) {l : List Nat} {lo hi : Option Operand} {vl vh : Option Value} (hT : P.underlying T = some .string) (hx : rd E x = some (sv l)) (hlo : rdo E lo = some vl) (hhi : rdo E hi = some vh) (hl : isB vl i 0) (hh : isB vh j l.length) (h1 : i ≤ j) (h2 : j ≤ l.length) (hd : Nat.blt d n = true)
    (hK : OpsE P G R ops n K rest ((d, sv ((l.drop i).take (j - i))) :: E) M) : OpsE P G R ops n K (⟨some d, .slice T x lo hi none, ty, pos, aft, none⟩ :: rest) E M :=
  fun _ _ ha hM => st_sliceStr hT (ha.rd hx) (by rw [ha.rdo hlo]; exact hl) (by rw [ha.rdo hhi]; exact hh) h1 h2 (hK _ _ (ha.put hd _) hM)
theorem e_idxStr {l : List Nat} {j b : Nat} {k : IntKind} (hT : P.underlying T = some .string) (hx : rd E x = some (sv l)) (hy : rd E y = some (.int k (j : Int))) (hj : l[j]? = some b) (hb : b < 256) (hd : Nat.blt d n = true)
    (h : OpsE P G R ops n K rest ((d, by8 b) :: E) M) : OpsE P G R ops n K (⟨some d, .index T x y, ty, pos, aft, none⟩ :: rest) E M := fun _ _ ha hM => st_idxStr hT (ha.rd hx) (ha.rd hy) hj hb (h _ _ (ha.put hd _) hM)
theorem e_lenStr {l : List Nat} (hT : P.underlying T = some .string) (hx : rd E x = some (sv l)) (hd : Nat.blt d n = true) (hR : callOk R = true) (h : OpsE P G R ops n K rest ((d, ii l.length) :: E) M) :
    OpsE P G R ops n K (⟨some d, .call ⟨.builtin .len, #[x], #[T]⟩, ty, pos, aft, none⟩ :: rest) E M := fun _ _ ha hM => st_lenStr hR hT (ha.rd hx) (h _ _ (ha.put hd _) hM)
def SeenE (G : Mem) (R : Reg) (M : Mm) (B : Mem) : Prop := ∀ z ∈ B, z ∈ G ∨ ∃ i, lkM M i = some z ∧ ∃ js, okXL M i js R
theorem SeenE.seen {B : Mem} (h : SeenE G R M B) {m : Mem} (hM : FitsM M m) : Seen G R m B := fun z hz => by
  rcases h z hz with h1 | ⟨i, h1, js, h2⟩
  · exact .inl h1
  · exact .inr ⟨hM.has i z h1, okXL_not hM h1 h2⟩
theorem seenG : SeenE G R M G := fun _ hz => .inl hz
theorem seenM (i : Nat) {oz : Option Blk} (hi : lkM M i = oz) (hX : ∃ js, okXL M i js R) : SeenE G R M oz.toList := fun z hz => by
  have : oz = some z := by simpa using hz
  exact .inr ⟨i, hi.trans this, hX⟩
theorem seen1 (i : Nat) {z : Blk} (hi : lkM M i = some z) (hX : ∃ js, okXL M i js R) : SeenE G R M [z] := fun q hq => by
  simp at hq; subst hq
  exact .inr ⟨i, hi, hX⟩
theorem e_lenV {e : TypeId} {v : Value} {B : Mem} {z k : Nat} {xs : List Value} (hv : Shows B z v k xs) (hT : P.underlying T = some (.slice e)) (hx : rd E x = some v) (hd : Nat.blt d n = true) (hR : callOk R = true) (h : OpsE P G R ops n K rest ((d, ii k) :: E) M) :
    OpsE P G R ops n K (⟨some d, .call ⟨.builtin .len, #[x], #[T]⟩, ty, pos, aft, none⟩ :: rest) E M := fun _ _ ha hM => st_lenS hR hT (ha.rd hx) hv (h _ _ (ha.put hd _) hM)
theorem e_atV {e : TypeId} {k : IntKind} {v : Value} {B : Mem} {z l j : Nat} {xs : List Value} (hv : Shows B z v l xs) (hT : P.underlying T = some (.slice e)) (hs : (P.info? e).map (·.size) = some z) (hx : rd E x = some v) (hy : rd E y = some (.int k (j : Int))) (hj : j < l) (hd : Nat.blt d n = true)
    (h : OpsE P G R ops n K rest ((d, slAddr v (j * z)) :: E) M) : OpsE P G R ops n K (⟨some d, .indexAddr T x y, ty, pos, aft, none⟩ :: rest) E M := fun _ _ ha hM => st_atV hT hs (ha.rd hx) (ha.rd hy) hv hj (h _ _ (ha.put hd _) hM)
theorem e_loadV {td : TypeDesc} {v u : Value} {B : Mem} {l j : Nat} {xs : List Value} (hv : Shows B 1 v l xs) (hB : SeenE G R M B) (hT : P.underlying T = some td) (hn : rowLike td = false) (hx : rd E x = some (slAddr v j)) (hj : xs[j]? = some u) (hd : Nat.blt d n = true)
    (h : OpsE P G R ops n K rest ((d, u) :: E) M) : OpsE P G R ops n K (⟨some d, .load T x, ty, pos, aft, none⟩ :: rest) E M := fun _ _ ha hM => st_loadV (hB.seen hM) hT hn (ha.rd hx) hv hj (h _ _ (ha.put hd _) hM)
theorem e_sliceV (i j : Nat) {e : TypeId} {v : Value} {B : Mem} {z l : Nat} {xs : List Value} {lo hi : Option Operand} {vl vh : Option Value} (hv : Shows B z v l xs) (hT : P.underlying T = some (.slice e)) (hs : (P.info? e).map (·.size) = some z) (hx : rd E x = some v) (hlo : rdo E lo = some vl) (hhi : rdo E hi = some vh) (hl : isB vl i 0) (hh : isB vh j l)
    (h1 : i ≤ j) (h2 : j ≤ l) (hd : Nat.blt d n = true) (hK : OpsE P G R ops n K rest ((d, slPart z v i j) :: E) M) : OpsE P G R ops n K (⟨some d, .slice T x lo hi none, ty, pos, aft, none⟩ :: rest) E M :=
  fun _ _ ha hM => st_sliceV hT hs (ha.rd hx) hv (by rw [ha.rdo hlo]; exact hl) (by rw [ha.rdo hhi]; exact hh) h1 h2 (hK _ _ (ha.put hd _) hM)
theorem e_conv_strV {e : TypeId} {v : Value} {B : Mem} {l : List Nat} (hv : Shows B 1 v l.length (l.map by8)) (hB : SeenE G R M B) (hs : P.underlying T = some (.slice e)) (he : P.underlying e = some (.int .u8)) (ht : P.underlying T' = some .string) (hx : rd E x = some v) (hd : Nat.blt d n = true) (hq : kconv R T T' = 1)
    (h : OpsE P G R ops n K rest ((d, sv l) :: E) M) : OpsE P G R ops n K (⟨some d, .convert T T' x, ty, pos, aft, none⟩ :: rest) E M := fun _ _ ha hM => st_conv_strV hq (hB.seen hM) hs he ht (ha.rd hx) hv (h _ _ (ha.put hd _) hM)
theorem e_make (i : Nat) {e : TypeId} {kl kc k : IntKind} {l b : Nat} {z : Value} (hT : P.underlying T = some (.slice e)) (hs : (P.info? e).map (·.size) = some 1) (hb : (P.info? e).map (·.bytes) = some b) (hz : (P.info? e).bind (·.zero) = some z) (hzc : z.cells = #[.int k 0])
    (hx : rd E x = some (.int kl (l : Int))) (hy : rd E y = some (.int kc (l : Int))) (hn : b * l ≤ 281474976710656) (h63 : l ≤ 9223372036854775807) (hd : Nat.blt d n = true)
    (h : ∀ r, OpsE P G R ops n K rest ((d, .slice (some ⟨r, 0, none⟩) l l) :: E) ((i, some ⟨r, arr k l (fun _ => 0), e⟩) :: M)) : OpsE P G R ops n K (⟨some d, .makeSlice T x y, ty, pos, aft, none⟩ :: rest) E M :=
  fun _ _ ha hM => st_make hT hs hb hz hzc (ha.rd hx) (ha.rd hy) hn h63 fun r hr => h r _ _ (ha.put hd _) (hM.alloc i ⟨r, _, e⟩ hr)
theorem FitsM.change {m m' : Mem} (hM : FitsM M m) (i : Nat) {oz : Option Blk} (h1 : ∀ j x, j ≠ i → lkM M j = some x → x ∈ m') (h2 : ∀ z, oz = some z → z ∈ m' ∧ ∀ j x, j ≠ i → lkM M j = some x → x.b ≠ z.b) : FitsM ((i, oz) :: M) m' := by
  refine ⟨fun j x hx => ?_, fun j k x z hx hz hne => ?_⟩
  · rw [lkM_cons] at hx
    split at hx
    · exact (h2 x hx).1
    · rename_i hne; exact h1 j x (fun e => hne e.symm) hx
  · rw [lkM_cons] at hx hz
    split at hx
    · split at hz
      · rename_i e1 e2; exact absurd (e1.symm.trans e2) hne
      · rename_i e2; exact fun e => (h2 x hx).2 k z (fun e' => e2 e'.symm) hz e.symm
    · split at hz
      · rename_i e1 _; exact (h2 z hz).2 j x (fun e' => e1 e'.symm) hx
      · exact hM.apart j k x z hx hz hne
theorem FitsM.others {m lr : Mem} (hM : FitsM M m) {i : Nat} {oz : Option Blk} (hi : lkM M i = oz) (hp : List.Perm m (oz.toList ++ lr)) : ∀ j x, j ≠ i → lkM M j = some x → x ∈ lr := fun j x hne hx => by
  have hm := hp.mem_iff.1 (hM.has j x hx)
  rcases List.mem_append.1 hm with h | h
  · have : oz = some x := by simpa using h
    exact absurd rfl (hM.apart j i x x hx (hi.trans this) hne)
  · exact h
theorem FitsM.perm1 {m : Mem} (hM : FitsM M m) {i : Nat} {oz : Option Blk} (hi : lkM M i = oz) : ∃ lr, List.Perm m (oz.toList ++ lr) := by
  cases oz with
  | none => exact ⟨m, by simp⟩
  | some z =>
    obtain ⟨l1, l2, h⟩ := List.append_of_mem (hM.has i z hi)
    exact ⟨l1 ++ l2, by rw [h]; simp⟩
theorem FitsM.same {m lr : Mem} (hM : FitsM M m) {i : Nat} {oz oz' : Option Blk} (hi : lkM M i = oz) (hp : List.Perm m (oz.toList ++ lr)) (hid : oz'.toList.map (·.b) = oz.toList.map (·.b)) : FitsM ((i, oz') :: M) (oz'.toList ++ lr) :=
  hM.change i (fun j x hne hx => List.mem_append_right _ (hM.others hi hp j x hne hx)) fun z hz => ⟨by subst hz; simp, fun j x hne hx => by
    subst hz
    cases oz with
    | none => simp at hid
    | some q =>
      simp at hid
      rw [hid]; exact hM.apart j i x q hx hi hne⟩
theorem FitsM.fresh {m lr : Mem} (hM : FitsM M m) (i : Nat) {oz : Option Blk} {l0 : Mem} (hp : List.Perm m (l0 ++ lr)) (hf : FreshM m oz.toList) : FitsM ((i, oz) :: M) (l0 ++ lr ++ oz.toList) :=
  hM.change i (fun j x _ hx => List.mem_append_left _ (hp.mem_iff.1 (hM.has j x hx))) fun z hz => ⟨by subst hz; simp, fun j x _ hx => hf.2 z (by subst hz; simp) x (hM.has j x hx)⟩
theorem e_copyStr {e : TypeId} {b o N dl cap i : Nat} {f : Nat → Nat} {t : TypeId} {l : List Nat} (hT : P.underlying T = some (.slice e)) (hs : (P.info? e).map (·.size) = some 1) (hx : rd E x = some (.slice (some ⟨b, o, none⟩) dl cap)) (hy : rd E y = some (sv l)) (hl : ∀ q ∈ l, q < 256)
    (hm : lkM M i = some ⟨b, arr .u8 N f, t⟩) (ho : o + dl ≤ N) (hd : Nat.blt d n = true)
    (h : OpsE P G R ops n K rest ((d, ii (min l.length dl)) :: E) ((i, some ⟨b, arr .u8 N (fun j => if o ≤ j ∧ j < o + min l.length dl then l.getD (j - o) 0 else f j), t⟩) :: M)) (hL : R.L = none := by rfl) : OpsE P G R ops n K (⟨some d, .call ⟨.builtin .copy, #[x, y], #[T, T']⟩, ty, pos, aft, none⟩ :: rest) E M :=
  fun _ _ ha hM => by
    obtain ⟨k, hk⟩ := hM.at hm
    exact st_copyStr (hL := hL) hT hs (ha.rd hx) (ha.rd hy) hl hk ho fun lr hp => h _ _ (ha.put hd _) (hM.same (oz' := some _) hm (by simpa using hp) rfl)
theorem own_opt {e : TypeId} {z k : Nat} {v : Value} {xs : List Value} {l : Mem} (h : OwnS e z v k xs l) : ∃ oz : Option Blk, l = oz.toList := by
  rcases h with ⟨_, _, _, rfl⟩ | ⟨r, cap, c, _, rfl, _⟩
  · exact ⟨none, rfl⟩
  · exact ⟨some _, rfl⟩
def OffL (M : Mm) (i : Nat) : Option (List Nat) → Prop
  | none => True
  | some l => ∃ js, okX M i js l
theorem OffL.off {M : Mm} {m : Mem} {i : Nat} {oz : Option Blk} {L : Option (List Nat)} (h : OffL M i L) (hM : FitsM M m) (hi : lkM M i = oz) : ∀ x ∈ oz.toList, offL L x.b := fun x hx => by
  have e : oz = some x := by simpa using hx
  cases L with
  | none => trivial
  | some l =>
    obtain ⟨js, hjs⟩ := h
    exact okX_not hM (hi.trans e) hjs
theorem e_appendL (i : Nat) {e : TypeId} {z l k bytes : Nat} {zv v vy : Value} {xs news : List Value} {oz : Option Blk} {B : Mem} (hown : OwnS e z v l xs oz.toList) (hsrc : Shows B z vy k news) (hi : lkM M i = oz) (hB : ∀ q ∈ B, q ∈ G ∨ ∃ j, lkM M j = some q) (hoff : OffL M i R.L)
    (hT : P.underlying T = some (.slice e)) (hs : (P.info? e).map (·.size) = some z) (hb : (P.info? e).map (·.bytes) = some bytes) (hz : (P.info? e).bind (·.zero) = some zv) (hzs : zv.cells.size = z)
    (hx : rd E x = some v) (hy : rd E y = some vy) (h1 : ∀ u ∈ news, u.oneCell' = true) (h63 : l + k ≤ maxLen) (hbytes : (l + k) * bytes ≤ 140737488355328) (hd : Nat.blt d n = true)
    (h : ∀ v' (oz' : Option Blk), OwnS e z v' (l + k) (xs ++ news) oz'.toList → OpsE P G R ops n K rest ((d, v') :: E) ((i, oz') :: M)) : OpsE P G R ops n K (⟨some d, .call ⟨.builtin .append, #[x, y], #[T, T]⟩, ty, pos, aft, none⟩ :: rest) E M :=
  fun _ m ha hM => by
    obtain ⟨lr, hp⟩ := hM.perm1 hi
    refine st_append hT hs hb hz hzs (ha.rd hx) (ha.rd hy) hown (hoff.off hM hi) hp hsrc (fun q hq => ?_) h1 h63 hbytes fun v' l' ho => ?_
    · rcases hB q hq with h2 | ⟨j, h2⟩
      · exact .inl h2
      · exact .inr (hM.has j q h2)
    · obtain ⟨oz', rfl⟩ := own_opt ho
      refine ⟨fun hid => ?_, fun hf => ?_⟩
      · simpa using h v' oz' ho _ _ (ha.put hd _) (hM.same hi hp hid)
      · exact h v' oz' ho _ _ (ha.put hd _) (hM.fresh i hp hf)
theorem e_append (i : Nat) {e : TypeId} {z l k bytes : Nat} {zv v vy : Value} {xs news : List Value} {oz : Option Blk} {B : Mem} (hown : OwnS e z v l xs oz.toList) (hsrc : Shows B z vy k news) (hi : lkM M i = oz) (hB : SeenE G R M B)
    (hT : P.underlying T = some (.slice e)) (hs : (P.info? e).map (·.size) = some z) (hb : (P.info? e).map (·.bytes) = some bytes) (hz : (P.info? e).bind (·.zero) = some zv) (hzs : zv.cells.size = z)
    (hx : rd E x = some v) (hy : rd E y = some vy) (h1 : ∀ u ∈ news, u.oneCell' = true) (h63 : l + k ≤ maxLen) (hbytes : (l + k) * bytes ≤ 140737488355328) (hd : Nat.blt d n = true)
    (h : ∀ v' (oz' : Option Blk), OwnS e z v' (l + k) (xs ++ news) oz'.toList → OpsE P G R ops n K rest ((d, v') :: E) ((i, oz') :: M)) (hL : R.L = none := by rfl) : OpsE P G R ops n K (⟨some d, .call ⟨.builtin .append, #[x, y], #[T, T]⟩, ty, pos, aft, none⟩ :: rest) E M :=
  e_appendL i hown hsrc hi (fun q hq => (hB q hq).imp id fun ⟨j, h2, _⟩ => ⟨j, h2⟩) (by rw [hL]; trivial) hT hs hb hz hzs hx hy h1 h63 hbytes hd h
theorem e_callN (i : Nat) (mk : Value → Value) {fo : Operand} {f : FuncId} {args : Array Operand} {tys : Array TypeId} {vs cap : List Value} {g' : Mem} {e : TypeId} {z k : Nat} {xs : List Value} (hf : rd E fo = some (.func (.func f) #[] cap.toArray)) (hargs : rdl E args.toList = some vs) (he : enters P f = true) (hg : SeenE G R M g')
    (hF : Fx P g' [] f (vs ++ cap).toArray (fun v l1 nw => l1 = [] ∧ ∃ v', v = mk v' ∧ OwnS e z v' k xs nw)) (hk : k ≤ maxLen) (hkx : xs.length = k * z) (hd : Nat.blt d n = true) (hR : callMk R = true)
    (h : ∀ v' (oz : Option Blk), OwnS e z v' k xs oz.toList → OpsE P G R ops n K rest ((d, mk v') :: E) ((i, oz) :: M)) : OpsE P G R ops n K (⟨some d, .call ⟨.value fo, args, tys⟩, ty, pos, aft, none⟩ :: rest) E M :=
  fun _ m ha hM => by
    refine st_callN hR (S := fun v nw => ∃ v', v = mk v' ∧ OwnS e z v' k xs nw) (ha.rd hf) (ha.args hargs) he (by simpa using hF) ?_ (fun w hG hv q hq => (hg.seen hM).rin hG hv hq) ?_
    · intro m'
      obtain ⟨r, hr⟩ := fresh_of m'
      exact ⟨_, [⟨r, xs.toArray, e⟩], ⟨.slice (some ⟨r, 0, none⟩) k k, rfl, .inr ⟨r, k, xs.toArray, rfl, rfl, Nat.le_refl _, hk, by simpa using hkx, hkx, by rw [← hkx]; exact List.take_length⟩⟩, by simp, by simpa using hr⟩
    · rintro v nw ⟨v', rfl, ho⟩ hfr
      obtain ⟨oz, rfl⟩ := own_opt ho
      have := hM.fresh i (l0 := []) (lr := m) (by simp) hfr
      exact h v' oz ho _ _ (ha.put hd _) (by simpa using this)
theorem e_callW (i : Nat) {fo : Operand} {f : FuncId} {args : Array Operand} {tys : Array TypeId} {vs cap : List Value} {g' : Mem} {b : Nat} {c c' : Array Value} {t : TypeId} {v : Value} (hf : rd E fo = some (.func (.func f) #[] cap.toArray)) (hargs : rdl E args.toList = some vs) (he : enters P f = true)
    (hm : lkM M i = some ⟨b, c, t⟩) (hg : ∀ z ∈ g', z ∈ G ∨ ∃ j, j ≠ i ∧ lkM M j = some z) (hF : Fx P g' [⟨b, c, t⟩] f (vs ++ cap).toArray (fun v' l1 nw => v' = v ∧ l1 = [⟨b, c', t⟩] ∧ nw = [])) (hd : Nat.blt d n = true) (hR : R.c = 5)
    (h : OpsE P G R ops n K rest ((d, v) :: E) ((i, some ⟨b, c', t⟩) :: M)) (hL : R.L = none := by rfl) : OpsE P G R ops n K (⟨some d, .call ⟨.value fo, args, tys⟩, ty, pos, aft, none⟩ :: rest) E M :=
  fun _ m ha hM => by
    obtain ⟨lr, hp⟩ := hM.perm1 hm
    refine st_callX hR (S := fun v' l1 nw => v' = v ∧ l1 = [⟨b, c', t⟩] ∧ nw = []) (ha.rd hf) (ha.args hargs) he (by simpa using hF) (lr := lr) (fun _ _ => off_none hL _) (by simpa using hp) (fun _ => ⟨v, _, [], ⟨rfl, rfl, rfl⟩, by simp, by simp⟩) ?_ (fun w hG hw z hz => ?_) (by simp) (fun hA z hz => ?_) ?_
    · rintro v' l1 nw ⟨_, rfl, _⟩; rfl
    · rcases hg z hz with h1 | ⟨j, _, h1⟩
      · exact hG z h1
      · exact (hw z (hM.has j z h1)).read
    · rcases hg z hz with h1 | ⟨j, hne, h1⟩
      · simpa using hA z h1 ⟨b, c, t⟩ (hM.has i _ hm)
      · simpa using hM.apart j i z _ h1 hm hne
    · rintro v' l1 nw ⟨rfl, rfl, rfl⟩ _
      have := hM.same (oz' := some ⟨b, c', t⟩) hm hp rfl
      exact h _ _ (ha.put hd _) (by simpa using this)
end
section
variable {P : Program} {G : Mem} {n : Nat}
theorem mapM0 (f : ResultVar → Sem Value) : Array.mapM f #[] = pure #[] := by
  rw [Array.mapM_eq_mapM_toList]; simp
def EndW (b : Nat) (c' : Array Value) (t : TypeId) (fn : Func) : Exit → Env → Mm → Prop
  | .normal, _, M | .ret, _, M => fn.results = #[] ∧ ∃ i, lkM M i = some ⟨b, c', t⟩
  | _, _, _ => False
theorem fxW {f : FuncId} {fn : Func} {c : Code} {args : Array Value} {b : Nat} {c0 c' : Array Value} {t : TypeId} (hf : P.funcs[f]? = some fn) (hb : fn.body = some c) (hn : fn.ntmps = n) (ha : args.size ≤ n) (E : Env) (hE : ∀ t v, lk E t = some v → args[t]? = some v)
    (h : SatE P G c n (EndW b c' t fn) E [(0, some ⟨b, c0, t⟩)]) : Fx P G [⟨b, c0, t⟩] f args (fun v' l1 nw => v' = .tuple #[] ∧ l1 = [⟨b, c', t⟩] ∧ nw = []) :=
  fx_of hf hb (sat_mono (h _ [⟨b, c0, t⟩] ⟨by simp [hn]; omega, rfl, fun t v ht => by
    have := hE t v ht
    have hlt := (Array.getElem?_eq_some_iff.1 this).1
    rw [Array.getElem?_append_left hlt]; exact this⟩ ⟨fun i x hx => by
      rw [lkM_cons] at hx
      split at hx
      · cases hx; simp
      · simp [lkM] at hx, fun i j x y hx hy hne => by
      rw [lkM_cons] at hx hy
      split at hx
      · split at hy
        · rename_i e1 e2; exact absurd (e1.symm.trans e2) hne
        · simp [lkM] at hy
      · simp [lkM] at hx⟩) fun e a m ⟨E', M', h1, h0, h2⟩ => by
      have key : (fn.results = #[] ∧ ∃ i, lkM M' i = some ⟨b, c', t⟩) → a.defers = [] ∧ ∃ v l1 nw, (v = Value.tuple #[] ∧ l1 = [(⟨b, c', t⟩ : Blk)] ∧ nw = ([] : Mem)) ∧ (nw.map (·.b)).Nodup ∧ (∀ x ∈ nw, x.b ∉ [(⟨b, c0, t⟩ : Blk)].map (·.b)) ∧ (∀ x ∈ l1 ++ nw, x ∈ m) ∧ ∀ w, MemIn m w → (results fn a.tmps).run P w = .ok v w := fun ⟨hr, i, hi⟩ =>
        ⟨h1.defers, _, _, _, ⟨rfl, rfl, rfl⟩, by simp, by simp, fun x hx => by
          simp at hx; subst hx; exact h0.has i _ hi, fun w _ => by
          rw [results_eq, hr, mapM0]
          simp⟩
      cases e <;> first | exact key h2 | exact h2.elim)
def EndN (P : Program) (e : TypeId) (z k : Nat) (xs : List Value) (fn : Func) : Exit → Env → Mm → Prop
  | .normal, E, M | .ret, E, M => ∃ r v oz i, fn.results = #[r] ∧ Res P E M r v ∧ OwnS e z v k xs (Option.toList oz) ∧ lkM M i = oz
  | _, _, _ => False
theorem own_nd {e : TypeId} {z k : Nat} {v : Value} {xs : List Value} {l : Mem} (h : OwnS e z v k xs l) : (l.map (·.b)).Nodup := by
  rcases h with ⟨_, _, _, rfl⟩ | ⟨r, cap, c, _, rfl, _⟩ <;> simp
theorem fxN {f : FuncId} {fn : Func} {c : Code} {args : Array Value} {e : TypeId} {z k : Nat} {xs : List Value} (hf : P.funcs[f]? = some fn) (hb : fn.body = some c) (hn : fn.ntmps = n) (ha : args.size ≤ n) (E : Env) (hE : ∀ t v, lk E t = some v → args[t]? = some v)
    (h : SatE P G c n (EndN P e z k xs fn) E []) : Fx P G [] f args (fun v l1 nw => l1 = [] ∧ ∃ v', v = v' ∧ OwnS e z v' k xs nw) :=
  fx_of hf hb (sat_mono (h _ [] ⟨by simp [hn]; omega, rfl, fun t v ht => by
    have := hE t v ht
    have hlt := (Array.getElem?_eq_some_iff.1 this).1
    rw [Array.getElem?_append_left hlt]; exact this⟩ (FitsM.nil _)) fun e' a m ⟨E', M', h1, h0, h2⟩ => by
      have key : (∃ r v oz i, fn.results = #[r] ∧ Res P E' M' r v ∧ OwnS e z v k xs (Option.toList oz) ∧ lkM M' i = oz) → a.defers = [] ∧ ∃ v l1 nw, (l1 = [] ∧ ∃ v', v = v' ∧ OwnS e z v' k xs nw) ∧ (nw.map (·.b)).Nodup ∧ (∀ x ∈ nw, x.b ∉ ([] : Mem).map (·.b)) ∧ (∀ x ∈ l1 ++ nw, x ∈ m) ∧ ∀ w, MemIn m w → (results fn a.tmps).run P w = .ok v w := fun ⟨r, v, oz, i, hr, hR, ho, hi⟩ =>
        ⟨h1.defers, v, [], oz.toList, ⟨rfl, v, rfl, ho⟩, own_nd ho, by simp, fun x hx => by
          have : oz = some x := by simpa using hx
          exact h0.has i x (hi.trans this), fun w hw => by
          have := res_run h1 h0 hw hR
          rw [results_eq, hr, mapM1]
          simp [this]⟩
      cases e' <;> first | exact key h2 | exact h2.elim)
end
end Go.Proofs.YthljakcegoohlaaDoor
namespace Go.Proofs.YthljakcegoohlaaDoor
open Go Go.RowKit
def arrv (n : Nat) (F : Nat → Value) : Array Value := ((List.range n).map F).toArray
def updv (F : Nat → Value) (j : Nat) (v : Value) : Nat → Value := fun i => if i = j then v else F i
def putv (F : Nat → Value) (o l : Nat) (A : Nat → Value) : Nat → Value := fun i => if o ≤ i ∧ i < o + l then A (i - o) else F i
theorem arr_arrv (k : IntKind) (n : Nat) (f : Nat → Nat) : arr k n f = arrv n (fun i => .int k (f i : Int)) := rfl
theorem arrv_size (n : Nat) (F : Nat → Value) : (arrv n F).size = n := by simp [arrv]
theorem arrv_get {n j : Nat} {F : Nat → Value} (h : j < n) : (arrv n F)[j]? = some (F j) := by simp [arrv, h]
theorem arrv_congr {n : Nat} {F H : Nat → Value} (h : ∀ j, j < n → F j = H j) : arrv n F = arrv n H := by
  unfold arrv
  congr 1
  exact List.map_congr_left fun i hi => h i (by simpa using hi)
theorem arrv_set {n : Nat} {F : Nat → Value} (j : Nat) (v : Value) : (arrv n F).setIfInBounds j v = arrv n (updv F j v) := by
  apply Array.ext
  · simp [arrv_size]
  · intro i h1 h2
    have hi : i < n := by simpa [arrv_size] using h2
    by_cases e : j = i
    · subst e; simp [arrv, updv]
    · have e' : ¬ i = j := fun h => e h.symm
      simp [arrv, updv, e, e']
theorem arrv_part (N o l : Nat) (F : Nat → Value) (h : o + l ≤ N) : (arrv N F).extract o (o + l) = arrv l (fun t => F (o + t)) := by
  apply Array.ext
  · simp [arrv]; omega
  · intro i h1 h2
    simp [arrv]
theorem arrv_put (N o l : Nat) (F A : Nat → Value) (h : o + l ≤ N) : ((arrv N F).toList.take o ++ (arrv l A).toList ++ (arrv N F).toList.drop (o + l)).toArray = arrv N (putv F o l A) := by
  apply Array.ext
  · simp [arrv]; omega
  · intro j h1 h2
    have hj : j < N := by simpa [arrv] using h2
    simp only [List.getElem_toArray]
    by_cases ha : j < o
    · rw [List.getElem_append_left (by simp [arrv]; omega), List.getElem_append_left (by simp [arrv]; omega)]
      simp [arrv, putv, show ¬ (o ≤ j ∧ j < o + l) by omega]
    · by_cases hb : j < o + l
      · rw [List.getElem_append_left (by simp [arrv]; omega), List.getElem_append_right (by simp [arrv]; omega)]
        have h5 : min o N = o := by omega
        simp [arrv, putv, h5, show o ≤ j ∧ j < o + l by omega]
      · rw [List.getElem_append_right (by simp [arrv]; omega)]
        have h5 : min o N = o := by omega
        simp [arrv, putv, h5, show ¬ (o ≤ j ∧ j < o + l) by omega]
        congr 1
        omega
theorem setRow_blk {w : World} {b : Nat} {c' : Array Value} {t : TypeId} : w.setRow b c' = setBlk w ⟨b, c', t⟩ := rfl
section
variable {P : Program} {G : Mem} {R : Reg} {ops : Array Oper} {K : Act → Mem → Prop} {rest : List Oper} {a : Act} {m : Mem} {d : Option Tmp} {ty : TypeId} {pos : String} {aft : Array Edge}
variable {T T' : TypeId} {x y : Operand}
theorem st_storeP {b o i l N : Nat} {F A : Nat → Value} {t : TypeId} (hs : (P.info? T).map (·.size) = some l) (hx : a.eval x = .pointer (some ⟨b, o, none⟩)) (hy : a.eval y = .agg (arrv l A)) (hA : ∀ j, j < l → (A j).oneCell' = true)
    (hm : m[i]? = some ⟨b, arrv N F, t⟩) (hX : R.X = [] ∨ b ∈ R.X) (ho : o + l ≤ N) (h : opsM P G R ops K rest (a.put d undef) (m.set i ⟨b, arrv N (putv F o l A), t⟩)) : opsM P G R ops K (⟨d, .store T x y, ty, pos, aft, none⟩ :: rest) a m :=
  store_at hm hX (arrv N (putv F o l A)) (by simp [arrv_size]) (fun w hin => by
    have hst := run_storeCells_in (P := P) b o t (arrv l A).toList 0 (arrv N F) w hin (by simp [arrv_size]; omega) (fun v hv => by
      simp [arrv] at hv
      obtain ⟨j, hj, rfl⟩ := hv
      exact hA j hj)
    have hl : (arrv l A).toList.length = l := by simp [arrv]
    rw [hl, Nat.add_zero, arrv_put N o l F A ho, setRow_blk (t := t)] at hst
    cases hi : P.info? T with
    | none => simp [hi] at hs
    | some j =>
      have hsz : j.size = l := by simpa [hi] using hs
      simp only [execOp, Instr.storeAt, hx, hy, Instr.sureAddr, storeVar, sizeOf, typeInfo]
      simp [hi, hsz, Value.cells, arrv_size, hst]) h
end
section
variable {P : Program} {G : Mem} {R : Reg} {ops : Array Oper} {n : Nat} {K : Env → Mm → Prop} {rest : List Oper} {E : Env} {M : Mm} {d : Nat} {ty : TypeId} {pos : String} {aft : Array Edge}
variable {T T' : TypeId} {x y : Operand}
theorem e_ldP {b i o l N : Nat} {F : Nat → Value} {t : TypeId} {td : TypeDesc} (hT : P.underlying T = some td) (hn : rowLike td = true) (hs : (P.info? T).map (·.size) = some l)
    (hx : rd E x = some (.pointer (some ⟨b, o, none⟩))) (hm : lkM M i = some ⟨b, arrv N F, t⟩) (ho : o + l ≤ N) (hd : Nat.blt d n = true) (hX : ∃ js, okXL M i js R) (h : OpsE P G R ops n K rest ((d, .agg (arrv l (fun t => F (o + t)))) :: E) M) :
    OpsE P G R ops n K (⟨some d, .load T x, ty, pos, aft, none⟩ :: rest) E M :=
  fun _ _ ha hM => by
    obtain ⟨j, hj⟩ := hM.at hm
    obtain ⟨js, hjs⟩ := hX
    exact st_loadS hT hn hs (ha.rd hx) hj (okXL_not hM hm hjs) (by rw [arrv_size]; exact ho) (by rw [arrv_part N o l F ho]; exact h _ _ (ha.put hd _) hM)
theorem e_st1 {b o i N : Nat} {F : Nat → Value} {v : Value} {t : TypeId} (hs : (P.info? T).map (·.size) = some 1) (hx : rd E x = some (.pointer (some ⟨b, o, none⟩))) (hy : rd E y = some v) (hv : v.oneCell' = true)
    (hm : lkM M i = some ⟨b, arrv N F, t⟩) (ho : o < N) (hX : R.X = [] ∨ b ∈ R.X) (h : OpsE P G R ops n K rest E ((i, some ⟨b, arrv N (updv F o v), t⟩) :: M)) : OpsE P G R ops n K (⟨none, .store T x y, ty, pos, aft, none⟩ :: rest) E M :=
  fun _ _ ha hM => by
    obtain ⟨j, hj⟩ := hM.at hm
    exact st_store1 hs (ha.rd hx) (ha.rd hy) hv hj hX (by rw [arrv_size]; exact ho) (by rw [arrv_set]; exact h _ _ ha (hM.store hm hj _))
theorem e_stP {b o i l N : Nat} {F A : Nat → Value} {t : TypeId} (hs : (P.info? T).map (·.size) = some l) (hx : rd E x = some (.pointer (some ⟨b, o, none⟩))) (hy : rd E y = some (.agg (arrv l A))) (hA : ∀ j, j < l → (A j).oneCell' = true)
    (hm : lkM M i = some ⟨b, arrv N F, t⟩) (ho : o + l ≤ N) (hX : R.X = [] ∨ b ∈ R.X) (h : OpsE P G R ops n K rest E ((i, some ⟨b, arrv N (putv F o l A), t⟩) :: M)) : OpsE P G R ops n K (⟨none, .store T x y, ty, pos, aft, none⟩ :: rest) E M :=
  fun _ _ ha hM => by
    obtain ⟨j, hj⟩ := hM.at hm
    exact st_storeP hs (ha.rd hx) (ha.rd hy) hA hj hX ho (h _ _ ha (hM.store hm hj _))
end
end Go.Proofs.YthljakcegoohlaaDoor
namespace Go.Proofs.YthljakcegoohlaaDoor
open Go Go.RowKit
abbrev Part := Nat × (Nat → Value)
def catF : List Part → Nat → Value
  | [], _ => .bool false
  | p :: ps, i => if i < p.1 then p.2 i else catF ps (i - p.1)
def catA0 : List Part → Nat → Option (Nat × Part)
  | [], _ => none
  | p :: _, 0 => some (0, p)
  | p :: ps, k + 1 => match catA0 ps k with
    | none => none
    | some q => some (p.1 + q.1, q.2)
def catGo : List Part → Nat → Nat → Option (Nat × Part)
  | [], _, _ => none
  | p :: _, 0, a => some (a, p)
  | p :: ps, k + 1, a => catGo ps k (a + p.1)
abbrev catAt (ps : List Part) (k : Nat) : Option (Nat × Part) := catGo ps k 0
theorem catGo_eq : ∀ (ps : List Part) (k a : Nat), catGo ps k a = (catA0 ps k).map fun q => (a + q.1, q.2)
  | [], _, _ => rfl
  | _ :: _, 0, _ => rfl
  | p :: ps, k + 1, a => by
    rw [catGo, catA0, catGo_eq ps k]
    cases catA0 ps k with
    | none => rfl
    | some q => simp [Nat.add_assoc]
theorem catAt_old {ps : List Part} {k : Nat} {q : Nat × Part} (h : catAt ps k = some q) : catA0 ps k = some q := by
  unfold catAt at h
  rw [catGo_eq] at h
  cases hc : catA0 ps k with
  | none => rw [hc] at h; cases h
  | some x =>
    rw [hc] at h
    simp at h
    rw [← h]
def catSet : List Part → Nat → (Nat → Value) → List Part
  | [], _, _ => []
  | p :: ps, 0, F => (p.1, F) :: ps
  | p :: ps, k + 1, F => p :: catSet ps k F
def catOk : List Part → Prop
  | [] => True
  | p :: ps => (∀ i, (p.2 i).oneCell' = true) ∧ catOk ps
abbrev pI (k : IntKind) (l : Nat) (f : Nat → Nat) : Part := (l, fun i => .int k (f i : Int))
abbrev pV (v : Value) : Part := (1, fun _ => v)
abbrev cells (N : Nat) (ps : List Part) : Array Value := arrv N (catF ps)
theorem cat_part0 : ∀ {ps : List Part} {k o l : Nat} {F : Nat → Value}, catA0 ps k = some (o, l, F) → ∀ t, t < l → catF ps (o + t) = F t
  | [], _, _, _, _, h, _, _ => by simp [catA0] at h
  | p :: ps, 0, o, l, F, h, t, ht => by
    simp only [catA0, Option.some.injEq, Prod.mk.injEq] at h
    obtain ⟨rfl, rfl⟩ := h
    simp [catF, ht]
  | p :: ps, k + 1, o, l, F, h, t, ht => by
    simp only [catA0] at h
    cases hq : catA0 ps k with
    | none => simp [hq] at h
    | some q =>
      obtain ⟨o', l', F'⟩ := q
      simp only [hq, Option.some.injEq, Prod.mk.injEq] at h
      obtain ⟨rfl, rfl, rfl⟩ := h
      have := cat_part0 hq t ht
      simp only [catF]
      rw [if_neg (by omega), show p.1 + o' + t - p.1 = o' + t by omega, this]
theorem cat_put0 : ∀ {ps : List Part} {k o l : Nat} {F : Nat → Value} (A : Nat → Value), catA0 ps k = some (o, l, F) → ∀ i, putv (catF ps) o l A i = catF (catSet ps k A) i
  | [], _, _, _, _, _, h, _ => by simp [catA0] at h
  | p :: ps, 0, o, l, F, A, h, i => by
    simp only [catA0, Option.some.injEq, Prod.mk.injEq] at h
    obtain ⟨rfl, rfl⟩ := h
    simp only [putv, catF, catSet]
    by_cases hi : i < l
    · rw [if_pos (by omega), if_pos hi, Nat.sub_zero]
    · rw [if_neg (by omega), if_neg hi, if_neg hi]
  | p :: ps, k + 1, o, l, F, A, h, i => by
    simp only [catA0] at h
    cases hq : catA0 ps k with
    | none => simp [hq] at h
    | some q =>
      obtain ⟨o', l', F'⟩ := q
      simp only [hq, Option.some.injEq, Prod.mk.injEq] at h
      obtain ⟨rfl, rfl, rfl⟩ := h
      have := cat_put0 A hq (i - p.1)
      simp only [catF, catSet]
      rw [← this]
      simp only [putv]
      by_cases hi : i < p.1
      · rw [if_neg (by omega), if_pos hi, if_pos hi]
      · rw [if_neg hi, if_neg hi]
        by_cases h2 : o' ≤ i - p.1 ∧ i - p.1 < o' + l'
        · rw [if_pos (by omega), if_pos h2]; congr 1; omega
        · rw [if_neg (by omega), if_neg h2]
theorem cat_part {ps : List Part} {k o l : Nat} {F : Nat → Value} (h : catAt ps k = some (o, l, F)) : ∀ t, t < l → catF ps (o + t) = F t := cat_part0 (catAt_old h)
theorem cat_put {ps : List Part} {k o l : Nat} {F : Nat → Value} (A : Nat → Value) (h : catAt ps k = some (o, l, F)) : ∀ i, putv (catF ps) o l A i = catF (catSet ps k A) i := cat_put0 A (catAt_old h)
theorem putv_one (F : Nat → Value) (o : Nat) (v : Value) : putv F o 1 (fun _ => v) = updv F o v := by
  funext i
  unfold putv updv
  by_cases h : i = o
  · subst h; rw [if_pos (by omega), if_pos rfl]
  · rw [if_neg (by omega), if_neg h]
theorem cat_upd {ps : List Part} {k o l : Nat} {F : Nat → Value} {j : Nat} (v : Value) (h : catAt ps k = some (o, l, F)) (hj : j < l) (i : Nat) : updv (catF ps) (o + j) v i = catF (catSet ps k (updv F j v)) i := by
  rw [← cat_put _ h i]
  unfold updv putv
  by_cases h1 : i = o + j
  · subst h1
    rw [if_pos rfl, if_pos (by omega)]
    show v = if o + j - o = j then v else F (o + j - o)
    rw [if_pos (by omega)]
  · rw [if_neg h1]
    by_cases h2 : o ≤ i ∧ i < o + l
    · rw [if_pos h2]
      show catF ps i = if i - o = j then v else F (i - o)
      rw [if_neg (by omega)]
      have := cat_part h (i - o) (by omega)
      rw [← this]; congr 1; omega
    · rw [if_neg h2]
theorem upd_int (k : IntKind) (f : Nat → Nat) (j v : Nat) : updv (fun i => .int k (f i : Int)) j (.int k (v : Int)) = fun i => .int k (upd f j v i : Int) := by
  funext i
  unfold updv upd
  split <;> rfl
theorem cat_one : ∀ {ps : List Part}, catOk ps → ∀ i, (catF ps i).oneCell' = true
  | [], _, _ => rfl
  | p :: ps, h, i => by
    simp only [catF]
    split
    · exact h.1 _
    · exact cat_one h.2 _
theorem cells_one {N : Nat} {ps : List Part} (h : catOk ps) : ∀ v ∈ cells N ps, v.oneCell' = true := fun v hv => by
  simp [cells, arrv] at hv
  obtain ⟨i, _, rfl⟩ := hv
  exact cat_one h i
theorem cells_sz {N : Nat} {ps qs : List Part} : (cells N ps).size = (cells N qs).size := by rw [arrv_size, arrv_size]
section
variable {P : Program} {G : Mem} {R : Reg} {ops : Array Oper} {n : Nat} {K : Env → Mm → Prop} {rest : List Oper} {E : Env} {M : Mm} {d : Nat} {ty : TypeId} {pos : String} {aft : Array Edge}
variable {T T' : TypeId} {x y : Operand}
theorem e_ldC (k : Nat) {b i o l N : Nat} {kd : IntKind} {f : Nat → Nat} {ps : List Part} {t : TypeId} {td : TypeDesc} (hT : P.underlying T = some td) (hn : rowLike td = true) (hs : (P.info? T).map (·.size) = some l)
    (hx : rd E x = some (.pointer (some ⟨b, o, none⟩))) (hm : lkM M i = some ⟨b, cells N ps, t⟩) (hk : catAt ps k = some (o, pI kd l f)) (ho : o + l ≤ N) (hd : Nat.blt d n = true) (hX : ∃ js, okXL M i js R) (h : OpsE P G R ops n K rest ((d, .agg (arr kd l f)) :: E) M) :
    OpsE P G R ops n K (⟨some d, .load T x, ty, pos, aft, none⟩ :: rest) E M :=
  e_ldP hT hn hs hx hm ho hd hX (by rw [arrv_congr (fun t ht => cat_part hk t ht), ← arr_arrv]; exact h)
theorem e_ldI (k j : Nat) {b i o o' l N : Nat} {kd : IntKind} {f : Nat → Nat} {ps : List Part} {t : TypeId} {td : TypeDesc} (hT : P.underlying T = some td) (hn : rowLike td = false)
    (hx : rd E x = some (.pointer (some ⟨b, o', none⟩))) (hm : lkM M i = some ⟨b, cells N ps, t⟩) (hk : catAt ps k = some (o, pI kd l f)) (ho : o' = o + j) (hj : j < l) (hN : o' < N) (hd : Nat.blt d n = true) (hX : ∃ js, okXL M i js R) (h : OpsE P G R ops n K rest ((d, .int kd (f j : Int)) :: E) M) :
    OpsE P G R ops n K (⟨some d, .load T x, ty, pos, aft, none⟩ :: rest) E M :=
  e_load1 (v := .int kd (f j : Int)) hT hn hx hm (by rw [cells, arrv_get hN, ho, cat_part hk j hj]) hd hX h
theorem e_ldV1 (k : Nat) {b i o N : Nat} {v : Value} {ps : List Part} {t : TypeId} {td : TypeDesc} (hT : P.underlying T = some td) (hn : rowLike td = false)
    (hx : rd E x = some (.pointer (some ⟨b, o, none⟩))) (hm : lkM M i = some ⟨b, cells N ps, t⟩) (hk : catAt ps k = some (o, pV v)) (hN : o < N) (hd : Nat.blt d n = true) (hX : ∃ js, okXL M i js R) (h : OpsE P G R ops n K rest ((d, v) :: E) M) :
    OpsE P G R ops n K (⟨some d, .load T x, ty, pos, aft, none⟩ :: rest) E M :=
  e_load1 (v := v) hT hn hx hm (by have := cat_part hk 0 (by decide); rw [Nat.add_zero] at this; rw [cells, arrv_get hN, this]) hd hX h
theorem e_stC (k : Nat) {b o i l N : Nat} {kd : IntKind} {f : Nat → Nat} {F : Nat → Value} {ps : List Part} {t : TypeId} (hs : (P.info? T).map (·.size) = some l) (hx : rd E x = some (.pointer (some ⟨b, o, none⟩))) (hy : rd E y = some (.agg (arr kd l f)))
    (hm : lkM M i = some ⟨b, cells N ps, t⟩) (hk : catAt ps k = some (o, l, F)) (ho : o + l ≤ N) (hX : R.X = [] ∨ b ∈ R.X) (h : OpsE P G R ops n K rest E ((i, some ⟨b, cells N (catSet ps k (fun i => .int kd (f i : Int))), t⟩) :: M)) : OpsE P G R ops n K (⟨none, .store T x y, ty, pos, aft, none⟩ :: rest) E M :=
  e_stP (A := fun i => .int kd (f i : Int)) hs hx hy (fun _ _ => rfl) hm ho hX (by rw [funext (cat_put _ hk)]; exact h)
theorem e_stI (k j : Nat) {b o o' i l v N : Nat} {kd : IntKind} {f : Nat → Nat} {ps : List Part} {t : TypeId} (hs : (P.info? T).map (·.size) = some 1) (hx : rd E x = some (.pointer (some ⟨b, o', none⟩))) (hy : rd E y = some (.int kd (v : Int)))
    (hm : lkM M i = some ⟨b, cells N ps, t⟩) (hk : catAt ps k = some (o, pI kd l f)) (ho : o' = o + j) (hj : j < l) (hN : o' < N) (hX : R.X = [] ∨ b ∈ R.X) (h : OpsE P G R ops n K rest E ((i, some ⟨b, cells N (catSet ps k (fun i => .int kd (upd f j v i : Int))), t⟩) :: M)) : OpsE P G R ops n K (⟨none, .store T x y, ty, pos, aft, none⟩ :: rest) E M :=
  e_st1 hs hx hy rfl hm hN hX (by rw [ho, funext (cat_upd _ hk hj), upd_int]; exact h)
theorem e_stV (k : Nat) {b o i N : Nat} {v : Value} {F : Nat → Value} {ps : List Part} {t : TypeId} (hs : (P.info? T).map (·.size) = some 1) (hx : rd E x = some (.pointer (some ⟨b, o, none⟩))) (hy : rd E y = some v) (hv : v.oneCell' = true)
    (hm : lkM M i = some ⟨b, cells N ps, t⟩) (hk : catAt ps k = some (o, 1, F)) (hN : o < N) (hX : R.X = [] ∨ b ∈ R.X) (h : OpsE P G R ops n K rest E ((i, some ⟨b, cells N (catSet ps k (fun _ => v)), t⟩) :: M)) : OpsE P G R ops n K (⟨none, .store T x y, ty, pos, aft, none⟩ :: rest) E M :=
  e_st1 hs hx hy hv hm hN hX (by rw [← putv_one, funext (cat_put _ hk)]; exact h)
end
section
variable {P : Program} {G : Mem} {R : Reg} {ops : Array Oper} {n : Nat} {K : Env → Mm → Prop} {rest : List Oper} {E : Env} {M : Mm} {d : Nat} {ty : TypeId} {pos : String} {aft : Array Edge}
end
end Go.Proofs.YthljakcegoohlaaDoor
namespace Go.Proofs.YthljakcegoohlaaDoor
open Go Go.RowKit
theorem cat_putp {ps : List Part} {k o l kk : Nat} {F : Nat → Value} (A : Nat → Value) (h : catAt ps k = some (o, l, F)) (hk : kk ≤ l) (i : Nat) : putv (catF ps) o kk A i = catF (catSet ps k (putv F 0 kk A)) i := by
  rw [← cat_put _ h i]
  unfold putv
  by_cases h1 : o ≤ i ∧ i < o + kk
  · rw [if_pos h1, if_pos (by omega)]
    show A (i - o) = if 0 ≤ i - o ∧ i - o < 0 + kk then A (i - o - 0) else F (i - o)
    rw [if_pos (by omega), Nat.sub_zero]
  · rw [if_neg h1]
    by_cases h2 : o ≤ i ∧ i < o + l
    · rw [if_pos h2]
      show catF ps i = if 0 ≤ i - o ∧ i - o < 0 + kk then A (i - o - 0) else F (i - o)
      rw [if_neg (by omega)]
      have := cat_part h (i - o) (by omega)
      rw [← this]; congr 1; omega
    · rw [if_neg h2]
theorem putv_bytes (f : Nat → Nat) (kk : Nat) (l : List Nat) : putv (fun i => .int .u8 (f i : Int)) 0 kk (fun j => by8 (l.getD j 0)) = fun i => .int .u8 ((if i < kk then l.getD i 0 else f i : Nat) : Int) := by
  funext i
  unfold putv
  by_cases h : i < kk
  · rw [if_pos (by omega), if_pos h, Nat.sub_zero]
  · rw [if_neg (by omega), if_neg h]
theorem take_arrv (l : List Nat) (k : Nat) (h : k ≤ l.length) : (l.take k).map by8 = (arrv k (fun j => by8 (l.getD j 0))).toList := by
  apply List.ext_getElem
  · simp [arrv]; omega
  · intro j h1 h2
    have hj : j < l.length := by
      have h3 := h1
      rw [List.length_map, List.length_take] at h3
      omega
    simp [arrv, List.getD, hj]
section
variable {P : Program} {G : Mem} {R : Reg} {ops : Array Oper} {K : Act → Mem → Prop} {rest : List Oper} {a : Act} {m : Mem} {d : Option Tmp} {ty : TypeId} {pos : String} {aft : Array Edge}
variable {T T' : TypeId} {x y : Operand}
theorem st_copyV {e : TypeId} {b o N dl cap i : Nat} {F : Nat → Value} {t : TypeId} {l : List Nat} (hT : P.underlying T = some (.slice e)) (hs : (P.info? e).map (·.size) = some 1) (hx : a.eval x = .slice (some ⟨b, o, none⟩) dl cap) (hy : a.eval y = sv l) (hl : ∀ n ∈ l, n < 256)
    (hm : m[i]? = some ⟨b, arrv N F, t⟩) (ho : o + dl ≤ N)
    (h : ∀ lr, List.Perm m (⟨b, arrv N F, t⟩ :: lr) → opsM P G R ops K rest (a.put d (ii (min l.length dl))) (⟨b, arrv N (putv F o (min l.length dl) (fun j => by8 (l.getD j 0))), t⟩ :: lr)) (hL : R.L = none := by rfl) : opsM P G R ops K (⟨d, .call ⟨.builtin .copy, #[x, y], #[T, T']⟩, ty, pos, aft, none⟩ :: rest) a m := by
  have hmem : (⟨b, arrv N F, t⟩ : Blk) ∈ m := mem_of_get hm
  obtain ⟨l1, l2, hml⟩ := List.append_of_mem hmem
  have hp : List.Perm m (⟨b, arrv N F, t⟩ :: (l1 ++ l2)) := by rw [hml]; exact List.perm_middle
  obtain ⟨c', hc'⟩ : ∃ c', c' = arrv N (putv F o (min l.length dl) (fun j => by8 (l.getD j 0))) := ⟨_, rfl⟩
  refine .inr ⟨rfl, ?_⟩
  show coreM _ _ _ _ _ _ _ 5
  refine ⟨[⟨b, arrv N F, t⟩], l1 ++ l2, fun v r1 nw => v = ii (min l.length dl) ∧ r1 = [⟨b, c', t⟩] ∧ nw = [], by simpa using hp, fun _ => ⟨_, _, _, ⟨rfl, rfl, rfl⟩, by simp, by simp⟩, ?_, ?_, ?_⟩
  · exact ⟨by rintro v r1 nw ⟨_, rfl, _⟩; rfl, fun _ _ => off_none hL _⟩
  · intro w _ hw _
    have hin := hw _ hmem
    refine .inl ⟨_, _, _, w.setRow b c', ?_, ⟨rfl, rfl, rfl⟩, post_row hin (by rw [hc', arrv_size, arrv_size])⟩
    cases hi : P.info? e with
    | none => simp [hi] at hs
    | some k =>
      have hsz : k.size = 1 := by simpa [hi] using hs
      have hf : (Builtin.firstCells 1 (min l.length dl) (sv l)).run P w = .ok ((l.take (min l.length dl)).map by8).toArray w := by
        simp only [Builtin.firstCells]
        rw [bstr_cut]
        simp only [Sem.run_pure, List.drop_zero, Nat.sub_zero]
        congr 1
        unfold bstr
        apply Array.ext'
        simp only [Array.toList_map, List.map_map]
        exact List.map_congr_left fun n hn => by
          have := hl n (List.mem_of_mem_take hn)
          simp
          omega
      have hst := run_storeCells_in (P := P) b o t ((l.take (min l.length dl)).map by8) 0 (arrv N F) w hin (by simp [arrv_size]; omega) (fun v hv => by
        obtain ⟨n, _, rfl⟩ := List.mem_map.1 hv; rfl)
      have hlen : ((l.take (min l.length dl)).map by8).length = min l.length dl := by simp
      rw [hlen, Nat.add_zero, take_arrv l _ (by omega), arrv_put N o _ F _ (by omega), ← hc', ← take_arrv l _ (by omega)] at hst
      generalize (l.take (min l.length dl)).map by8 = vs at hf hst
      have hmin : Nat.min l.length dl = min l.length dl := rfl
      simp only [execOp, resolve, invoke, builtin, Sem.run_bind, Sem.run_pure, Result.andThen_ok, List.map_toArray, List.map_cons, List.map_nil, hx, hy]
      simp [Builtin.copy_, run_underlying hT, Builtin.lenOf, bstr_size, sizeOf, typeInfo, hi, hsz, hmin, hf, hst, goInt]
  · rintro v r1 nw ⟨rfl, rfl, rfl⟩ _
    rw [hc']
    simpa using h (l1 ++ l2) hp
end
section
variable {P : Program} {G : Mem} {R : Reg} {ops : Array Oper} {n : Nat} {K : Env → Mm → Prop} {rest : List Oper} {E : Env} {M : Mm} {d : Nat} {ty : TypeId} {pos : String} {aft : Array Edge}
variable {T T' : TypeId} {x y : Operand}
theorem e_copyC (k : Nat) {e : TypeId} {b o N dl cap i L : Nat} {f : Nat → Nat} {ps : List Part} {t : TypeId} {l : List Nat} (hT : P.underlying T = some (.slice e)) (hs : (P.info? e).map (·.size) = some 1) (hx : rd E x = some (.slice (some ⟨b, o, none⟩) dl cap)) (hy : rd E y = some (sv l)) (hl : ∀ q ∈ l, q < 256)
    (hm : lkM M i = some ⟨b, cells N ps, t⟩) (hk : catAt ps k = some (o, pI .u8 L f)) (hL : dl ≤ L) (ho : o + dl ≤ N) (hd : Nat.blt d n = true)
    (h : OpsE P G R ops n K rest ((d, ii (min l.length dl)) :: E) ((i, some ⟨b, cells N (catSet ps k (fun i => .int .u8 ((if i < min l.length dl then l.getD i 0 else f i : Nat) : Int))), t⟩) :: M)) (hL : R.L = none := by rfl) : OpsE P G R ops n K (⟨some d, .call ⟨.builtin .copy, #[x, y], #[T, T']⟩, ty, pos, aft, none⟩ :: rest) E M :=
  fun _ _ ha hM => by
    obtain ⟨kk, hkk⟩ := hM.at hm
    refine st_copyV (hL := hL) hT hs (ha.rd hx) (ha.rd hy) hl hkk ho fun lr hp => ?_
    rw [funext (cat_putp _ hk (by omega)), putv_bytes]
    exact h _ _ (ha.put hd _) (hM.same (oz' := some _) hm (by simpa using hp) rfl)
end
def Same (P : Program) (dp : Nat) (t : TypeId) (v : Value) : Prop := ∀ w, (Op.equalIn dp t v v).run P w = .ok true w
section
variable {P : Program}
theorem same_int {dp : Nat} {t : TypeId} {k k' : IntKind} {z : Int} (h : P.underlying t = some (.int k')) : Same P (dp + 1) t (.int k z) := fun w => by rw [run_equalIn_int w dp t k k' z z h]; simp
theorem same_bool {dp : Nat} {t : TypeId} {z : Bool} (h : P.underlying t = some .bool) : Same P (dp + 1) t (.bool z) := fun w => by rw [run_equalIn_bool' w dp t z z h]; simp
theorem same_arr {dp : Nat} {t e : TypeId} {k k' : IntKind} {l : Nat} {f : Nat → Nat} (hT : P.underlying t = some (.array l e)) (he : P.underlying e = some (.int k')) (hs : (P.info? e).map (·.size) = some 1) : Same P (dp + 2) t (.agg (arr k l f)) := fun w => by
  rw [run_equalArr hT he hs w]
  congr 1
  exact allEq_iff.2 fun _ _ => rfl
def Shown (P : Program) (ps : List Part) (N : Nat) (f : Field) (v : Value) : Prop := ∀ w, (part f.type (cells N ps) f.offset).run P w = .ok v w
theorem shown_row {ps : List Part} {N k o l : Nat} {kd : IntKind} {g : Nat → Nat} {f : Field} {td : TypeDesc} (he : P.underlying f.type = some td) (hn : rowLike td = true) (hs : (P.info? f.type).map (·.size) = some l) (hk : catAt ps k = some (o, pI kd l g)) (ho : f.offset = o) (hN : o + l ≤ N) : Shown P ps N f (.agg (arr kd l g)) := fun w => by
  cases hi : P.info? f.type with
  | none => simp [hi] at hs
  | some i =>
    have hsz : i.size = l := by simpa [hi] using hs
    have he2 : (cells N ps).extract o (o + l) = arr kd l g := by rw [cells, arrv_part N o l _ hN, arrv_congr (fun t ht => cat_part hk t ht), ← arr_arrv]
    unfold part
    simp only [Sem.run_bind, run_isAgg he, Result.andThen_ok, hn, if_true, sizeOf, typeInfo, ho]
    simp [hi, hsz, he2]
theorem shown_one {ps : List Part} {N k o : Nat} {v : Value} {f : Field} {td : TypeDesc} (he : P.underlying f.type = some td) (hn : rowLike td = false) (hk : catAt ps k = some (o, pV v)) (ho : f.offset = o) (hN : o < N) : Shown P ps N f v := fun w => by
  have h1 := cat_part hk 0 (by decide)
  rw [Nat.add_zero] at h1
  unfold part
  simp only [Sem.run_bind, run_isAgg he, Result.andThen_ok, hn, ho, cells, arrv_get hN, h1]
  simp
theorem same_fields {dp : Nat} {ps : List Part} {N : Nat} : ∀ fs : List Field, (∀ f ∈ fs, ∃ v, Shown P ps N f v ∧ Same P dp f.type v) → ∀ w, (Op.eqFields dp (cells N ps) (cells N ps) fs).run P w = .ok true w
  | [], _, w => by simp [Op.eqFields]
  | f :: fs, h, w => by
    have ih := same_fields fs (fun g hg => h g (by simp [hg])) w
    obtain ⟨v, h1, h2⟩ := h f (by simp)
    simp only [Op.eqFields]
    split
    · simp only [Sem.run_bind, h1 w, Result.andThen_ok, h2 w]
      simpa using ih
    · exact ih
theorem same_struct {dp : Nat} {t : TypeId} {ps : List Part} {N : Nat} {fs : Array Field} (ht : P.underlying t = some (.struct fs)) (hp : P.stoodInHeld t = false) (h : ∀ f ∈ fs.toList, ∃ v, Shown P ps N f v ∧ Same P dp f.type v) : Same P (dp + 1) t (.agg (cells N ps)) := fun w => by
  have hf : P.fieldsOf t = fs := by simp [Program.fieldsOf, ht]
  rw [run_equalIn_struct w dp t _ _ (by rw [hf]; exact ht) hp, hf]
  exact same_fields fs.toList h w
end
section
variable {P : Program} {G : Mem} {R : Reg} {ops : Array Oper} {n : Nat} {K : Env → Mm → Prop} {rest : List Oper} {E : Env} {M : Mm} {d : Nat} {ty : TypeId} {pos : String} {aft : Array Edge}
variable {T T' : TypeId} {x y : Operand}
theorem e_eqSame {c : Array Value} (hs : Same P 10000 T (.agg c)) (hg : P.eqGuardType P.depth T = false) (hx : rd E x = some (.agg c)) (hy : rd E y = some (.agg c)) (hd : Nat.blt d n = true) (h : OpsE P G R ops n K rest ((d, .bool true) :: E) M) : OpsE P G R ops n K (⟨some d, .binOp .eql T x y T', ty, pos, aft, none⟩ :: rest) E M :=
  fun _ _ ha hM => st_bin (fun w => by
    rw [ha.rd hx, ha.rd hy]
    simp only [Sem.run_bind, run_eqGuard_agg w .eql T x y _ _ hg, Result.andThen_ok, run_eql_struct, hs w]) (h _ _ (ha.put hd _) hM)
end
end Go.Proofs.YthljakcegoohlaaDoor
namespace Go.Proofs.YthljakcegoohlaaDoor
open Go Go.RowKit
theorem bytesRow_list {l : List Nat} (hl : ∀ b ∈ l, b < 256) {cap : Nat} (h : l.length ≤ cap) : (bytesRow (bstr l) cap).toList.take l.length = l.map by8 ∧ (bytesRow (bstr l) cap).size = cap := by
  have hz : (bstr l).size = l.length := by simp [bstr, ByteArray.size]
  have e : ((bstr l).data.map (fun b => Value.int .u8 b.toNat)).toList = l.map by8 := by
    unfold bstr
    simp only [Array.toList_map, List.map_map]
    exact List.map_congr_left fun n hn => by
      have := hl n hn
      simp [by8, Nat.mod_eq_of_lt this]
  constructor
  · unfold bytesRow
    rw [Array.toList_append, e, List.take_append_of_le_length (by simp), List.take_of_length_le (by simp)]
  · unfold bytesRow
    have e2 : ((bstr l).data.map (fun b => Value.int .u8 b.toNat)).size = l.length := by rw [← Array.length_toList, e, List.length_map]
    rw [Array.size_append, e2, Array.size_replicate, hz]; omega
section
variable {P : Program} {G : Mem} {R : Reg} {ops : Array Oper} {K : Act → Mem → Prop} {rest : List Oper} {a : Act} {m : Mem} {d : Option Tmp} {ty : TypeId} {pos : String} {aft : Array Edge}
variable {T T' : TypeId} {x y : Operand}
theorem st_conv_own {e : TypeId} {l : List Nat} (hv : kconv R T T' = 6) (hs : P.underlying T = some .string) (ht : P.underlying T' = some (.slice e)) (he : P.underlying e = some (.int .u8)) (hx : a.eval x = sv l) (hl : ∀ b ∈ l, b < 256) (hm : l.length ≤ maxLen)
    (h : ∀ v nw, OwnS e 1 v l.length (l.map by8) nw → FreshM m nw → opsM P G R ops K rest (a.put d v) (m ++ nw)) : opsM P G R ops K (⟨d, .convert T T' x, ty, pos, aft, none⟩ :: rest) a m := by
  have hz : (bstr l).size = l.length := by simp [bstr, ByteArray.size]
  have hc : cls R ⟨d, .convert T T' x, ty, pos, aft, none⟩ = 6 := by simp only [cls, hv]
  have run : ∀ w : World, ∃ w', (execOp a.eval ⟨d, .convert T T' x, ty, pos, aft, none⟩).run P w = .ok (.value (.slice (some ⟨w.heap.size, 0, none⟩) l.length (grownCap w l.length 0 e))) w' ∧ Post [] [] [⟨w.heap.size, bytesRow (bstr l) (grownCap w l.length 0 e), e⟩] w w' := fun w => by
    have hr := run_bytes_of_string (P := P) w T T' e (bstr l) hs ht he
    rw [hz] at hr
    have hp := post_marked w (bytesRow (bstr l) (grownCap w l.length 0 e)) e
    refine ⟨_, ?_, hp⟩
    simp only [execOp, hx]
    rw [show sv l = .string (bstr l) from rfl, Sem.run_bind, hr]
    rfl
  refine .inr ⟨rfl, ?_⟩
  rw [hc]
  refine ⟨fun w => ?_, fun v z ho hr => ?_⟩
  · obtain ⟨w', h1, h2⟩ := run w
    exact ⟨_, ⟨w.heap.size, bytesRow (bstr l) (grownCap w l.length 0 e), e⟩, w', h1, rfl, h2⟩
  · obtain ⟨w, w', e1, e2, hq⟩ := ho
    obtain ⟨w2, h1, h2⟩ := run w
    have e3 := e1.symm.trans h1
    injection e3 with e4 e5
    injection e4 with e6
    subst e5 e6
    have hge := grownCap_ge w l.length 0 e
    obtain ⟨g1, g2⟩ := bytesRow_list hl hge
    obtain ⟨q1, i1, _⟩ := hq.new z (by simp)
    obtain ⟨q2, i2, _⟩ := h2.new _ (List.mem_singleton.2 rfl)
    rw [e2] at i1
    have i3 := i1.symm.trans i2
    injection i3 with i3
    injection i3 with i4 i5
    have hzq : z = ⟨w.heap.size, bytesRow (bstr l) (grownCap w l.length 0 e), e⟩ := by
      obtain ⟨zb, zc, zt⟩ := z
      exact (Blk.mk.injEq _ _ _ _ _ _).mpr ⟨e2, i4, i5⟩
    rw [hzq] at hr ⊢
    exact h _ _ (.inr ⟨_, _, _, rfl, rfl, hge, grownCap_le_maxLen w l.length 0 e hm, by rw [g2, Nat.mul_one], by simp, by rw [Nat.mul_one]; exact g1⟩) ⟨by simp, fun x' hx' y hy => by simp at hx'; subst hx'; exact hr y hy⟩
end
section
variable {P : Program} {G : Mem} {R : Reg} {ops : Array Oper} {n : Nat} {K : Env → Mm → Prop} {rest : List Oper} {E : Env} {M : Mm} {d : Nat} {ty : TypeId} {pos : String} {aft : Array Edge}
variable {T T' : TypeId} {x y : Operand}
theorem e_conv_own (i : Nat) {e : TypeId} {l : List Nat} (hs : P.underlying T = some .string) (ht : P.underlying T' = some (.slice e)) (he : P.underlying e = some (.int .u8)) (hx : rd E x = some (sv l)) (hl : ∀ b ∈ l, b < 256) (hm : l.length ≤ maxLen) (hd : Nat.blt d n = true) (hv : kconv R T T' = 6)
    (h : ∀ v (oz : Option Blk), OwnS e 1 v l.length (l.map by8) oz.toList → OpsE P G R ops n K rest ((d, v) :: E) ((i, oz) :: M)) : OpsE P G R ops n K (⟨some d, .convert T T' x, ty, pos, aft, none⟩ :: rest) E M :=
  fun _ m ha hM => st_conv_own hv hs ht he (ha.rd hx) hl hm fun v nw ho hf => by
    obtain ⟨oz, rfl⟩ := own_opt ho
    have := hM.fresh i (l0 := []) (lr := m) (by simp) hf
    exact h v oz ho _ _ (ha.put hd _) (by simpa using this)
end
end Go.Proofs.YthljakcegoohlaaDoor
namespace Go.Proofs.YthljakcegoohlaaDoor
open Go Go.RowKit
def catE : Env → Env → Env
  | [], F => F
  | x :: E, F => x :: catE E F
def catL : Mm → Mm → Mm
  | [], F => F
  | x :: E, F => x :: catL E F
section
variable {P : Program} {G : Mem} {R : Reg} {ops : Array Oper} {n : Nat} {K : Env → Mm → Prop} {Q : Exit → Env → Mm → Prop} {rest : List Oper} {E : Env} {M : Mm} {d : Nat} {ty : TypeId} {pos : String} {aft : Array Edge}
variable {T T' : TypeId} {x y : Operand}
theorem e_loopK {c : Code} (Ek : Env) (Mk : Mm) (I : Nat → Env → Mm → Prop) (E0 : Env) (M0 : Mm) (k : Nat) (hs : sub (catE E0 Ek) E) (hl : subL (catL M0 Mk) M) (h0 : I k E0 M0)
    (round : ∀ k E M, I k E M → SatE P G c n (thenE (fun E' M' => ∃ k' E'' M'', k' < k ∧ sub (catE E'' Ek) E' ∧ subL (catL M'' Mk) M' ∧ I k' E'' M'') Q) (catE E Ek) (catL M Mk)) : SatE P G (.loop c) n Q E M :=
  e_loop (fun k E M => ∃ E1 M1, E = catE E1 Ek ∧ M = catL M1 Mk ∧ I k E1 M1) (catE E0 Ek) (catL M0 Mk) k hs hl ⟨_, _, rfl, rfl, h0⟩ fun k E M ⟨E1, M1, e1, e2, hI⟩ => by
    subst e1 e2
    intro a m ha hM
    refine sat_mono (round k E1 M1 hI a m ha hM) fun e a' m' ⟨E', M', h1, h2, h3⟩ => ⟨E', M', h1, h2, ?_⟩
    cases e with
    | normal =>
      obtain ⟨k', E'', M'', q1, q2, q3, q4⟩ := h3
      exact ⟨k', _, _, q1, q2, q3, _, _, rfl, rfl, q4⟩
    | _ => exact h3
theorem e_sub_in {p q : Nat} (hx : rd E x = some (ii p)) (hy : rd E y = some (ii q)) (hd : Nat.blt d n = true) (hb : p < 9223372036854775808) (hq : q ≤ p) (h : OpsE P G R ops n K rest ((d, ii (p - q)) :: E) M) :
    OpsE P G R ops n K (⟨some d, .binOp .sub T x y T', ty, pos, aft, none⟩ :: rest) E M := e_sub_z hx hy hd (by omega) (by omega) (by rw [show (p : Int) - (q : Int) = ((p - q : Nat) : Int) by omega]; exact h)
theorem e_conv_un {k : IntKind} {dk : TypeDesc} {p : Nat} (hs : P.underlying T = some dk) (ht : P.underlying T' = some (.int .u64)) (hx : rd E x = some (.int k (p : Int))) (hd : Nat.blt d n = true) (hv : kconv R T T' = 1) (hb : p < 18446744073709551616)
    (h : OpsE P G R ops n K rest ((d, u p) :: E) M) : OpsE P G R ops n K (⟨some d, .convert T T' x, ty, pos, aft, none⟩ :: rest) E M := e_conv_u hs ht hx hd hv (by rw [Nat.mod_eq_of_lt hb]; exact h)
theorem e_conv_wn {k : IntKind} {dk : TypeDesc} {p : Nat} (hs : P.underlying T = some dk) (ht : P.underlying T' = some (.int .u32)) (hx : rd E x = some (.int k (p : Int))) (hd : Nat.blt d n = true) (hv : kconv R T T' = 1) (hb : p < 4294967296)
    (h : OpsE P G R ops n K rest ((d, uw p) :: E) M) : OpsE P G R ops n K (⟨some d, .convert T T' x, ty, pos, aft, none⟩ :: rest) E M := e_conv_w hs ht hx hd hv (by rw [Nat.mod_eq_of_lt hb]; exact h)
theorem e_le {k : IntKind} {p q : Int} (hx : rd E x = some (.int k p)) (hy : rd E y = some (.int k q)) (hd : Nat.blt d n = true) (h : OpsE P G R ops n K rest ((d, .bool (decide (p ≤ q))) :: E) M) :
    OpsE P G R ops n K (⟨some d, .binOp .leq T x y T', ty, pos, aft, none⟩ :: rest) E M := fun _ _ ha hM => st_bin (fun w => by simp [ha.rd hx, ha.rd hy, eqGuard, binOp, Op.intCmp]) (h _ _ (ha.put hd _) hM)
theorem e_compl_w {p : Nat} (hx : rd E x = some (uw p)) (hd : Nat.blt d n = true) (h : OpsE P G R ops n K rest ((d, uw ((4294967295 ^^^ p) % 4294967296)) :: E) M) :
    OpsE P G R ops n K (⟨some d, .unOp .xor T x, ty, pos, aft, none⟩ :: rest) E M := fun _ _ ha hM =>
  st_quiet (v := uw ((4294967295 ^^^ p) % 4294967296)) rfl rfl (fun w => by
    have := bits_xor32 4294967295 p
    have e3 : (if IntKind.u32.signed = true then (-1 : Int) else IntKind.u32.max) = ((4294967295 : Nat) : Int) := by decide
    simp only [execOp, ha.rd hx, Op.unary, e3, Op.intBits, IntKind.bits]
    simp
    exact this) (h _ _ (ha.put hd _) hM)
theorem e_neg_z {p : Int} (hx : rd E x = some (.int .i64 p)) (hd : Nat.blt d n = true) (h0 : -9223372036854775808 < p) (h1 : p < 9223372036854775808) (h : OpsE P G R ops n K rest ((d, .int .i64 (-p)) :: E) M) :
    OpsE P G R ops n K (⟨some d, .unOp .neg T x, ty, pos, aft, none⟩ :: rest) E M := fun _ _ ha hM =>
  st_quiet (v := .int .i64 (-p)) rfl rfl (fun w => by
    have e := wrap_i64 (z := -p) (by omega) (by omega)
    simp [execOp, ha.rd hx, Op.unary, Op.intArith, e]) (h _ _ (ha.put hd _) hM)
theorem e_gen_w {l : List Oper} {s p : Nat} (h : ∀ q, q = p → OpsE P G R ops n K l ((s, uw q) :: E) M) : OpsE P G R ops n K l ((s, uw p) :: E) M := h p rfl
end
end Go.Proofs.YthljakcegoohlaaDoor
namespace Go.Proofs.YthljakcegoohlaaDoor
open Go Go.RowKit
theorem arr_shows (r N : Nat) (f : Nat → Nat) (t : TypeId) (o len cap : Nat) (h : o + len ≤ N) (hc : len ≤ cap) : Shows [⟨r, arr .u8 N f, t⟩] 1 (.slice (some ⟨r, o, none⟩) len cap) ((List.range len).map fun j => f (o + j)).length (((List.range len).map fun j => f (o + j)).map by8) := by
  have e : ((List.range len).map fun j => f (o + j)).length = len := by simp
  refine .inr ⟨r, o, cap, arr .u8 N f, t, by rw [e], by rw [e]; exact hc, by simp, by simp, by rw [e, arr_size]; omega, fun j u hj => ?_⟩
  rw [List.getElem?_map, List.getElem?_map] at hj
  by_cases hl : j < len
  · rw [List.getElem?_eq_getElem (by simpa using hl)] at hj
    simp at hj
    rw [arr_get (by omega), ← hj]
  · rw [List.getElem?_eq_none (by simpa using hl)] at hj
    cases hj
theorem own_setB {e : TypeId} {v : Value} {k j b : Nat} {l : List Nat} {m : Mem} (h : OwnS e 1 v k ((l.map by8).set j (by8 b)) m) : OwnS e 1 v k ((l.set j b).map by8) m := by
  rw [List.map_set]; exact h
theorem shows_one {B : Mem} {z n : Nat} {v : Value} {xs : List Value} (h : Shows B z v n xs) : v.cells = #[v] := by
  rcases h with ⟨_, _, oa, c, rfl, _⟩ | ⟨b, o, c, cs, t, rfl, _⟩ <;> rfl
section
variable {P : Program} {G : Mem} {R : Reg} {ops : Array Oper} {K : Act → Mem → Prop} {rest : List Oper} {a : Act} {m : Mem} {d : Option Tmp} {ty : TypeId} {pos : String} {aft : Array Edge}
variable {T T' : TypeId} {x y : Operand}
theorem first_shows {B : Mem} {vy : Value} {k n : Nat} {xs : List Value} (hsrc : Shows B 1 vy k xs) (hn : n ≤ k) {w : World} (hR : ∀ q ∈ B, RIn w q) : (Builtin.firstCells 1 n vy).run P w = .ok (xs.take n).toArray w ∧ (Builtin.lenOf vy).run P w = .ok k w := by
  rcases hsrc with ⟨rfl, rfl, oa, cap, rfl, _⟩ | ⟨b, o, cap, c, t, rfl, _, hb, hl, ho, hc⟩
  · have : n = 0 := by omega
    subst this
    refine ⟨?_, by simp [Builtin.lenOf]⟩
    cases oa with
    | none => simp [Builtin.firstCells]
    | some a => simp [Builtin.firstCells, loadCells, loadCellsFrom]
  · refine ⟨?_, by simp [Builtin.lenOf]⟩
    have hin := hR _ hb
    refine run_firstCells_some (P := P) w 1 n ⟨b, o, none⟩ k cap (xs.take n) (by rw [List.length_take, hl]; omega) fun j v hj => ?_
    rw [List.getElem?_take] at hj
    split at hj
    · have h1 := hc j v hj
      have hlt : o + j < c.size := (Array.getElem?_eq_some_iff.1 h1).1
      rw [add_off]
      have := hin.2 (o + j) hlt
      simp only at this
      rw [this]; exact h1
    · cases hj
theorem st_copyS {e : TypeId} {b o N dl cap i k : Nat} {F : Nat → Value} {t : TypeId} {xs : List Value} {B : Mem} {vy : Value} (hT : P.underlying T = some (.slice e)) (hs : (P.info? e).map (·.size) = some 1) (hx : a.eval x = .slice (some ⟨b, o, none⟩) dl cap) (hy : a.eval y = vy)
    (hsrc : Shows B 1 vy k xs) (hB : ∀ q ∈ B, q ∈ G ∨ q ∈ m) (h1 : ∀ u ∈ xs, u.oneCell' = true) (hm : m[i]? = some ⟨b, arrv N F, t⟩) (ho : o + dl ≤ N)
    (h : ∀ lr, List.Perm m (⟨b, arrv N F, t⟩ :: lr) → opsM P G R ops K rest (a.put d (ii (min k dl))) (⟨b, arrv N (putv F o (min k dl) (fun j => xs.getD j undef)), t⟩ :: lr)) (hL : R.L = none := by rfl) : opsM P G R ops K (⟨d, .call ⟨.builtin .copy, #[x, y], #[T, T']⟩, ty, pos, aft, none⟩ :: rest) a m := by
  have hmem : (⟨b, arrv N F, t⟩ : Blk) ∈ m := mem_of_get hm
  obtain ⟨l1, l2, hml⟩ := List.append_of_mem hmem
  have hp : List.Perm m (⟨b, arrv N F, t⟩ :: (l1 ++ l2)) := by rw [hml]; exact List.perm_middle
  obtain ⟨c', hc'⟩ : ∃ c', c' = arrv N (putv F o (min k dl) (fun j => xs.getD j undef)) := ⟨_, rfl⟩
  have hxl : xs.length = k := by have := hsrc.len; omega
  refine .inr ⟨rfl, ?_⟩
  show coreM _ _ _ _ _ _ _ 5
  refine ⟨[⟨b, arrv N F, t⟩], l1 ++ l2, fun v r1 nw => v = ii (min k dl) ∧ r1 = [⟨b, c', t⟩] ∧ nw = [], by simpa using hp, fun _ => ⟨_, _, _, ⟨rfl, rfl, rfl⟩, by simp, by simp⟩, ?_, ?_, ?_⟩
  · exact ⟨by rintro v r1 nw ⟨_, rfl, _⟩; rfl, fun _ _ => off_none hL _⟩
  · intro w hG hw _
    have hin := hw _ hmem
    refine .inl ⟨_, _, _, w.setRow b c', ?_, ⟨rfl, rfl, rfl⟩, post_row hin (by rw [hc', arrv_size, arrv_size])⟩
    obtain ⟨hf, hlo⟩ := first_shows (P := P) (n := min k dl) hsrc (by omega) (w := w) (fun q hq => by
      rcases hB q hq with h2 | h2
      · exact hG q h2
      · exact (hw q h2).read)
    have e1 : xs.take (min k dl) = (arrv (min k dl) (fun j => xs.getD j undef)).toList := by
      apply List.ext_getElem
      · simp [arrv]; omega
      · intro j h2 h3
        have hj : j < xs.length := by simp at h2; omega
        simp [arrv, List.getD_eq_getElem?_getD, List.getElem?_eq_getElem hj]
    have hst := run_storeCells_in (P := P) b o t (xs.take (min k dl)) 0 (arrv N F) w hin (by simp [arrv_size]; omega) (fun v hv => h1 v (List.mem_of_mem_take hv))
    have hc2 : ((arrv N F).toList.take (o + 0) ++ xs.take (min k dl) ++ (arrv N F).toList.drop (o + 0 + (xs.take (min k dl)).length)).toArray = c' := by
      have hl2 : (xs.take (min k dl)).length = min k dl := by rw [List.length_take]; omega
      rw [hc', hl2, e1, Nat.add_zero, arrv_put N o (min k dl) F _ (by omega)]
    rw [hc2] at hst
    generalize xs.take (min k dl) = vs at hf hst
    cases hi : P.info? e with
    | none => simp [hi] at hs
    | some q =>
      have hsz : q.size = 1 := by simpa [hi] using hs
      have hmin : Nat.min k dl = min k dl := rfl
      simp only [execOp, resolve, invoke, builtin, Sem.run_bind, Sem.run_pure, Result.andThen_ok, List.map_toArray, List.map_cons, List.map_nil, hx, hy]
      simp [Builtin.copy_, run_underlying hT, hlo, sizeOf, typeInfo, hi, hsz, hmin, hf, hst, goInt]
  · rintro v r1 nw ⟨rfl, rfl, rfl⟩ _
    rw [hc']
    simpa using h (l1 ++ l2) hp
end
section
variable {P : Program} {G : Mem} {R : Reg} {ops : Array Oper} {n : Nat} {K : Env → Mm → Prop} {rest : List Oper} {E : Env} {M : Mm} {d : Nat} {ty : TypeId} {pos : String} {aft : Array Edge}
variable {T T' : TypeId} {x y : Operand}
theorem SeenE.mem {B : Mem} (h : SeenE G R M B) {m : Mem} (hM : FitsM M m) : ∀ q ∈ B, q ∈ G ∨ q ∈ m := fun q hq => by
  rcases h q hq with h1 | ⟨i, h1, _⟩
  · exact .inl h1
  · exact .inr (hM.has i q h1)
theorem e_copyS {e : TypeId} {b o N dl cap i k : Nat} {F : Nat → Value} {t : TypeId} {xs : List Value} {B : Mem} {vy : Value} (hT : P.underlying T = some (.slice e)) (hs : (P.info? e).map (·.size) = some 1) (hsrc : Shows B 1 vy k xs) (hB : SeenE G R M B) (h1 : ∀ u ∈ xs, u.oneCell' = true)
    (hx : rd E x = some (.slice (some ⟨b, o, none⟩) dl cap)) (hy : rd E y = some vy) (hm : lkM M i = some ⟨b, arrv N F, t⟩) (ho : o + dl ≤ N) (hd : Nat.blt d n = true)
    (h : OpsE P G R ops n K rest ((d, ii (min k dl)) :: E) ((i, some ⟨b, arrv N (putv F o (min k dl) (fun j => xs.getD j undef)), t⟩) :: M)) (hL : R.L = none := by rfl) : OpsE P G R ops n K (⟨some d, .call ⟨.builtin .copy, #[x, y], #[T, T']⟩, ty, pos, aft, none⟩ :: rest) E M :=
  fun _ _ ha hM => by
    obtain ⟨k', hk⟩ := hM.at hm
    exact st_copyS (hL := hL) hT hs (ha.rd hx) (ha.rd hy) hsrc (hB.mem hM) h1 hk ho fun lr hp => h _ _ (ha.put hd _) (hM.same (oz' := some _) hm (by simpa using hp) rfl)
theorem seen_app {A B : Mem} (h1 : SeenE G R M A) (h2 : SeenE G R M B) : SeenE G R M (A ++ B) := fun z hz => by
  rcases List.mem_append.1 hz with h | h
  · exact h1 z h
  · exact h2 z h
theorem seen_hd {x : Blk} {G' : Mem} : SeenE (x :: G') R M [x] := fun z hz => .inl (by simp at hz; simp [hz])
theorem e_callS {g' : Mem} {fo : Operand} {f : FuncId} {args : Array Operand} {tys : Array TypeId} {vs cap : List Value} {v : Value} (hf : rd E fo = some (.func (.func f) #[] cap.toArray)) (hargs : rdl E args.toList = some vs) (he : enters P f = true) (hg : SeenE G R M g')
    (hF : Fn P g' f (vs ++ cap).toArray v) (hd : Nat.blt d n = true) (hR : callOk R = true) (h : OpsE P G R ops n K rest ((d, v) :: E) M) : OpsE P G R ops n K (⟨some d, .call ⟨.value fo, args, tys⟩, ty, pos, aft, none⟩ :: rest) E M :=
  fun _ _ ha hM => st_callV hR (ha.rd hf) (ha.args hargs) he (fun w hG hm => by
    have := hF w (fun z hz => (hg.seen hM).rin hG hm hz)
    simpa using this) (h _ _ (ha.put hd _) hM)
theorem e_stOwn {i k j : Nat} {e : TypeId} {v w : Value} {xs : List Value} {oz : Option Blk} (hown : OwnS e 1 v k xs oz.toList) (hs : (P.info? T).map (·.size) = some 1) (hx : rd E x = some (slAddr v j)) (hy : rd E y = some w) (hw : w.oneCell' = true) (hi : lkM M i = oz) (hj : j < k) (hX : R.X = [])
    (h : ∀ oz' : Option Blk, OwnS e 1 v k (xs.set j w) oz'.toList → OpsE P G R ops n K rest E ((i, oz') :: M)) : OpsE P G R ops n K (⟨none, .store T x y, ty, pos, aft, none⟩ :: rest) E M :=
  fun _ m ha hM => by
    rcases hown with ⟨_, h0, _, _⟩ | ⟨r, cap, c, rfl, hl, hc, hm, hz, hxl, ht⟩
    · omega
    · have hoz : oz = some ⟨r, c, e⟩ := by
        cases oz with
        | none => simp at hl
        | some z => simp at hl; rw [hl]
      subst hoz
      obtain ⟨q, hq⟩ := hM.at hi
      have hjc : j < c.size := by omega
      have hx' : rd E x = some (.pointer (some ⟨r, j, none⟩)) := by
        rw [hx]; simp [slAddr]
      refine st_store1 hs (ha.rd hx') (ha.rd hy) hw hq (.inl hX) hjc ?_
      refine h (some ⟨r, c.setIfInBounds j w, e⟩) (.inr ⟨r, cap, _, rfl, rfl, hc, hm, by simpa using hz, by simpa using hxl, ?_⟩) _ _ ha (hM.store hi hq _)
      rw [Array.toList_setIfInBounds, List.take_set, ht]
theorem e_copyB {e : TypeId} {b o N dl cap i : Nat} {f : Nat → Nat} {t : TypeId} {l : List Nat} {B : Mem} {vy : Value} (hT : P.underlying T = some (.slice e)) (hs : (P.info? e).map (·.size) = some 1) (hsrc : Shows B 1 vy l.length (l.map by8)) (hB : SeenE G R M B)
    (hx : rd E x = some (.slice (some ⟨b, o, none⟩) dl cap)) (hy : rd E y = some vy) (hm : lkM M i = some ⟨b, arr .u8 N f, t⟩) (ho : o + dl ≤ N) (hd : Nat.blt d n = true)
    (h : OpsE P G R ops n K rest ((d, ii (min l.length dl)) :: E) ((i, some ⟨b, arr .u8 N (fun j => if o ≤ j ∧ j < o + min l.length dl then l.getD (j - o) 0 else f j), t⟩) :: M)) (hL : R.L = none := by rfl) : OpsE P G R ops n K (⟨some d, .call ⟨.builtin .copy, #[x, y], #[T, T']⟩, ty, pos, aft, none⟩ :: rest) E M :=
  e_copyS (hL := hL) (F := fun i => .int .u8 (f i : Int)) hT hs hsrc hB (fun u hu => by obtain ⟨n, _, rfl⟩ := List.mem_map.1 hu; rfl) hx hy hm ho hd (by
    have e1 : arrv N (putv (fun i => .int .u8 (f i : Int)) o (min l.length dl) (fun j => (l.map by8).getD j undef)) = arr .u8 N (fun j => if o ≤ j ∧ j < o + min l.length dl then l.getD (j - o) 0 else f j) := by
      rw [arr_arrv]
      refine arrv_congr fun j _ => ?_
      unfold putv
      by_cases hj : o ≤ j ∧ j < o + min l.length dl
      · rw [if_pos hj, if_pos hj]
        have : j - o < l.length := by omega
        simp [List.getD_eq_getElem?_getD, List.getElem?_eq_getElem this]
      · rw [if_neg hj, if_neg hj]
    rw [e1]; exact h)
end
end Go.Proofs.YthljakcegoohlaaDoor
namespace Go.Proofs.YthljakcegoohlaaDoor
open Go Go.RowKit
section
variable {P : Program}
theorem same_array {dp : Nat} {t e : TypeId} {n m : Nat} {cs : Array Value} (hT : P.underlying t = some (.array n e)) (hs : (P.info? e).map (·.size) = some m) (h : ∀ i, i < n → ∀ w, ∃ v, (part e cs (i * m)).run P w = .ok v w ∧ Same P dp e v) : Same P (dp + 1) t (.agg cs) := fun w => by
  cases hi : P.info? e with
  | none => simp [hi] at hs
  | some i =>
    have hsz : i.size = m := by simpa [hi] using hs
    have key : ∀ l : List Nat, (∀ j ∈ l, j < n) → (forIn l ((none : Option Bool), ()) (fun i __s => do
            let __do_lift ← part e cs (i * m)
            let __do_lift_1 ← part e cs (i * m)
            let __do_lift ← Op.equalIn dp e __do_lift __do_lift_1
            if __do_lift = false then pure (ForInStep.done (some false, ())) else pure (ForInStep.yield (none, ())))).run P w
        = .ok (none, ()) w := by
      intro l
      induction l with
      | nil => intro _; rfl
      | cons j l ih =>
        intro hl
        obtain ⟨v, h1, h2⟩ := h j (hl j (by simp)) w
        rw [List.forIn_cons]
        simp only [Sem.run_bind, h1, Result.andThen_ok, h2 w]
        simp [ih (fun x hx => hl x (by simp [hx]))]
    unfold Op.equalIn
    simp only [underlying, program, sizeOf, typeInfo]
    simp [Sem.run, hT, hi, hsz]
    rw [key _ (fun j hj => by simpa using hj)]
    rfl
end
end Go.Proofs.YthljakcegoohlaaDoor
namespace Go.Proofs.YthljakcegoohlaaDoor
open Go Go.RowKit
section
variable {P : Program} {G : Mem} {R : Reg} {ops : Array Oper} {K : Act → Mem → Prop} {rest : List Oper} {a : Act} {m : Mem} {d : Option Tmp} {ty : TypeId} {pos : String} {aft : Array Edge}
variable {T T' : TypeId} {x y : Operand}
end
variable {P : Program} {G : Mem} {R : Reg} {ops : Array Oper} {n : Nat} {K : Env → Mm → Prop} {rest : List Oper} {E : Env} {M : Mm} {d : Nat} {ty : TypeId} {pos : String} {aft : Array Edge}
variable {T T' : TypeId} {x y : Operand}
end Go.Proofs.YthljakcegoohlaaDoor
namespace Go.Proofs.YthljakcegoohlaaDoor
open Go Go.RowKit
section
variable {P : Program} {G : Mem} {n : Nat}
end
section
variable {P : Program} {G : Mem} {R : Reg} {ops : Array Oper} {K : Act → Mem → Prop} {rest : List Oper} {a : Act} {m : Mem} {d : Option Tmp} {ty : TypeId} {pos : String} {aft : Array Edge}
variable {T T' : TypeId} {x y : Operand}
theorem Shows.cells {z n o : Nat} {c : Array Value} {xs : List Value} {j l : Nat} (hl : xs.length = n * z) (ho : o + n * z ≤ c.size) (hc : ∀ j u, xs[j]? = some u → c[o + j]? = some u) (hj : j + l ≤ xs.length) : c.extract (o + j) (o + j + l) = ((xs.drop j).take l).toArray := by
  apply Array.ext_getElem?
  intro i
  by_cases hi : i < l
  · have h1 : (xs.drop j)[i]? = xs[j + i]? := List.getElem?_drop
    have h2 : xs[j + i]? = some xs[j + i] := List.getElem?_eq_getElem (by omega)
    have h3 := hc (j + i) _ h2
    have hL : (c.extract (o + j) (o + j + l))[i]? = some xs[j + i] := by rw [Array.getElem?_extract, if_pos (by omega), show o + j + i = o + (j + i) by omega, h3]
    have hR : ((xs.drop j).take l).toArray[i]? = some xs[j + i] := by rw [List.getElem?_toArray, List.getElem?_take_of_lt hi, h1, h2]
    rw [hL, hR]
  · rw [Array.getElem?_eq_none (by simp; omega), Array.getElem?_eq_none (by simp; omega)]
end
section
variable {P : Program} {G : Mem} {R : Reg} {ops : Array Oper} {n : Nat} {K : Env → Mm → Prop} {rest : List Oper} {E : Env} {M : Mm} {d : Nat} {ty : TypeId} {pos : String} {aft : Array Edge}
variable {T T' : TypeId} {x y : Operand}
end
end Go.Proofs.YthljakcegoohlaaDoor
namespace Go.Proofs.YthljakcegoohlaaDoor
open Go Go.RowKit
def catN : List Part → Nat
  | [] => 0
  | p :: ps => p.1 + catN ps
theorem cat_app : ∀ (as bs : List Part) (i : Nat), catF (as ++ bs) i = if i < catN as then catF as i else catF bs (i - catN as)
  | [], bs, i => by simp [catN]
  | p :: as, bs, i => by
    have e : catN (p :: as) = p.1 + catN as := rfl
    have e1 : catF (p :: as ++ bs) i = if i < p.1 then p.2 i else catF (as ++ bs) (i - p.1) := rfl
    have e2 : catF (p :: as) i = if i < p.1 then p.2 i else catF as (i - p.1) := rfl
    rw [e, e1, e2]
    by_cases h : i < p.1
    · rw [if_pos h, if_pos h, if_pos (by omega)]
    · rw [if_neg h, if_neg h, cat_app as bs]
      by_cases h2 : i - p.1 < catN as
      · rw [if_pos h2, if_pos (by omega)]
      · rw [if_neg h2, if_neg (by omega)]
        congr 1; omega
abbrev catSub (ps : List Part) (k c : Nat) : List Part := (ps.drop k).take c
theorem cat_split (ps : List Part) (k c : Nat) : ps.take k ++ (catSub ps k c ++ ps.drop (k + c)) = ps := by
  rw [← List.drop_drop, List.take_append_drop, List.take_append_drop]
theorem cat_mid (as bs cs : List Part) {i : Nat} (h : i < catN bs) : catF (as ++ (bs ++ cs)) (catN as + i) = catF bs i := by
  rw [cat_app, if_neg (by omega), cat_app, if_pos (by omega)]
  congr 1; omega
theorem cat_sub (ps : List Part) (k c : Nat) {i : Nat} (h : i < catN (catSub ps k c)) : catF ps (catN (ps.take k) + i) = catF (catSub ps k c) i := by
  have := cat_mid (ps.take k) (catSub ps k c) (ps.drop (k + c)) h
  rw [cat_split] at this
  exact this
theorem cells_sub {N : Nat} {ps : List Part} (k c : Nat) (h : catN (ps.take k) + catN (catSub ps k c) ≤ N) : (cells N ps).extract (catN (ps.take k)) (catN (ps.take k) + catN (catSub ps k c)) = cells (catN (catSub ps k c)) (catSub ps k c) := by
  rw [cells, arrv_part N _ _ _ h, cells]
  exact arrv_congr fun t ht => cat_sub ps k c ht
section
variable {P : Program} {G : Mem} {R : Reg} {ops : Array Oper} {K : Act → Mem → Prop} {rest : List Oper} {a : Act} {m : Mem} {d : Option Tmp} {ty : TypeId} {pos : String} {aft : Array Edge}
variable {T T' : TypeId} {x y : Operand}
end
section
variable {P : Program} {G : Mem} {R : Reg} {ops : Array Oper} {n : Nat} {K : Env → Mm → Prop} {rest : List Oper} {E : Env} {M : Mm} {d : Nat} {ty : TypeId} {pos : String} {aft : Array Edge}
variable {T T' : TypeId} {x y : Operand}
theorem e_ldK (k c : Nat) {b i o l N : Nat} {ps : List Part} {t : TypeId} {td : TypeDesc} (hT : P.underlying T = some td) (hn : rowLike td = true) (hs : (P.info? T).map (·.size) = some l) (hx : rd E x = some (.pointer (some ⟨b, o, none⟩))) (hm : lkM M i = some ⟨b, cells N ps, t⟩)
    (ho : o = catN (ps.take k)) (hl : l = catN (catSub ps k c)) (hN : o + l ≤ N) (hd : Nat.blt d n = true) (hX : ∃ js, okXL M i js R) (h : OpsE P G R ops n K rest ((d, .agg (cells l (catSub ps k c))) :: E) M) : OpsE P G R ops n K (⟨some d, .load T x, ty, pos, aft, none⟩ :: rest) E M :=
  e_ldP hT hn hs hx hm hN hd hX (by
    have : arrv l (fun t => catF ps (o + t)) = cells l (catSub ps k c) := arrv_congr fun t ht => by rw [ho]; exact cat_sub ps k c (by omega)
    rw [this]; exact h)
end
section
variable {P : Program}
theorem elem_sub {ps : List Part} {N k c o l : Nat} {e : TypeId} {td : TypeDesc} (he : P.underlying e = some td) (hn : rowLike td = true) (hs : (P.info? e).map (·.size) = some l) (ho2 : o = catN (ps.take k)) (hl : l = catN (catSub ps k c)) (hN : o + l ≤ N) (w : World) : (part e (cells N ps) o).run P w = .ok (.agg (cells l (catSub ps k c))) w := by
  cases hi : P.info? e with
  | none => simp [hi] at hs
  | some i =>
    have hsz : i.size = l := by simpa [hi] using hs
    have he2 : (cells N ps).extract o (o + l) = cells l (catSub ps k c) := by rw [ho2, hl]; exact cells_sub k c (by omega)
    unfold part
    simp only [Sem.run_bind, run_isAgg he, Result.andThen_ok, hn, if_true, sizeOf, typeInfo]
    simp [hi, hsz, he2]
end
end Go.Proofs.YthljakcegoohlaaDoor
namespace Go.Proofs.YthljakcegoohlaaDoor
end Go.Proofs.YthljakcegoohlaaDoor
namespace Go.Proofs.YthljakcegoohlaaDoor
end Go.Proofs.YthljakcegoohlaaDoor
namespace Go.Proofs.YthljakcegoohlaaDoor
open Go Go.RowKit
def rotl (n b : Nat) : Nat := (n * 2 ^ b % 4294967296 ||| n / 2 ^ (32 - b)) % 4294967296
theorem sh_at (g : (Nat → Nat) → Nat → Nat) (f s : Nat → Nat) {k j v : Nat} (hv : v = g f (4 * k + j)) (hs : ∀ t, t < 4 * k + j → s t = g f t) : ∀ t, t < 4 * k + (j + 1) → upd s (4 * k + j) v t = g f t := fun t ht => by
  unfold upd; split
  · rename_i h; rw [hv, h]
  · exact hs t (by omega)
def lowl (n k : Nat) : List Nat := (List.range k).map fun i => n / 256 ^ i % 256
theorem lowl_len (n k : Nat) : (lowl n k).length = k := by simp [lowl]
theorem lowl_succ (n k : Nat) : lowl n k ++ [n / 256 ^ k % 256] = lowl n (k + 1) := by
  unfold lowl; rw [List.range_succ, List.map_append]; rfl
theorem lowl_lt (n k : Nat) : ∀ b ∈ lowl n k, b < 256 := fun b hb => by
  obtain ⟨i, _, rfl⟩ := List.mem_map.1 hb
  exact Nat.mod_lt _ (by decide)
def leN : List Nat → Nat
  | [] => 0
  | b :: l => b + 256 * leN l
theorem leN_lt : ∀ (l : List Nat), (∀ b ∈ l, b < 256) → leN l < 256 ^ l.length
  | [], _ => by simp [leN]
  | b :: l, h => by
    have h1 := leN_lt l (fun x hx => h x (by simp [hx]))
    have h2 := h b (by simp)
    rw [List.length_cons, Nat.pow_succ]
    unfold leN
    omega
theorem leN_drop {l : List Nat} {i : Nat} (hi : i < l.length) : leN (l.drop i) = leN (l.drop (i + 1)) * 256 + l[i] := by
  rw [List.drop_eq_getElem_cons hi]
  show l[i] + 256 * leN (l.drop (i + 1)) = _
  omega
theorem leN_small {l : List Nat} (hl : l.length ≤ 8) (hb : ∀ b ∈ l, b < 256) (i : Nat) : leN (l.drop (i + 1)) < 72057594037927936 := by
  have h1 := leN_lt (l.drop (i + 1)) (fun b h => hb b (List.mem_of_mem_drop h))
  have h2 : (l.drop (i + 1)).length ≤ 7 := by simp; omega
  have h3 : 256 ^ (l.drop (i + 1)).length ≤ 256 ^ 7 := Nat.pow_le_pow_right (by decide) h2
  have h4 : 256 ^ 7 = 72057594037927936 := by decide
  omega
end Go.Proofs.YthljakcegoohlaaDoor
namespace Go.Proofs.YthljakcegoohlaaDoor
open Go Go.RowKit
theorem range_lt {n : Nat} {f : Nat → Nat} (hf : ∀ j, j < n → f j < 256) : ∀ b ∈ (List.range n).map f, b < 256 := fun b hb => by
  obtain ⟨i, hi, rfl⟩ := List.mem_map.1 hb
  exact hf i (by simpa using hi)
def wrd (l : List Nat) (t : Nat) : Nat := leN ((l.drop (4 * t)).take 4)
theorem wrd_lt {l : List Nat} (hb : ∀ b ∈ l, b < 256) (t : Nat) : wrd l t < 4294967296 := by
  have h1 := leN_lt ((l.drop (4 * t)).take 4) (fun b h => hb b (List.mem_of_mem_drop (List.mem_of_mem_take h)))
  have h2 : ((l.drop (4 * t)).take 4).length ≤ 4 := by simp; omega
  have h3 : 256 ^ ((l.drop (4 * t)).take 4).length ≤ 256 ^ 4 := Nat.pow_le_pow_right (by decide) h2
  have h4 : 256 ^ 4 = 4294967296 := by decide
  unfold wrd
  omega
theorem cut4_len (l : List Nat) (t : Nat) : ((l.drop (4 * t)).take 4).length ≤ 8 := by simp; omega
theorem cut4_lt {l : List Nat} (hb : ∀ b ∈ l, b < 256) (t : Nat) : ∀ b ∈ (l.drop (4 * t)).take 4, b < 256 := fun b h => hb b (List.mem_of_mem_drop (List.mem_of_mem_take h))
theorem conv_all (f : Nat → Nat) (n : Nat) : Value.string (strOfNums ((List.range n).map fun j => (f (0 + j) : Int))) = sv ((List.range n).map f) := by
  have e : ((List.range n).map fun j => (f (0 + j) : Int)) = ((List.range n).map f).map fun m : Nat => (m : Int) := by
    rw [List.map_map]
    exact List.map_congr_left fun j _ => by simp
  rw [e, str_nums]
theorem own_fix {e : TypeId} {z n n' : Nat} {v : Value} {xs xs' : List Value} {l : Mem} (h : OwnS e z v n xs l) (hn : n = n') (hx : xs = xs') : OwnS e z v n' xs' l := hn ▸ hx ▸ h
theorem by8_one {l : List Nat} : ∀ u ∈ l.map by8, u.oneCell' = true := fun u hu => by
  obtain ⟨n, _, rfl⟩ := List.mem_map.1 hu; rfl
end Go.Proofs.YthljakcegoohlaaDoor
namespace Go.Proofs.YthljakcegoohlaaDoor
open Go Go.RowKit
end Go.Proofs.YthljakcegoohlaaDoor
namespace Go.Proofs.YthljakcegoohlaaDoor
open Go Go.RowKit
def pw (f : Nat → Nat) (i t : Nat) : Nat :=
  (if 4 * t < i then f (4 * t) else 0) + 256 * (if 4 * t + 1 < i then f (4 * t + 1) else 0) + 65536 * (if 4 * t + 2 < i then f (4 * t + 2) else 0) + 16777216 * (if 4 * t + 3 < i then f (4 * t + 3) else 0)
theorem or_plus {a b : Nat} (k : Nat) (h : a < 2 ^ k) : a ||| b * 2 ^ k = a + b * 2 ^ k := by
  have := Nat.two_pow_add_eq_or_of_lt h b
  rw [Nat.or_comm, Nat.mul_comm b, ← this, Nat.add_comm]
theorem pw_step {f : Nat → Nat} {i : Nat} (hf : f i < 256) (hl : ∀ j, j < i → f j < 256) : (pw f i (i / 4) ||| (f i * 2 ^ (i % 4 * 8)) % 4294967296) % 4294967296 = pw f (i + 1) (i / 4) := by
  obtain ⟨t, r, hr, rfl⟩ : ∃ t r, r < 4 ∧ i = 4 * t + r := ⟨i / 4, i % 4, by omega, by omega⟩
  rw [show (4 * t + r) / 4 = t by omega, show (4 * t + r) % 4 = r by omega]
  have : r = 0 ∨ r = 1 ∨ r = 2 ∨ r = 3 := by omega
  unfold pw
  rcases this with rfl | rfl | rfl | rfl
  · rw [if_neg (by omega), if_neg (by omega), if_neg (by omega), if_neg (by omega), if_pos (by omega), if_neg (by omega), if_neg (by omega), if_neg (by omega)]
    simp only [Nat.add_zero, Nat.mul_zero, Nat.zero_mul, Nat.pow_zero, Nat.mul_one, Nat.zero_or] at hf ⊢
    omega
  · have h0 := hl (4 * t) (by omega)
    rw [if_pos (by omega), if_neg (by omega), if_neg (by omega), if_neg (by omega), if_pos (by omega), if_pos (by omega), if_neg (by omega), if_neg (by omega)]
    rw [show f (4 * t + 1) * 2 ^ (1 * 8) % 4294967296 = f (4 * t + 1) * 2 ^ 8 by omega, or_plus 8 (by omega)]
    omega
  · have h0 := hl (4 * t) (by omega)
    have h1 := hl (4 * t + 1) (by omega)
    rw [if_pos (by omega), if_pos (by omega), if_neg (by omega), if_neg (by omega), if_pos (by omega), if_pos (by omega), if_pos (by omega), if_neg (by omega)]
    rw [show f (4 * t + 2) * 2 ^ (2 * 8) % 4294967296 = f (4 * t + 2) * 2 ^ 16 by omega, or_plus 16 (by omega)]
    omega
  · have h0 := hl (4 * t) (by omega)
    have h1 := hl (4 * t + 1) (by omega)
    have h2 := hl (4 * t + 2) (by omega)
    rw [if_pos (by omega), if_pos (by omega), if_pos (by omega), if_neg (by omega), if_pos (by omega), if_pos (by omega), if_pos (by omega), if_pos (by omega)]
    rw [show f (4 * t + 3) * 2 ^ (3 * 8) % 4294967296 = f (4 * t + 3) * 2 ^ 24 by omega, or_plus 24 (by omega)]
    omega
theorem pw_other {f : Nat → Nat} {i t : Nat} (h : t ≠ i / 4) : pw f (i + 1) t = pw f i t := by
  unfold pw
  have e0 : (4 * t < i + 1) = (4 * t < i) := propext ⟨fun _ => by omega, fun _ => by omega⟩
  have e1 : (4 * t + 1 < i + 1) = (4 * t + 1 < i) := propext ⟨fun _ => by omega, fun _ => by omega⟩
  have e2 : (4 * t + 2 < i + 1) = (4 * t + 2 < i) := propext ⟨fun _ => by omega, fun _ => by omega⟩
  have e3 : (4 * t + 3 < i + 1) = (4 * t + 3 < i) := propext ⟨fun _ => by omega, fun _ => by omega⟩
  simp only [e0, e1, e2, e3]
theorem pw_none (f : Nat → Nat) (t : Nat) : pw f 0 t = 0 := by
  unfold pw
  rw [if_neg (by omega), if_neg (by omega), if_neg (by omega), if_neg (by omega)]
theorem le4 (a b c d : Nat) : leN [a, b, c, d] = a + 256 * b + 65536 * c + 16777216 * d := by
  simp only [leN]; omega
theorem pw_full {f : Nat → Nat} {n t : Nat} (h : 4 * t + 4 ≤ n) : pw f n t = f (4 * t) + 256 * f (4 * t + 1) + 65536 * f (4 * t + 2) + 16777216 * f (4 * t + 3) := by
  unfold pw
  rw [if_pos (by omega), if_pos (by omega), if_pos (by omega), if_pos (by omega)]
theorem own_made {e : TypeId} {r n : Nat} {f : Nat → Nat} {l : List Nat} (hl : l.length = n) (hn : n ≤ maxLen) (h : ∀ j, j < n → f j = l.getD j 0) : OwnS e 1 (.slice (some ⟨r, 0, none⟩) n n) n (l.map by8) [⟨r, arr .u8 n f, e⟩] := by
  refine .inr ⟨r, n, _, rfl, rfl, Nat.le_refl _, hn, by rw [arr_size, Nat.mul_one], by rw [List.length_map, hl, Nat.mul_one], ?_⟩
  rw [arr_congr h, Nat.mul_one]
  apply List.ext_getElem
  · simp [arr, hl]
  · intro j h1 h2
    have hj : j < l.length := by simpa using h2
    simp [arr, by8, List.getD_eq_getElem?_getD, List.getElem?_eq_getElem hj]
end Go.Proofs.YthljakcegoohlaaDoor
namespace Go.Proofs.YthljakcegoohlaaDoor
open Go Go.RowKit
theorem Shows.cut {B : Mem} {v : Value} {l l' : List Nat} {i j : Nat} (h : Shows B 1 v l.length (l.map by8)) (h1 : i ≤ j) (h2 : j ≤ l.length) (hl : (l.drop i).take (j - i) = l') : Shows B 1 (slPart 1 v i j) l'.length (l'.map by8) := by
  have := h.part h1 h2
  rw [Nat.mul_one, Nat.mul_one, ← List.map_drop, ← List.map_take, hl] at this
  have e : j - i = l'.length := by rw [← hl]; simp; omega
  rw [e] at this
  exact this
theorem own_bytes {e : TypeId} {v : Value} {l : List Nat} {n : Nat} {m : Mem} (h : OwnS e 1 v n (l.map by8) m) : Shows m 1 v l.length (l.map by8) := by
  have h1 := h.len
  rw [List.length_map, Nat.mul_one] at h1
  rw [h1]; exact h.shows
def zrs (n : Nat) : List Nat := (List.range n).map fun _ => 0
theorem zrs_len (n : Nat) : (zrs n).length = n := by simp [zrs]
theorem zrs_lt (n : Nat) : ∀ x ∈ zrs n, x < 256 := fun x hx => by
  obtain ⟨_, _, rfl⟩ := List.mem_map.1 hx; decide
theorem made_shows (r n : Nat) (e : TypeId) : Shows [⟨r, arr .u8 n (fun _ => 0), e⟩] 1 (.slice (some ⟨r, 0, none⟩) n n) (zrs n).length ((zrs n).map by8) := by
  rw [zrs_len]
  have := shows_new (z := 1) (len := n) (r := r) (arr .u8 n (fun _ => 0)) e (by rw [arr_size, Nat.mul_one])
  have e2 : (arr .u8 n (fun _ => 0)).toList = (zrs n).map by8 := by
    unfold arr zrs
    rw [List.map_map]
    rfl
  rw [e2] at this
  exact this
end Go.Proofs.YthljakcegoohlaaDoor
namespace Go.Proofs.YthljakcegoohlaaDoor
open Go Go.RowKit
theorem shows_nil (B : Mem) (z : Nat) : Shows B z nilS 0 [] := .inl ⟨rfl, rfl, none, 0, rfl, fun _ => rfl⟩
def ShowsL (B : Mem) (vs : List Value) (ls : List (List Nat)) : Prop := vs.length = ls.length ∧ ∀ i, i < ls.length → Shows B 1 (vs.getD i undef) (ls.getD i []).length ((ls.getD i []).map by8)
theorem showsL_nil (B : Mem) : ShowsL B [] [] := ⟨rfl, fun _ h => absurd h (Nat.not_lt_zero _)⟩
theorem showsL_cons {B : Mem} {v : Value} {l : List Nat} {vs : List Value} {ls : List (List Nat)} (h : Shows B 1 v l.length (l.map by8)) (hs : ShowsL B vs ls) : ShowsL B (v :: vs) (l :: ls) :=
  ⟨by simp [hs.1], fun i hi => by
    cases i with
    | zero => exact h
    | succ i => exact hs.2 i (by simpa using hi)⟩
theorem get_getD {vs : List Value} {i : Nat} (h : i < vs.length) : vs[i]? = some (vs.getD i undef) := by
  rw [List.getD_eq_getElem?_getD, List.getElem?_eq_getElem h]; rfl
def upto (ls : List (List Nat)) (i : Nat) : List Nat := (ls.take i).flatten
theorem upto_next {ls : List (List Nat)} {i : Nat} (h : i < ls.length) : upto ls (i + 1) = upto ls i ++ ls.getD i [] := by
  unfold upto
  rw [List.take_add_one, List.getD_eq_getElem?_getD, List.getElem?_eq_getElem h, List.flatten_append]
  exact congrArg _ (List.append_nil _)
theorem upto_all (ls : List (List Nat)) : upto ls ls.length = ls.flatten := by simp [upto]
theorem upto_le (ls : List (List Nat)) (i : Nat) : (upto ls i).length ≤ ls.flatten.length := by
  unfold upto
  have h : ls.flatten = (ls.take i).flatten ++ (ls.drop i).flatten := by rw [← List.flatten_append, List.take_append_drop]
  rw [h, List.length_append]; omega
theorem fill_ones : ∀ (vs : List Value) (k : Nat) (Z : Array Value), (∀ v ∈ vs, v.cells = #[v]) → k + vs.length = Z.size → Instr.fill (fun i => some (i * 1, 1)) Z ((vs.zipIdx k).map fun p => (p.2, p.1)) = some (Z.toList.take k ++ vs).toArray
  | [], k, Z, _, hk => by
    have : Z.toList.take k = Z.toList := List.take_of_length_le (by simp at hk; simp; omega)
    simp [Instr.fill, this]
  | v :: vs, k, Z, hv, hk => by
    have h1 := hv v (by simp)
    have ih := fill_ones vs (k + 1) (Z.setIfInBounds k v) (fun u hu => hv u (by simp [hu])) (by simp at hk ⊢; omega)
    have hkz : k < Z.size := by simp at hk; omega
    have e : (Z.setIfInBounds k v).toList.take (k + 1) ++ vs = Z.toList.take k ++ v :: vs := by
      rw [Array.toList_setIfInBounds, List.take_add_one, List.take_set_of_le (Nat.le_refl k), List.getElem?_set_self (by simpa using hkz)]
      simp
    rw [e] at ih
    have hsz : v.cells.size = 1 := by rw [h1]; rfl
    have hf : v.cells.zipIdx.foldl (fun cs (c, j) => cs.setIfInBounds (k * 1 + j) c) Z = Z.setIfInBounds k v := by
      rw [h1]; simp
    have hc : ¬ (v.cells.size ≠ 1 || k * 1 + v.cells.size > Z.size) = true := by rw [hsz]; simp; omega
    simp only [List.zipIdx_cons, List.map_cons, Instr.fill]
    rw [if_neg hc, hf]
    exact ih
theorem zrs_at {n j : Nat} (h : j < n) : 0 = (zrs n).getD j 0 := by
  simp [zrs, List.getD_eq_getElem?_getD, h]
section
variable {P : Program} {G : Mem} {R : Reg} {ops : Array Oper} {K : Act → Mem → Prop} {rest : List Oper} {a : Act} {m : Mem} {d : Option Tmp} {ty : TypeId} {pos : String} {aft : Array Edge}
variable {T T' : TypeId} {x y : Operand}
theorem st_shr_i {k' : IntKind} {p s : Nat} (hx : a.eval x = ii p) (hy : a.eval y = .int k' (s : Int)) (hs : s ≤ 64) (h : opsM P G R ops K rest (a.put d (ii (p / 2 ^ s))) m) :
    opsM P G R ops K (⟨d, .binOp .shr T x y T', ty, pos, aft, none⟩ :: rest) a m :=
  st_bin (fun w => by
    have h0 : ¬ ((s : Int) < 0) := by omega
    have h1 : min ((s : Int).toNat) (IntKind.i64.bits) = s := by simp [IntKind.bits]; omega
    simp only [hx, hy, eqGuard, binOp, Op.shift, h0, if_false, h1]
    have e : (p : Int).fdiv (2 ^ s) = ((p / 2 ^ s : Nat) : Int) := by
      rw [Int.fdiv_eq_ediv_of_nonneg _ (by exact Int.le_of_lt (Int.pow_pos (by decide)))]
      simp
    rw [e]
    simp) h
end
section
variable {P : Program} {G : Mem} {R : Reg} {ops : Array Oper} {n : Nat} {K : Env → Mm → Prop} {rest : List Oper} {E : Env} {M : Mm} {d : Nat} {ty : TypeId} {pos : String} {aft : Array Edge}
variable {T T' : TypeId} {x y : Operand}
theorem e_condT {Q : Exit → Env → Mm → Prop} {c : Operand} {p q : Code} (hc : rd E c = some (.bool true)) (h : SatE P G p n Q E M) : SatE P G (.cond c p q) n Q E M := e_cond hc (fun _ => h) (fun e => (by cases e))
theorem e_condF {Q : Exit → Env → Mm → Prop} {c : Operand} {p q : Code} (hc : rd E c = some (.bool false)) (h : SatE P G q n Q E M) : SatE P G (.cond c p q) n Q E M := e_cond hc (fun e => (by cases e)) (fun _ => h)
theorem e_shr_i {k' : IntKind} {p s : Nat} (hx : rd E x = some (ii p)) (hy : rd E y = some (.int k' (s : Int))) (hd : Nat.blt d n = true) (hs : s ≤ 64) (h : OpsE P G R ops n K rest ((d, ii (p / 2 ^ s)) :: E) M) :
    OpsE P G R ops n K (⟨some d, .binOp .shr T x y T', ty, pos, aft, none⟩ :: rest) E M := fun _ _ ha hM => st_shr_i (ha.rd hx) (ha.rd hy) hs (h _ _ (ha.put hd _) hM)
end
end Go.Proofs.YthljakcegoohlaaDoor
namespace Go.Proofs.YthljakcegoohlaaDoor
open Go Go.RowKit
section
variable {P : Program} {G : Mem} {R : Reg} {ops : Array Oper} {n : Nat} {K : Env → Mm → Prop} {Q : Exit → Env → Mm → Prop} {rest : List Oper} {E : Env} {M : Mm} {d : Nat} {ty : TypeId} {pos : String} {aft : Array Edge}
variable {T T' : TypeId} {x y : Operand}
end
section
variable {P : Program} {G : Mem} {R : Reg} {ops : Array Oper} {n : Nat} {K : Env → Mm → Prop} {Q : Exit → Env → Mm → Prop} {E : Env} {M : Mm}
theorem sub_cat {A B F : Env} (h1 : sub A F) (h2 : sub B F) : sub (catE A B) F := by
  induction A with
  | nil => exact h2
  | cons x A ih => exact ⟨h1.1, ih h1.2⟩
theorem e_join (Fk Fn : Env) (Nk : Mm) {l : List Oper} (_hk : sub Fk E) (_hn : subL Nk M) (h : OpsE P G R ops n (fun E' M' => sub Fk E' ∧ sub Fn E' ∧ subL Nk M') l E M) (hK : K (catE Fn Fk) Nk) : OpsE P G R ops n K l E M :=
  fun a m ha hM => opsM_mono (fun _ _ ⟨_, _, h1, h2, h3, h4, h5⟩ => ⟨_, _, h1.sub (sub_cat h4 h3), h2.sub h5, hK⟩) l (h a m ha hM)
theorem e_case {l : List Oper} {s : Nat} {b : Bool} (ht : b = true → OpsE P G R ops n K l ((s, .bool true) :: E) M) (hf : b = false → OpsE P G R ops n K l ((s, .bool false) :: E) M) : OpsE P G R ops n K l ((s, .bool b) :: E) M := by
  cases b with
  | true => exact ht rfl
  | false => exact hf rfl
theorem bool_fin {b b' : Bool} (h : b = b') : some (Value.bool b) = some (Value.bool b') := by rw [h]
end
section
variable {P : Program} {G : Mem} {n : Nat}
end
end Go.Proofs.YthljakcegoohlaaDoor
namespace Go.Proofs.YthljakcegoohlaaDoor
open Go Go.RowKit
section
variable {P : Program} {G : Mem} {R : Reg} {ops : Array Oper} {K : Act → Mem → Prop} {rest : List Oper} {a : Act} {m : Mem} {d : Option Tmp} {ty : TypeId} {pos : String} {aft : Array Edge}
variable {T T' : TypeId} {x : Operand}
theorem st_conv_uz {k : IntKind} {dk : TypeDesc} {z : Int} (hv : kconv R T T' = 1) (hs : P.underlying T = some dk) (ht : P.underlying T' = some (.int .u64)) (hx : a.eval x = .int k z)
    (h : opsM P G R ops K rest (a.put d (u (z % 18446744073709551616).toNat)) m) : opsM P G R ops K (⟨d, .convert T T' x, ty, pos, aft, none⟩ :: rest) a m :=
  st_conv hv (v := u (z % 18446744073709551616).toNat) (fun w _ _ => by
    have e : (((z % 18446744073709551616).toNat : Nat) : Int) = z % 18446744073709551616 := by omega
    simp only [execOp, convert, underlying, program, hx]
    simp [Sem.run, hs, ht, Conv.intToInt, wrap_u64, e]) h
end
section
variable {P : Program} {G : Mem} {R : Reg} {ops : Array Oper} {n : Nat} {K : Env → Mm → Prop} {rest : List Oper} {E : Env} {M : Mm} {d : Nat} {ty : TypeId} {pos : String} {aft : Array Edge}
variable {T T' : TypeId} {x : Operand}
theorem e_conv_uz {k : IntKind} {dk : TypeDesc} {z : Int} (hs : P.underlying T = some dk) (ht : P.underlying T' = some (.int .u64)) (hx : rd E x = some (.int k z)) (hd : Nat.blt d n = true) (hv : kconv R T T' = 1)
    (h : OpsE P G R ops n K rest ((d, u (z % 18446744073709551616).toNat) :: E) M) : OpsE P G R ops n K (⟨some d, .convert T T' x, ty, pos, aft, none⟩ :: rest) E M := fun _ _ ha hM => st_conv_uz hv hs ht (ha.rd hx) (h _ _ (ha.put hd _) hM)
end
theorem cat_putq {ps : List Part} {k o l kk j0 : Nat} {F : Nat → Value} (A : Nat → Value) (h : catAt ps k = some (o, l, F)) (hk : j0 + kk ≤ l) (i : Nat) : putv (catF ps) (o + j0) kk A i = catF (catSet ps k (putv F j0 kk A)) i := by
  rw [← cat_put _ h i]
  unfold putv
  by_cases h1 : o + j0 ≤ i ∧ i < o + j0 + kk
  · rw [if_pos h1, if_pos (by omega)]
    show A (i - (o + j0)) = if j0 ≤ i - o ∧ i - o < j0 + kk then A (i - o - j0) else F (i - o)
    rw [if_pos (by omega), show i - o - j0 = i - (o + j0) by omega]
  · rw [if_neg h1]
    by_cases h2 : o ≤ i ∧ i < o + l
    · rw [if_pos h2]
      show catF ps i = if j0 ≤ i - o ∧ i - o < j0 + kk then A (i - o - j0) else F (i - o)
      rw [if_neg (by omega)]
      have := cat_part h (i - o) (by omega)
      rw [← this]; congr 1; omega
    · rw [if_neg h2]
theorem putq_bytes (f : Nat → Nat) (j0 kk : Nat) (l : List Nat) (hk : kk ≤ l.length) : putv (fun i => .int .u8 (f i : Int)) j0 kk (fun j => (l.map by8).getD j undef) = fun i => .int .u8 ((if j0 ≤ i ∧ i < j0 + kk then l.getD (i - j0) 0 else f i : Nat) : Int) := by
  funext i
  unfold putv
  by_cases h : j0 ≤ i ∧ i < j0 + kk
  · rw [if_pos h, if_pos h]
    have : i - j0 < l.length := by omega
    simp [List.getD_eq_getElem?_getD, List.getElem?_eq_getElem this]
  · rw [if_neg h, if_neg h]
section
variable {P : Program} {G : Mem} {R : Reg} {ops : Array Oper} {n : Nat} {K : Env → Mm → Prop} {rest : List Oper} {E : Env} {M : Mm} {d : Nat} {ty : TypeId} {pos : String} {aft : Array Edge}
variable {T T' : TypeId} {x y : Operand}
theorem e_copyCB (k j0 : Nat) {e : TypeId} {b o oc N dl cap i L : Nat} {f : Nat → Nat} {ps : List Part} {t : TypeId} {l : List Nat} {B : Mem} {vy : Value} (hT : P.underlying T = some (.slice e)) (hs : (P.info? e).map (·.size) = some 1) (hsrc : Shows B 1 vy l.length (l.map by8)) (hB : SeenE G R M B)
    (hx : rd E x = some (.slice (some ⟨b, oc, none⟩) dl cap)) (hy : rd E y = some vy) (hm : lkM M i = some ⟨b, cells N ps, t⟩) (hk : catAt ps k = some (o, pI .u8 L f)) (hoc : oc = o + j0) (hL : j0 + dl ≤ L) (ho : o + L ≤ N) (hd : Nat.blt d n = true)
    (h : OpsE P G R ops n K rest ((d, ii (min l.length dl)) :: E) ((i, some ⟨b, cells N (catSet ps k (fun i => .int .u8 ((if j0 ≤ i ∧ i < j0 + min l.length dl then l.getD (i - j0) 0 else f i : Nat) : Int))), t⟩) :: M)) (hL : R.L = none := by rfl) : OpsE P G R ops n K (⟨some d, .call ⟨.builtin .copy, #[x, y], #[T, T']⟩, ty, pos, aft, none⟩ :: rest) E M := by
  subst hoc
  refine e_copyS (hL := hL) (F := catF ps) hT hs hsrc hB (fun u hu => by obtain ⟨n, _, rfl⟩ := List.mem_map.1 hu; rfl) hx hy hm (by omega) hd ?_
  rw [funext (cat_putq _ hk (by omega)), putq_bytes f j0 _ l (by omega)]
  exact h
end
theorem Fn.more {P : Program} {G G' : Mem} {f : FuncId} {args : Array Value} {v : Value} (h : Fn P G f args v) (hG : ∀ x ∈ G, x ∈ G') : Fn P G' f args v := fun w hw => h w (fun x hx => hw x (hG x hx))
end Go.Proofs.YthljakcegoohlaaDoor
namespace Go.Proofs.YthljakcegoohlaaDoor
open Go Go.RowKit
section
variable {P : Program} {G : Mem} {R : Reg} {ops : Array Oper} {K : Act → Mem → Prop} {rest : List Oper} {a : Act} {m : Mem} {d : Option Tmp} {ty : TypeId} {pos : String} {aft : Array Edge}
variable {T T' : TypeId} {x y : Operand}
end
section
variable {P : Program} {G : Mem} {R : Reg} {ops : Array Oper} {n : Nat} {K : Env → Mm → Prop} {rest : List Oper} {E : Env} {M : Mm} {d : Nat} {ty : TypeId} {pos : String} {aft : Array Edge}
variable {T T' : TypeId} {x y : Operand}
end
end Go.Proofs.YthljakcegoohlaaDoor
namespace Go.Proofs.YthljakcegoohlaaDoor
open Go Go.RowKit
section
variable {P : Program}
end
section
variable {P : Program} {G : Mem} {R : Reg} {ops : Array Oper} {n : Nat} {K : Env → Mm → Prop} {rest : List Oper} {E : Env} {M : Mm} {d : Nat} {ty : TypeId} {pos : String} {aft : Array Edge}
variable {T T' : TypeId} {x y : Operand}
end
end Go.Proofs.YthljakcegoohlaaDoor
namespace Go.Proofs.YthljakcegoohlaaDoor
open Go Go.RowKit
section
variable {P : Program} {G : Mem} {R : Reg} {ops : Array Oper} {K : Act → Mem → Prop} {rest : List Oper} {a : Act} {m : Mem} {d : Option Tmp} {ty T T' : TypeId} {pos : String} {aft : Array Edge} {x y : Operand}
end
section
variable {P : Program} {G : Mem} {R : Reg} {ops : Array Oper} {n : Nat} {K : Env → Mm → Prop} {rest : List Oper} {E : Env} {M : Mm} {d : Nat} {ty : TypeId} {pos : String} {aft : Array Edge}
variable {T T' : TypeId} {x y : Operand}
end
end Go.Proofs.YthljakcegoohlaaDoor
namespace Go.Proofs.YthljakcegoohlaaDoor
open Go Go.RowKit
section
variable {P : Program} {G : Mem} {R : Reg} {ops : Array Oper} {K : Act → Mem → Prop} {rest : List Oper} {a : Act} {m : Mem} {d : Option Tmp} {ty T T' : TypeId} {pos : String} {aft : Array Edge} {x y : Operand}
end
section
variable {P : Program} {G : Mem} {R : Reg} {ops : Array Oper} {K : Act → Mem → Prop} {rest : List Oper} {a : Act} {m : Mem} {d : Option Tmp} {ty T T' : TypeId} {pos : String} {aft : Array Edge} {x y : Operand}
end
def Two (b : Nat) (t : TypeId) (oz : Option Blk) (S : Value → Array Value → Option Blk → Prop) : Value → Mem → Mem → Prop := fun v l1 nw =>
  ∃ c' oz', S v c' oz' ∧ ((l1 = ⟨b, c', t⟩ :: oz'.toList ∧ nw = [] ∧ oz'.toList.map (·.b) = oz.toList.map (·.b)) ∨ ∃ lo, l1 = ⟨b, c', t⟩ :: lo ∧ lo.map (·.b) = oz.toList.map (·.b) ∧ nw = oz'.toList)
section
variable {P : Program} {G : Mem} {R : Reg} {ops : Array Oper} {n : Nat} {K : Env → Mm → Prop} {rest : List Oper} {E : Env} {M : Mm} {d : Nat} {ty T T' : TypeId} {pos : String} {aft : Array Edge} {x y : Operand}
end
section
variable {P : Program} {G : Mem} {n : Nat}
def TwoEnd (b : Nat) (t : TypeId) (oz : Option Blk) (c' : Array Value) (oz' : Option Blk) (M : Mm) : Prop :=
  lkM M 0 = some ⟨b, c', t⟩ ∧ ((lkM M 1 = oz' ∧ oz'.toList.map (·.b) = oz.toList.map (·.b)) ∨ ∃ k lo, k ≠ 0 ∧ k ≠ 1 ∧ lkM M k = oz' ∧ lkM M 1 = lo ∧ lo.toList.map (·.b) = oz.toList.map (·.b))
theorem TwoEnd.post {b : Nat} {t : TypeId} {c0 c' : Array Value} {oz oz' : Option Blk} {M : Mm} {m : Mem} {S : Value → Array Value → Option Blk → Prop} {v : Value} (hM : FitsM M m) (hS : S v c' oz') (h : TwoEnd b t oz c' oz' M) :
    ∃ l1 nw, Two b t oz S v l1 nw ∧ (nw.map (·.b)).Nodup ∧ (∀ x ∈ nw, x.b ∉ (⟨b, c0, t⟩ :: oz.toList).map (·.b)) ∧ ∀ x ∈ l1 ++ nw, x ∈ m := by
  obtain ⟨h0, ⟨h1, hid⟩ | ⟨k, lo, k0, k1, hk, h1, hid⟩⟩ := h
  · refine ⟨⟨b, c', t⟩ :: oz'.toList, [], ⟨c', oz', hS, .inl ⟨rfl, rfl, hid⟩⟩, by simp, by simp, fun x hx => ?_⟩
    rw [List.append_nil] at hx
    rcases List.mem_cons.1 hx with rfl | hx
    · exact hM.has 0 _ h0
    · exact hM.has 1 x (h1.trans (by simpa using hx))
  · refine ⟨⟨b, c', t⟩ :: lo.toList, oz'.toList, ⟨c', oz', hS, .inr ⟨_, rfl, hid, rfl⟩⟩, ?_, fun x hx => ?_, fun x hx => ?_⟩
    · cases oz' <;> simp
    · have e : oz' = some x := by simpa using hx
      have n0 := hM.apart k 0 x _ (hk.trans e) h0 k0
      rw [List.map_cons, ← hid]
      cases lo with
      | none => simpa using n0
      | some q => simpa using ⟨n0, hM.apart k 1 x q (hk.trans e) h1 k1⟩
    · rcases List.mem_append.1 hx with hx | hx
      · rcases List.mem_cons.1 hx with rfl | hx
        · exact hM.has 0 _ h0
        · exact hM.has 1 x (h1.trans (by simpa using hx))
      · exact hM.has k x (hk.trans (by simpa using hx))
end
end Go.Proofs.YthljakcegoohlaaDoor
namespace Go.Proofs.YthljakcegoohlaaDoor
end Go.Proofs.YthljakcegoohlaaDoor
namespace Go.Proofs.YthljakcegoohlaaDoor
section
variable {f : Nat → Nat}
end
section
variable {x : Nat}
end
end Go.Proofs.YthljakcegoohlaaDoor
namespace Go.Proofs.YthljakcegoohlaaDoor
open Go Go.RowKit
theorem take_lt {l : List Nat} (hb : ∀ b ∈ l, b < 256) (i k : Nat) : ∀ b ∈ (l.drop i).take k, b < 256 := fun b h => hb b (List.mem_of_mem_drop (List.mem_of_mem_take h))
end Go.Proofs.YthljakcegoohlaaDoor
namespace Go.Proofs.YthljakcegoohlaaDoor
open Go Go.RowKit
theorem getD_lt {l : List Nat} (hl : ∀ b ∈ l, b < 256) (j : Nat) : l.getD j 0 < 256 := by
  rw [List.getD_eq_getElem?_getD]
  cases h : l[j]? with
  | none => simp
  | some v => exact hl v (List.mem_of_getElem? h)
end Go.Proofs.YthljakcegoohlaaDoor
namespace Go.Proofs.YthljakcegoohlaaDoor
open Go Go.RowKit
def sS (h : Nat → Nat) (n : Nat) (l : List Nat) : List Nat := (List.range n).map h ++ l
theorem sS_len (h : Nat → Nat) (n : Nat) (l : List Nat) : (sS h n l).length = n + l.length := by simp [sS]
theorem sS_lt {h : Nat → Nat} {n : Nat} {l : List Nat} (hh : ∀ j, j < n → h j < 256) (hl : ∀ b ∈ l, b < 256) : ∀ b ∈ sS h n l, b < 256 := by
  intro b hb
  unfold sS at hb
  rw [List.mem_append] at hb
  rcases hb with hb | hb
  · obtain ⟨j, hj, rfl⟩ := List.mem_map.1 hb
    exact hh j (List.mem_range.1 hj)
  · exact hl b hb
end Go.Proofs.YthljakcegoohlaaDoor
namespace Go.Proofs.YthljakcegoohlaaDoor
open Go Go.RowKit
end Go.Proofs.YthljakcegoohlaaDoor
namespace Go.Proofs.YthljakcegoohlaaDoor
open Go Go.RowKit
end Go.Proofs.YthljakcegoohlaaDoor
namespace Go.Proofs.YthljakcegoohlaaDoor
open Go Go.RowKit
end Go.Proofs.YthljakcegoohlaaDoor
namespace Go.Proofs.YthljakcegoohlaaDoor
open Go Go.RowKit
end Go.Proofs.YthljakcegoohlaaDoor
namespace Go.Proofs.YthljakcegoohlaaDoor
open Go Go.RowKit
end Go.Proofs.YthljakcegoohlaaDoor
namespace Go.Proofs.YthljakcegoohlaaDoor
open Go Go.RowKit
abbrev cC (has : Bool) (k : Nat → Nat) (n : Nat) : Array Value := cells 34 [pV (.bool has), pI .u8 32 k, pV (u n)]
abbrev CV (has : Bool) (k : Nat → Nat) (n : Nat) : Value := .agg (cC has k n)
end Go.Proofs.YthljakcegoohlaaDoor
