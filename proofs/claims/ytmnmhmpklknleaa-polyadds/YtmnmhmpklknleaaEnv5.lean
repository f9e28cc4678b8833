/-
  The same, over slots and labelled blocks: words of 32 bits, strings, slices; calls that make slices or write.
-/
import Derived.Test.YtmnmhmpklknleaaOps7
import Derived.Test.YtmnmhmpklknleaaEnv4
namespace Go.Proofs.Ytmnmhmpklknleaa
open Go Go.RowKit
section
variable {P : Program} {G : Mem} {R : Reg} {ops : Array Oper} {n : Nat} {K : Env → Mm → Prop} {rest : List Oper} {E : Env} {M : Mm} {d : Nat} {ty : TypeId} {pos : String} {aft : Array Edge}
variable {T T' : TypeId} {x y : Operand}

theorem e_add_w {p q : Nat} (hx : rd E x = some (uw p)) (hy : rd E y = some (uw q)) (hd : Nat.blt d n = true) (h : OpsE P G R ops n K rest ((d, uw ((p + q) % 4294967296)) :: E) M) :
    OpsE P G R ops n K (⟨some d, .binOp .add T x y T', ty, pos, aft, none⟩ :: rest) E M := fun _ _ ha hM => st_add_w (ha.rd hx) (ha.rd hy) (h _ _ (ha.put hd _) hM)
theorem e_sub_w {p q : Nat} (hx : rd E x = some (uw p)) (hy : rd E y = some (uw q)) (hd : Nat.blt d n = true) (hq : q ≤ 4294967296) (h : OpsE P G R ops n K rest ((d, uw ((p + 4294967296 - q) % 4294967296)) :: E) M) :
    OpsE P G R ops n K (⟨some d, .binOp .sub T x y T', ty, pos, aft, none⟩ :: rest) E M := fun _ _ ha hM => st_sub_w (ha.rd hx) (ha.rd hy) hq (h _ _ (ha.put hd _) hM)
theorem e_and_w {p q : Nat} (hx : rd E x = some (uw p)) (hy : rd E y = some (uw q)) (hd : Nat.blt d n = true) (h : OpsE P G R ops n K rest ((d, uw ((p &&& q) % 4294967296)) :: E) M) :
    OpsE P G R ops n K (⟨some d, .binOp .and T x y T', ty, pos, aft, none⟩ :: rest) E M := fun _ _ ha hM => st_and_w (ha.rd hx) (ha.rd hy) (h _ _ (ha.put hd _) hM)
theorem e_or_w {p q : Nat} (hx : rd E x = some (uw p)) (hy : rd E y = some (uw q)) (hd : Nat.blt d n = true) (h : OpsE P G R ops n K rest ((d, uw ((p ||| q) % 4294967296)) :: E) M) :
    OpsE P G R ops n K (⟨some d, .binOp .or T x y T', ty, pos, aft, none⟩ :: rest) E M := fun _ _ ha hM => st_or_w (ha.rd hx) (ha.rd hy) (h _ _ (ha.put hd _) hM)
theorem e_xor_w {p q : Nat} (hx : rd E x = some (uw p)) (hy : rd E y = some (uw q)) (hd : Nat.blt d n = true) (h : OpsE P G R ops n K rest ((d, uw ((p ^^^ q) % 4294967296)) :: E) M) :
    OpsE P G R ops n K (⟨some d, .binOp .xor T x y T', ty, pos, aft, none⟩ :: rest) E M := fun _ _ ha hM => st_xor_w (ha.rd hx) (ha.rd hy) (h _ _ (ha.put hd _) hM)
theorem e_shl_w {k : IntKind} {p s : Nat} (hx : rd E x = some (uw p)) (hy : rd E y = some (.int k (s : Int))) (hd : Nat.blt d n = true) (hs : s ≤ 32) (h : OpsE P G R ops n K rest ((d, uw ((p * 2 ^ s) % 4294967296)) :: E) M) :
    OpsE P G R ops n K (⟨some d, .binOp .shl T x y T', ty, pos, aft, none⟩ :: rest) E M := fun _ _ ha hM => st_shl_w (ha.rd hx) (ha.rd hy) hs (h _ _ (ha.put hd _) hM)
theorem e_shr_w {k : IntKind} {p s : Nat} (hx : rd E x = some (uw p)) (hy : rd E y = some (.int k (s : Int))) (hd : Nat.blt d n = true) (hs : s ≤ 32) (h : OpsE P G R ops n K rest ((d, uw (p / 2 ^ s)) :: E) M) :
    OpsE P G R ops n K (⟨some d, .binOp .shr T x y T', ty, pos, aft, none⟩ :: rest) E M := fun _ _ ha hM => st_shr_w (ha.rd hx) (ha.rd hy) hs (h _ _ (ha.put hd _) hM)
theorem e_conv_w {k : IntKind} {dk : TypeDesc} {p : Nat} (hs : P.underlying T = some dk) (ht : P.underlying T' = some (.int .u32)) (hx : rd E x = some (.int k (p : Int))) (hd : Nat.blt d n = true) (hv : kconv R T T' = 1)
    (h : OpsE P G R ops n K rest ((d, uw (p % 4294967296)) :: E) M) : OpsE P G R ops n K (⟨some d, .convert T T' x, ty, pos, aft, none⟩ :: rest) E M := fun _ _ ha hM => st_conv_w hv hs ht (ha.rd hx) (h _ _ (ha.put hd _) hM)
theorem e_conv_i {k : IntKind} {dk : TypeDesc} {p : Nat} (hs : P.underlying T = some dk) (ht : P.underlying T' = some (.int .i64)) (hx : rd E x = some (.int k (p : Int))) (hd : Nat.blt d n = true) (hv : kconv R T T' = 1) (hp : p < 9223372036854775808)
    (h : OpsE P G R ops n K rest ((d, ii p) :: E) M) : OpsE P G R ops n K (⟨some d, .convert T T' x, ty, pos, aft, none⟩ :: rest) E M := fun _ _ ha hM => st_conv_i hv hs ht (ha.rd hx) hp (h _ _ (ha.put hd _) hM)
theorem e_conv_u8z {k : IntKind} {dk : TypeDesc} {z : Int} (hs : P.underlying T = some dk) (ht : P.underlying T' = some (.int .u8)) (hx : rd E x = some (.int k z)) (hd : Nat.blt d n = true) (hv : kconv R T T' = 1)
    (h : OpsE P G R ops n K rest ((d, by8 (z % 256).toNat) :: E) M) : OpsE P G R ops n K (⟨some d, .convert T T' x, ty, pos, aft, none⟩ :: rest) E M := fun _ _ ha hM => st_conv_u8z hv hs ht (ha.rd hx) (h _ _ (ha.put hd _) hM)

/-! ### Strings -/
theorem e_catS {l k : List Nat} (hx : rd E x = some (sv l)) (hy : rd E y = some (sv k)) (hd : Nat.blt d n = true) (hl : l.length + k.length ≤ 9223372036854775807) (h : OpsE P G R ops n K rest ((d, sv (l ++ k)) :: E) M) :
    OpsE P G R ops n K (⟨some d, .binOp .add T x y T', ty, pos, aft, none⟩ :: rest) E M := fun _ _ ha hM => st_catS (ha.rd hx) (ha.rd hy) hl (h _ _ (ha.put hd _) hM)
theorem e_sliceStr (i j : Nat) {l : List Nat} {lo hi : Option Operand} {vl vh : Option Value} (hT : P.underlying T = some .string) (hx : rd E x = some (sv l)) (hlo : rdo E lo = some vl) (hhi : rdo E hi = some vh) (hl : isB vl i 0) (hh : isB vh j l.length) (h1 : i ≤ j) (h2 : j ≤ l.length) (hd : Nat.blt d n = true)
    (hK : OpsE P G R ops n K rest ((d, sv ((l.drop i).take (j - i))) :: E) M) : OpsE P G R ops n K (⟨some d, .slice T x lo hi none, ty, pos, aft, none⟩ :: rest) E M :=
  fun _ _ ha hM => st_sliceStr hT (ha.rd hx) (by rw [ha.rdo hlo]; exact hl) (by rw [ha.rdo hhi]; exact hh) h1 h2 (hK _ _ (ha.put hd _) hM)
theorem e_idxStr {l : List Nat} {j b : Nat} {k : IntKind} (hT : P.underlying T = some .string) (hx : rd E x = some (sv l)) (hy : rd E y = some (.int k (j : Int))) (hj : l[j]? = some b) (hb : b < 256) (hd : Nat.blt d n = true)
    (h : OpsE P G R ops n K rest ((d, by8 b) :: E) M) : OpsE P G R ops n K (⟨some d, .index T x y, ty, pos, aft, none⟩ :: rest) E M := fun _ _ ha hM => st_idxStr hT (ha.rd hx) (ha.rd hy) hj hb (h _ _ (ha.put hd _) hM)
theorem e_eqStr {l k : List Nat} (hx : rd E x = some (sv l)) (hy : rd E y = some (sv k)) (hd : Nat.blt d n = true) (hl : ∀ b ∈ l, b < 256) (hk : ∀ b ∈ k, b < 256) (h : OpsE P G R ops n K rest ((d, .bool (decide (l = k))) :: E) M) :
    OpsE P G R ops n K (⟨some d, .binOp .eql T x y T', ty, pos, aft, none⟩ :: rest) E M := fun _ _ ha hM => st_eqStr hl hk (ha.rd hx) (ha.rd hy) (h _ _ (ha.put hd _) hM)
theorem e_lenStr {l : List Nat} (hT : P.underlying T = some .string) (hx : rd E x = some (sv l)) (hd : Nat.blt d n = true) (hR : callOk R = true) (h : OpsE P G R ops n K rest ((d, ii l.length) :: E) M) :
    OpsE P G R ops n K (⟨some d, .call ⟨.builtin .len, #[x], #[T]⟩, ty, pos, aft, none⟩ :: rest) E M := fun _ _ ha hM => st_lenStr hR hT (ha.rd hx) (h _ _ (ha.put hd _) hM)

/-! ### Slices that are read -/
def SeenE (G : Mem) (R : Reg) (M : Mm) (B : Mem) : Prop := ∀ z ∈ B, z ∈ G ∨ ∃ i, lkM M i = some z ∧ ∃ js, okX M i js R.X
theorem SeenE.seen {B : Mem} (h : SeenE G R M B) {m : Mem} (hM : FitsM M m) : Seen G R m B := fun z hz => by
  rcases h z hz with h1 | ⟨i, h1, js, h2⟩
  · exact .inl h1
  · exact .inr ⟨hM.has i z h1, okX_not hM h1 h2⟩
theorem seenG : SeenE G R M G := fun _ hz => .inl hz
theorem seenM (i : Nat) {oz : Option Blk} (hi : lkM M i = oz) (hX : ∃ js, okX M i js R.X) : SeenE G R M oz.toList := fun z hz => by
  have : oz = some z := by simpa using hz
  exact .inr ⟨i, hi.trans this, hX⟩
theorem seen1 (i : Nat) {z : Blk} (hi : lkM M i = some z) (hX : ∃ js, okX M i js R.X) : SeenE G R M [z] := fun q hq => by
  simp at hq; subst hq
  exact .inr ⟨i, hi, hX⟩
theorem e_lenV {e : TypeId} {v : Value} {B : Mem} {z k : Nat} {xs : List Value} (hv : Shows B z v k xs) (hT : P.underlying T = some (.slice e)) (hx : rd E x = some v) (hd : Nat.blt d n = true) (hR : callOk R = true) (h : OpsE P G R ops n K rest ((d, ii k) :: E) M) :
    OpsE P G R ops n K (⟨some d, .call ⟨.builtin .len, #[x], #[T]⟩, ty, pos, aft, none⟩ :: rest) E M := fun _ _ ha hM => st_lenS hR hT (ha.rd hx) hv (h _ _ (ha.put hd _) hM)
theorem e_min {k k' : IntKind} {p q : Nat} (hx : rd E x = some (.int k (p : Int))) (hy : rd E y = some (.int k' (q : Int))) (hd : Nat.blt d n = true) (hR : callOk R = true) (h : OpsE P G R ops n K rest ((d, .int k ((min p q : Nat) : Int)) :: E) M) :
    OpsE P G R ops n K (⟨some d, .call ⟨.builtin .min, #[x, y], #[T, T']⟩, ty, pos, aft, none⟩ :: rest) E M := fun _ _ ha hM => st_min hR (ha.rd hx) (ha.rd hy) (h _ _ (ha.put hd _) hM)
theorem e_atV {e : TypeId} {k : IntKind} {v : Value} {B : Mem} {z l j : Nat} {xs : List Value} (hv : Shows B z v l xs) (hT : P.underlying T = some (.slice e)) (hs : (P.info? e).map (·.size) = some z) (hx : rd E x = some v) (hy : rd E y = some (.int k (j : Int))) (hj : j < l) (hd : Nat.blt d n = true)
    (h : OpsE P G R ops n K rest ((d, slAddr v (j * z)) :: E) M) : OpsE P G R ops n K (⟨some d, .indexAddr T x y, ty, pos, aft, none⟩ :: rest) E M := fun _ _ ha hM => st_atV hT hs (ha.rd hx) (ha.rd hy) hv hj (h _ _ (ha.put hd _) hM)
theorem e_loadV {td : TypeDesc} {v u : Value} {B : Mem} {l j : Nat} {xs : List Value} (hv : Shows B 1 v l xs) (hB : SeenE G R M B) (hT : P.underlying T = some td) (hn : rowLike td = false) (hx : rd E x = some (slAddr v j)) (hj : xs[j]? = some u) (hd : Nat.blt d n = true)
    (h : OpsE P G R ops n K rest ((d, u) :: E) M) : OpsE P G R ops n K (⟨some d, .load T x, ty, pos, aft, none⟩ :: rest) E M := fun _ _ ha hM => st_loadV (hB.seen hM) hT hn (ha.rd hx) hv hj (h _ _ (ha.put hd _) hM)
theorem e_sliceV (i j : Nat) {e : TypeId} {v : Value} {B : Mem} {z l : Nat} {xs : List Value} {lo hi : Option Operand} {vl vh : Option Value} (hv : Shows B z v l xs) (hT : P.underlying T = some (.slice e)) (hs : (P.info? e).map (·.size) = some z) (hx : rd E x = some v) (hlo : rdo E lo = some vl) (hhi : rdo E hi = some vh) (hl : isB vl i 0) (hh : isB vh j l)
    (h1 : i ≤ j) (h2 : j ≤ l) (hd : Nat.blt d n = true) (hK : OpsE P G R ops n K rest ((d, slPart z v i j) :: E) M) : OpsE P G R ops n K (⟨some d, .slice T x lo hi none, ty, pos, aft, none⟩ :: rest) E M :=
  fun _ _ ha hM => st_sliceV hT hs (ha.rd hx) hv (by rw [ha.rdo hlo]; exact hl) (by rw [ha.rdo hhi]; exact hh) h1 h2 (hK _ _ (ha.put hd _) hM)
theorem e_conv_strV {e : TypeId} {v : Value} {B : Mem} {l : List Nat} (hv : Shows B 1 v l.length (l.map by8)) (hB : SeenE G R M B) (hs : P.underlying T = some (.slice e)) (he : P.underlying e = some (.int .u8)) (ht : P.underlying T' = some .string) (hx : rd E x = some v) (hd : Nat.blt d n = true) (hq : kconv R T T' = 1)
    (h : OpsE P G R ops n K rest ((d, sv l) :: E) M) : OpsE P G R ops n K (⟨some d, .convert T T' x, ty, pos, aft, none⟩ :: rest) E M := fun _ _ ha hM => st_conv_strV hq (hB.seen hM) hs he ht (ha.rd hx) hv (h _ _ (ha.put hd _) hM)

/-! ### Makes, writes -/
theorem e_make (i : Nat) {e : TypeId} {kl kc k : IntKind} {l b : Nat} {z : Value} (hT : P.underlying T = some (.slice e)) (hs : (P.info? e).map (·.size) = some 1) (hb : (P.info? e).map (·.bytes) = some b) (hz : (P.info? e).bind (·.zero) = some z) (hzc : z.cells = #[.int k 0])
    (hx : rd E x = some (.int kl (l : Int))) (hy : rd E y = some (.int kc (l : Int))) (hn : b * l ≤ 281474976710656) (h63 : l ≤ 9223372036854775807) (hd : Nat.blt d n = true)
    (h : ∀ r, OpsE P G R ops n K rest ((d, .slice (some ⟨r, 0, none⟩) l l) :: E) ((i, some ⟨r, arr k l (fun _ => 0), e⟩) :: M)) : OpsE P G R ops n K (⟨some d, .makeSlice T x y, ty, pos, aft, none⟩ :: rest) E M :=
  fun _ _ ha hM => st_make hT hs hb hz hzc (ha.rd hx) (ha.rd hy) hn h63 fun r hr => h r _ _ (ha.put hd _) (hM.alloc i ⟨r, _, e⟩ hr)
theorem FitsM.change {m m' : Mem} (hM : FitsM M m) (i : Nat) {oz : Option Blk} (h1 : ∀ j x, j ≠ i → lkM M j = some x → x ∈ m') (h2 : ∀ z, oz = some z → z ∈ m' ∧ ∀ j x, j ≠ i → lkM M j = some x → x.b ≠ z.b) : FitsM ((i, oz) :: M) m' := by
  refine ⟨fun j x hx => ?_, fun j k x z hx hz hne => ?_⟩
  · rw [lkM_cons] at hx
    split at hx
    · exact (h2 x hx).1
    · rename_i hne; exact h1 j x (fun e => hne e.symm) hx
  · rw [lkM_cons] at hx hz
    split at hx
    · split at hz
      · rename_i e1 e2; exact absurd (e1.symm.trans e2) hne
      · rename_i e2; exact fun e => (h2 x hx).2 k z (fun e' => e2 e'.symm) hz e.symm
    · split at hz
      · rename_i e1 _; exact (h2 z hz).2 j x (fun e' => e1 e'.symm) hx
      · exact hM.apart j k x z hx hz hne
theorem FitsM.others {m lr : Mem} (hM : FitsM M m) {i : Nat} {oz : Option Blk} (hi : lkM M i = oz) (hp : List.Perm m (oz.toList ++ lr)) : ∀ j x, j ≠ i → lkM M j = some x → x ∈ lr := fun j x hne hx => by
  have hm := hp.mem_iff.1 (hM.has j x hx)
  rcases List.mem_append.1 hm with h | h
  · have : oz = some x := by simpa using h
    exact absurd rfl (hM.apart j i x x hx (hi.trans this) hne)
  · exact h
theorem FitsM.perm1 {m : Mem} (hM : FitsM M m) {i : Nat} {oz : Option Blk} (hi : lkM M i = oz) : ∃ lr, List.Perm m (oz.toList ++ lr) := by
  cases oz with
  | none => exact ⟨m, by simp⟩
  | some z =>
    obtain ⟨l1, l2, h⟩ := List.append_of_mem (hM.has i z hi)
    exact ⟨l1 ++ l2, by rw [h]; simp⟩
theorem FitsM.same {m lr : Mem} (hM : FitsM M m) {i : Nat} {oz oz' : Option Blk} (hi : lkM M i = oz) (hp : List.Perm m (oz.toList ++ lr)) (hid : oz'.toList.map (·.b) = oz.toList.map (·.b)) : FitsM ((i, oz') :: M) (oz'.toList ++ lr) :=
  hM.change i (fun j x hne hx => List.mem_append_right _ (hM.others hi hp j x hne hx)) fun z hz => ⟨by subst hz; simp, fun j x hne hx => by
    subst hz
    cases oz with
    | none => simp at hid
    | some q =>
      simp at hid
      rw [hid]; exact hM.apart j i x q hx hi hne⟩
theorem FitsM.fresh {m lr : Mem} (hM : FitsM M m) (i : Nat) {oz : Option Blk} {l0 : Mem} (hp : List.Perm m (l0 ++ lr)) (hf : FreshM m oz.toList) : FitsM ((i, oz) :: M) (l0 ++ lr ++ oz.toList) :=
  hM.change i (fun j x _ hx => List.mem_append_left _ (hp.mem_iff.1 (hM.has j x hx))) fun z hz => ⟨by subst hz; simp, fun j x _ hx => hf.2 z (by subst hz; simp) x (hM.has j x hx)⟩
theorem e_copyStr {e : TypeId} {b o N dl cap i : Nat} {f : Nat → Nat} {t : TypeId} {l : List Nat} (hT : P.underlying T = some (.slice e)) (hs : (P.info? e).map (·.size) = some 1) (hx : rd E x = some (.slice (some ⟨b, o, none⟩) dl cap)) (hy : rd E y = some (sv l)) (hl : ∀ q ∈ l, q < 256)
    (hm : lkM M i = some ⟨b, arr .u8 N f, t⟩) (ho : o + dl ≤ N) (hd : Nat.blt d n = true)
    (h : OpsE P G R ops n K rest ((d, ii (min l.length dl)) :: E) ((i, some ⟨b, arr .u8 N (fun j => if o ≤ j ∧ j < o + min l.length dl then l.getD (j - o) 0 else f j), t⟩) :: M)) : OpsE P G R ops n K (⟨some d, .call ⟨.builtin .copy, #[x, y], #[T, T']⟩, ty, pos, aft, none⟩ :: rest) E M :=
  fun _ _ ha hM => by
    obtain ⟨k, hk⟩ := hM.at hm
    exact st_copyStr hT hs (ha.rd hx) (ha.rd hy) hl hk ho fun lr hp => h _ _ (ha.put hd _) (hM.same (oz' := some _) hm (by simpa using hp) rfl)
theorem own_opt {e : TypeId} {z k : Nat} {v : Value} {xs : List Value} {l : Mem} (h : OwnS e z v k xs l) : ∃ oz : Option Blk, l = oz.toList := by
  rcases h with ⟨_, _, _, rfl⟩ | ⟨r, cap, c, _, rfl, _⟩
  · exact ⟨none, rfl⟩
  · exact ⟨some _, rfl⟩
theorem e_append (i : Nat) {e : TypeId} {z l k bytes : Nat} {zv v vy : Value} {xs news : List Value} {oz : Option Blk} {B : Mem} (hown : OwnS e z v l xs oz.toList) (hsrc : Shows B z vy k news) (hi : lkM M i = oz) (hB : SeenE G R M B)
    (hT : P.underlying T = some (.slice e)) (hs : (P.info? e).map (·.size) = some z) (hb : (P.info? e).map (·.bytes) = some bytes) (hz : (P.info? e).bind (·.zero) = some zv) (hzs : zv.cells.size = z)
    (hx : rd E x = some v) (hy : rd E y = some vy) (h1 : ∀ u ∈ news, u.oneCell' = true) (h63 : l + k ≤ maxLen) (hbytes : (l + k) * bytes ≤ 140737488355328) (hd : Nat.blt d n = true)
    (h : ∀ v' (oz' : Option Blk), OwnS e z v' (l + k) (xs ++ news) oz'.toList → OpsE P G R ops n K rest ((d, v') :: E) ((i, oz') :: M)) : OpsE P G R ops n K (⟨some d, .call ⟨.builtin .append, #[x, y], #[T, T]⟩, ty, pos, aft, none⟩ :: rest) E M :=
  fun _ m ha hM => by
    obtain ⟨lr, hp⟩ := hM.perm1 hi
    refine st_append hT hs hb hz hzs (ha.rd hx) (ha.rd hy) hown hp hsrc (fun q hq => ?_) h1 h63 hbytes fun v' l' ho => ?_
    · rcases hB q hq with h2 | ⟨j, h2, _⟩
      · exact .inl h2
      · exact .inr (hM.has j q h2)
    · obtain ⟨oz', rfl⟩ := own_opt ho
      refine ⟨fun hid => ?_, fun hf => ?_⟩
      · simpa using h v' oz' ho _ _ (ha.put hd _) (hM.same hi hp hid)
      · exact h v' oz' ho _ _ (ha.put hd _) (hM.fresh i hp hf)
theorem subM_opt {oz : Option Blk} {i : Nat} (hi : lkM M i = oz) : subM oz.toList M := by
  cases oz with
  | none => trivial
  | some z => exact ⟨⟨i, hi⟩, trivial⟩
theorem subM_app : ∀ {g g' : Mem}, subM g M → subM g' M → subM (g ++ g') M
  | [], _, _, h => h
  | _ :: _, _, ⟨h1, h2⟩, h => ⟨h1, subM_app h2 h⟩
/-- A call that makes a slice, mk of which is its value. -/
theorem e_callN (i : Nat) (mk : Value → Value) {fo : Operand} {f : FuncId} {args : Array Operand} {tys : Array TypeId} {vs cap : List Value} {g' : Mem} {e : TypeId} {z k : Nat} {xs : List Value} (hf : rd E fo = some (.func (.func f) #[] cap.toArray)) (hargs : rdl E args.toList = some vs) (he : enters P f = true) (hg : SeenE G R M g')
    (hF : Fx P g' [] f (vs ++ cap).toArray (fun v l1 nw => l1 = [] ∧ ∃ v', v = mk v' ∧ OwnS e z v' k xs nw)) (hk : k ≤ maxLen) (hkx : xs.length = k * z) (hd : Nat.blt d n = true) (hR : callMk R = true)
    (h : ∀ v' (oz : Option Blk), OwnS e z v' k xs oz.toList → OpsE P G R ops n K rest ((d, mk v') :: E) ((i, oz) :: M)) : OpsE P G R ops n K (⟨some d, .call ⟨.value fo, args, tys⟩, ty, pos, aft, none⟩ :: rest) E M :=
  fun _ m ha hM => by
    refine st_callN hR (S := fun v nw => ∃ v', v = mk v' ∧ OwnS e z v' k xs nw) (ha.rd hf) (ha.args hargs) he (by simpa using hF) ?_ (fun w hG hv q hq => (hg.seen hM).rin hG hv hq) ?_
    · obtain ⟨r, hr⟩ := fresh_of m
      exact ⟨_, [⟨r, xs.toArray, e⟩], ⟨.slice (some ⟨r, 0, none⟩) k k, rfl, .inr ⟨r, k, xs.toArray, rfl, rfl, Nat.le_refl _, hk, by simpa using hkx, hkx, by rw [← hkx]; exact List.take_length⟩⟩, by simp, by simpa using hr⟩
    · rintro v nw ⟨v', rfl, ho⟩ hfr
      obtain ⟨oz, rfl⟩ := own_opt ho
      have := hM.fresh i (l0 := []) (lr := m) (by simp) hfr
      exact h v' oz ho _ _ (ha.put hd _) (by simpa using this)
/-- A call that writes one block. -/
theorem e_callW (i : Nat) {fo : Operand} {f : FuncId} {args : Array Operand} {tys : Array TypeId} {vs cap : List Value} {g' : Mem} {b : Nat} {c c' : Array Value} {t : TypeId} {v : Value} (hf : rd E fo = some (.func (.func f) #[] cap.toArray)) (hargs : rdl E args.toList = some vs) (he : enters P f = true)
    (hm : lkM M i = some ⟨b, c, t⟩) (hg : ∀ z ∈ g', z ∈ G ∨ ∃ j, j ≠ i ∧ lkM M j = some z) (hF : Fx P g' [⟨b, c, t⟩] f (vs ++ cap).toArray (fun v' l1 nw => v' = v ∧ l1 = [⟨b, c', t⟩] ∧ nw = [])) (hd : Nat.blt d n = true) (hR : R.c = 5)
    (h : OpsE P G R ops n K rest ((d, v) :: E) ((i, some ⟨b, c', t⟩) :: M)) : OpsE P G R ops n K (⟨some d, .call ⟨.value fo, args, tys⟩, ty, pos, aft, none⟩ :: rest) E M :=
  fun _ m ha hM => by
    obtain ⟨lr, hp⟩ := hM.perm1 hm
    refine st_callX hR (S := fun v' l1 nw => v' = v ∧ l1 = [⟨b, c', t⟩] ∧ nw = []) (ha.rd hf) (ha.args hargs) he (by simpa using hF) (lr := lr) (by simpa using hp) ⟨v, _, [], ⟨rfl, rfl, rfl⟩, by simp, by simp⟩ ?_ (fun w hG hw z hz => ?_) (by simp) (fun hA z hz => ?_) ?_
    · rintro v' l1 nw ⟨_, rfl, _⟩; rfl
    · rcases hg z hz with h1 | ⟨j, _, h1⟩
      · exact hG z h1
      · exact (hw z (hM.has j z h1)).read
    · rcases hg z hz with h1 | ⟨j, hne, h1⟩
      · simpa using hA z h1 ⟨b, c, t⟩ (hM.has i _ hm)
      · simpa using hM.apart j i z _ h1 hm hne
    · rintro v' l1 nw ⟨rfl, rfl, rfl⟩ _
      have := hM.same (oz' := some ⟨b, c', t⟩) hm hp rfl
      exact h _ _ (ha.put hd _) (by simpa using this)
end

/-! ### A function's end -/
section
variable {P : Program} {G : Mem} {n : Nat}
theorem mapM0 (f : ResultVar → Sem Value) : Array.mapM f #[] = pure #[] := by
  rw [Array.mapM_eq_mapM_toList]; simp
/-- A function that writes one block and answers nothing. -/
def EndW (b : Nat) (c' : Array Value) (t : TypeId) (fn : Func) : Exit → Env → Mm → Prop
  | .normal, _, M | .ret, _, M => fn.results = #[] ∧ ∃ i, lkM M i = some ⟨b, c', t⟩
  | _, _, _ => False
theorem fxW {f : FuncId} {fn : Func} {c : Code} {args : Array Value} {b : Nat} {c0 c' : Array Value} {t : TypeId} (hf : P.funcs[f]? = some fn) (hb : fn.body = some c) (hn : fn.ntmps = n) (ha : args.size ≤ n) (E : Env) (hE : ∀ t v, lk E t = some v → args[t]? = some v)
    (h : SatE P G c n (EndW b c' t fn) E [(0, some ⟨b, c0, t⟩)]) : Fx P G [⟨b, c0, t⟩] f args (fun v' l1 nw => v' = .tuple #[] ∧ l1 = [⟨b, c', t⟩] ∧ nw = []) :=
  fx_of hf hb (sat_mono (h _ [⟨b, c0, t⟩] ⟨by simp [hn]; omega, rfl, fun t v ht => by
    have := hE t v ht
    have hlt := (Array.getElem?_eq_some_iff.1 this).1
    rw [Array.getElem?_append_left hlt]; exact this⟩ ⟨fun i x hx => by
      rw [lkM_cons] at hx
      split at hx
      · cases hx; simp
      · simp [lkM] at hx, fun i j x y hx hy hne => by
      rw [lkM_cons] at hx hy
      split at hx
      · split at hy
        · rename_i e1 e2; exact absurd (e1.symm.trans e2) hne
        · simp [lkM] at hy
      · simp [lkM] at hx⟩) fun e a m ⟨E', M', h1, h0, h2⟩ => by
      have key : (fn.results = #[] ∧ ∃ i, lkM M' i = some ⟨b, c', t⟩) → a.defers = [] ∧ ∃ v l1 nw, (v = Value.tuple #[] ∧ l1 = [(⟨b, c', t⟩ : Blk)] ∧ nw = ([] : Mem)) ∧ (nw.map (·.b)).Nodup ∧ (∀ x ∈ nw, x.b ∉ [(⟨b, c0, t⟩ : Blk)].map (·.b)) ∧ (∀ x ∈ l1 ++ nw, x ∈ m) ∧ ∀ w, MemIn m w → (results fn a.tmps).run P w = .ok v w := fun ⟨hr, i, hi⟩ =>
        ⟨h1.defers, _, _, _, ⟨rfl, rfl, rfl⟩, by simp, by simp, fun x hx => by
          simp at hx; subst hx; exact h0.has i _ hi, fun w _ => by
          rw [results_eq, hr, mapM0]
          simp⟩
      cases e <;> first | exact key h2 | exact h2.elim)
/-- A function that makes a slice: one result. -/
def EndN (P : Program) (e : TypeId) (z k : Nat) (xs : List Value) (fn : Func) : Exit → Env → Mm → Prop
  | .normal, E, M | .ret, E, M => ∃ r v oz i, fn.results = #[r] ∧ Res P E M r v ∧ OwnS e z v k xs (Option.toList oz) ∧ lkM M i = oz
  | _, _, _ => False
/-- The same: the slice, and a number. -/
def EndN2 (P : Program) (e : TypeId) (z k : Nat) (xs : List Value) (u : Value) (fn : Func) : Exit → Env → Mm → Prop
  | .normal, E, M | .ret, E, M => ∃ r r' v oz i, fn.results = #[r, r'] ∧ Res P E M r v ∧ Res P E M r' u ∧ OwnS e z v k xs (Option.toList oz) ∧ lkM M i = oz
  | _, _, _ => False
theorem own_nd {e : TypeId} {z k : Nat} {v : Value} {xs : List Value} {l : Mem} (h : OwnS e z v k xs l) : (l.map (·.b)).Nodup := by
  rcases h with ⟨_, _, _, rfl⟩ | ⟨r, cap, c, _, rfl, _⟩ <;> simp
theorem fxN {f : FuncId} {fn : Func} {c : Code} {args : Array Value} {e : TypeId} {z k : Nat} {xs : List Value} (hf : P.funcs[f]? = some fn) (hb : fn.body = some c) (hn : fn.ntmps = n) (ha : args.size ≤ n) (E : Env) (hE : ∀ t v, lk E t = some v → args[t]? = some v)
    (h : SatE P G c n (EndN P e z k xs fn) E []) : Fx P G [] f args (fun v l1 nw => l1 = [] ∧ ∃ v', v = v' ∧ OwnS e z v' k xs nw) :=
  fx_of hf hb (sat_mono (h _ [] ⟨by simp [hn]; omega, rfl, fun t v ht => by
    have := hE t v ht
    have hlt := (Array.getElem?_eq_some_iff.1 this).1
    rw [Array.getElem?_append_left hlt]; exact this⟩ (FitsM.nil _)) fun e' a m ⟨E', M', h1, h0, h2⟩ => by
      have key : (∃ r v oz i, fn.results = #[r] ∧ Res P E' M' r v ∧ OwnS e z v k xs (Option.toList oz) ∧ lkM M' i = oz) → a.defers = [] ∧ ∃ v l1 nw, (l1 = [] ∧ ∃ v', v = v' ∧ OwnS e z v' k xs nw) ∧ (nw.map (·.b)).Nodup ∧ (∀ x ∈ nw, x.b ∉ ([] : Mem).map (·.b)) ∧ (∀ x ∈ l1 ++ nw, x ∈ m) ∧ ∀ w, MemIn m w → (results fn a.tmps).run P w = .ok v w := fun ⟨r, v, oz, i, hr, hR, ho, hi⟩ =>
        ⟨h1.defers, v, [], oz.toList, ⟨rfl, v, rfl, ho⟩, own_nd ho, by simp, fun x hx => by
          have : oz = some x := by simpa using hx
          exact h0.has i x (hi.trans this), fun w hw => by
          have := res_run h1 h0 hw hR
          rw [results_eq, hr, mapM1]
          simp [this]⟩
      cases e' <;> first | exact key h2 | exact h2.elim)
theorem fxN2 {f : FuncId} {fn : Func} {c : Code} {args : Array Value} {e : TypeId} {z k : Nat} {xs : List Value} {u : Value} (hf : P.funcs[f]? = some fn) (hb : fn.body = some c) (hn : fn.ntmps = n) (ha : args.size ≤ n) (E : Env) (hE : ∀ t v, lk E t = some v → args[t]? = some v)
    (h : SatE P G c n (EndN2 P e z k xs u fn) E []) : Fx P G [] f args (fun v l1 nw => l1 = [] ∧ ∃ v', v = .tuple #[v', u] ∧ OwnS e z v' k xs nw) :=
  fx_of hf hb (sat_mono (h _ [] ⟨by simp [hn]; omega, rfl, fun t v ht => by
    have := hE t v ht
    have hlt := (Array.getElem?_eq_some_iff.1 this).1
    rw [Array.getElem?_append_left hlt]; exact this⟩ (FitsM.nil _)) fun e' a m ⟨E', M', h1, h0, h2⟩ => by
      have key : (∃ r r' v oz i, fn.results = #[r, r'] ∧ Res P E' M' r v ∧ Res P E' M' r' u ∧ OwnS e z v k xs (Option.toList oz) ∧ lkM M' i = oz) → a.defers = [] ∧ ∃ v l1 nw, (l1 = [] ∧ ∃ v', v = Value.tuple #[v', u] ∧ OwnS e z v' k xs nw) ∧ (nw.map (·.b)).Nodup ∧ (∀ x ∈ nw, x.b ∉ ([] : Mem).map (·.b)) ∧ (∀ x ∈ l1 ++ nw, x ∈ m) ∧ ∀ w, MemIn m w → (results fn a.tmps).run P w = .ok v w := fun ⟨r, r', v, oz, i, hr, hR, hR', ho, hi⟩ =>
        ⟨h1.defers, .tuple #[v, u], [], oz.toList, ⟨rfl, v, rfl, ho⟩, own_nd ho, by simp, fun x hx => by
          have : oz = some x := by simpa using hx
          exact h0.has i x (hi.trans this), fun w hw => by
          have := res_run h1 h0 hw hR
          have t' := res_run h1 h0 hw hR'
          rw [results_eq, hr, mapM2]
          simp [this, t']⟩
      cases e' <;> first | exact key h2 | exact h2.elim)
end
end Go.Proofs.Ytmnmhmpklknleaa
