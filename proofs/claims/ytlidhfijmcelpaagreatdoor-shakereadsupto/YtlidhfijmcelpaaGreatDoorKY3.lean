import Derived.Test.YtlidhfijmcelpaaGreatDoorKY2
namespace Go.Proofs.YtlidhfijmcelpaaGreatDoor
open Go Go.RowKit
section
variable {P : Program} {G : Mem} {R : Reg} {ops : Array Oper} {n : Nat} {K : Env → Mm → Prop} {rest : List Oper} {E : Env} {M : Mm} {d : Nat} {ty : TypeId} {pos : String} {aft : Array Edge}
variable {T T' : TypeId} {x y : Operand}
theorem zhD {p q : Nat} (hx : rd E x = some (uw p)) (hy : rd E y = some (uw q)) (hd : Nat.blt d n = true) (h : z2 P G R ops n K rest ((d, uw ((p + q) % 4294967296)) :: E) M) :
  z2 P G R ops n K (⟨some d, .binOp .add T x y T', ty, pos, aft, none⟩ :: rest) E M := fun _ _ ha hM => zci (ha.rd hx) (ha.rd hy) (h _ _ (ha.put hd _) hM)
theorem Y0 {p q : Nat} (hx : rd E x = some (uw p)) (hy : rd E y = some (uw q)) (hd : Nat.blt d n = true) (h : z2 P G R ops n K rest ((d, uw ((p ||| q) % 4294967296)) :: E) M) :
  z2 P G R ops n K (⟨some d, .binOp .or T x y T', ty, pos, aft, none⟩ :: rest) E M := fun _ _ ha hM => zge (ha.rd hx) (ha.rd hy) (h _ _ (ha.put hd _) hM)
theorem z46 {p q : Nat} (hx : rd E x = some (uw p)) (hy : rd E y = some (uw q)) (hd : Nat.blt d n = true) (h : z2 P G R ops n K rest ((d, uw ((p ^^^ q) % 4294967296)) :: E) M) :
  z2 P G R ops n K (⟨some d, .binOp .xor T x y T', ty, pos, aft, none⟩ :: rest) E M := fun _ _ ha hM => zfn (ha.rd hx) (ha.rd hy) (h _ _ (ha.put hd _) hM)
theorem vw {k : IntKind} {p s : Nat} (hx : rd E x = some (uw p)) (hy : rd E y = some (.int k (s : Int))) (hd : Nat.blt d n = true) (hs : s ≤ 32) (h : z2 P G R ops n K rest ((d, uw ((p * 2 ^ s) % 4294967296)) :: E) M) :
  z2 P G R ops n K (⟨some d, .binOp .shl T x y T', ty, pos, aft, none⟩ :: rest) E M := fun _ _ ha hM => zet (ha.rd hx) (ha.rd hy) hs (h _ _ (ha.put hd _) hM)
theorem vX {k : IntKind} {p s : Nat} (hx : rd E x = some (uw p)) (hy : rd E y = some (.int k (s : Int))) (hd : Nat.blt d n = true) (hs : s ≤ 32) (h : z2 P G R ops n K rest ((d, uw (p / 2 ^ s)) :: E) M) :
  z2 P G R ops n K (⟨some d, .binOp .shr T x y T', ty, pos, aft, none⟩ :: rest) E M := fun _ _ ha hM => zd2 (ha.rd hx) (ha.rd hy) hs (h _ _ (ha.put hd _) hM)
theorem z5X {k : IntKind} {dk : TypeDesc} {p : Nat} (hs : P.underlying T = some dk) (ht : P.underlying T' = some (.int .u32)) (hx : rd E x = some (.int k (p : Int))) (hd : Nat.blt d n = true) (hv : xv R T T' = 1)
  (h : z2 P G R ops n K rest ((d, uw (p % 4294967296)) :: E) M) : z2 P G R ops n K (⟨some d, .convert T T' x, ty, pos, aft, none⟩ :: rest) E M := fun _ _ ha hM => zaa hv hs ht (ha.rd hx) (h _ _ (ha.put hd _) hM)
theorem zf7 {k : IntKind} {dk : TypeDesc} {p : Nat} (hs : P.underlying T = some dk) (ht : P.underlying T' = some (.int .i64)) (hx : rd E x = some (.int k (p : Int))) (hd : Nat.blt d n = true) (hv : xv R T T' = 1) (hp : p < 9223372036854775808)
  (h : z2 P G R ops n K rest ((d, ii p) :: E) M) : z2 P G R ops n K (⟨some d, .convert T T' x, ty, pos, aft, none⟩ :: rest) E M := fun _ _ ha hM => za2 hv hs ht (ha.rd hx) hp (h _ _ (ha.put hd _) hM)
theorem yn {l k : List Nat} (hx : rd E x = some (sv l)) (hy : rd E y = some (sv k)) (hd : Nat.blt d n = true) (hl : l.length + k.length ≤ 9223372036854775807) (h : z2 P G R ops n K rest ((d, sv (l ++ k)) :: E) M) :
  z2 P G R ops n K (⟨some d, .binOp .add T x y T', ty, pos, aft, none⟩ :: rest) E M := fun _ _ ha hM => zhW (ha.rd hx) (ha.rd hy) hl (h _ _ (ha.put hd _) hM)
theorem zz (i j : Nat) {l : List Nat} {lo hi : Option Operand} {vl vh : Option Value} (hT : P.underlying T = some .string) (hx : rd E x = some (sv l)) (hlo : rdo E lo = some vl) (hhi : rdo E hi = some vh) (hl : isB vl i 0) (hh : isB vh j l.length) (h1 : i ≤ j) (h2 : j ≤ l.length) (hd : Nat.blt d n = true)
  (hK : z2 P G R ops n K rest ((d, sv ((l.drop i).take (j - i))) :: E) M) : z2 P G R ops n K (⟨some d, .slice T x lo hi none, ty, pos, aft, none⟩ :: rest) E M :=
 fun _ _ ha hM => z6b hT (ha.rd hx) (by rw [ha.rdo hlo]; exact hl) (by rw [ha.rdo hhi]; exact hh) h1 h2 (hK _ _ (ha.put hd _) hM)
theorem Zm {l : List Nat} {j b : Nat} {k : IntKind} (hT : P.underlying T = some .string) (hx : rd E x = some (sv l)) (hy : rd E y = some (.int k (j : Int))) (hj : l[j]? = some b) (hb : b < 256) (hd : Nat.blt d n = true)
  (h : z2 P G R ops n K rest ((d, by8 b) :: E) M) : z2 P G R ops n K (⟨some d, .index T x y, ty, pos, aft, none⟩ :: rest) E M := fun _ _ ha hM => zby hT (ha.rd hx) (ha.rd hy) hj hb (h _ _ (ha.put hd _) hM)
theorem z9u {l k : List Nat} (hx : rd E x = some (sv l)) (hy : rd E y = some (sv k)) (hd : Nat.blt d n = true) (hl : ∀ b ∈ l, b < 256) (hk : ∀ b ∈ k, b < 256) (h : z2 P G R ops n K rest ((d, .bool (decide (l = k))) :: E) M) :
  z2 P G R ops n K (⟨some d, .binOp .eql T x y T', ty, pos, aft, none⟩ :: rest) E M := fun _ _ ha hM => zfQ hl hk (ha.rd hx) (ha.rd hy) (h _ _ (ha.put hd _) hM)
theorem zdU {l : List Nat} (hT : P.underlying T = some .string) (hx : rd E x = some (sv l)) (hd : Nat.blt d n = true) (hR : yW R = true) (h : z2 P G R ops n K rest ((d, ii l.length) :: E) M) :
  z2 P G R ops n K (⟨some d, .call ⟨.builtin .len, #[x], #[T]⟩, ty, pos, aft, none⟩ :: rest) E M := fun _ _ ha hM => zbz hR hT (ha.rd hx) (h _ _ (ha.put hd _) hM)
def SeenE (G : Mem) (R : Reg) (M : Mm) (B : Mem) : Prop := ∀ z ∈ B, z ∈ G ∨ ∃ i, lkM M i = some z ∧ ∃ js, v7 M i js R
theorem SeenE.seen {B : Mem} (h : SeenE G R M B) {m : Mem} (hM : FitsM M m) : Seen G R m B := fun z hz => by
 rcases h z hz with h1 | ⟨i, h1, js, h2⟩
 ·exact .inl h1
 ·exact .inr ⟨hM.has i z h1, Zz hM h1 h2⟩
theorem za : SeenE G R M G := fun _ hz => .inl hz
theorem zH (i : Nat) {oz : Option Blk} (hi : lkM M i = oz) (hX : ∃ js, v7 M i js R) : SeenE G R M oz.toList := fun z hz => by
 have : oz = some z := by simpa using hz
 exact .inr ⟨i, hi.trans this, hX⟩
theorem ym (i : Nat) {z : Blk} (hi : lkM M i = some z) (hX : ∃ js, v7 M i js R) : SeenE G R M [z] := fun q hq => by
 simp at hq; subst hq
 exact .inr ⟨i, hi, hX⟩
theorem zjl {e : TypeId} {v : Value} {B : Mem} {z k : Nat} {xs : List Value} (hv : Shows B z v k xs) (hT : P.underlying T = some (.slice e)) (hx : rd E x = some v) (hd : Nat.blt d n = true) (hR : yW R = true) (h : z2 P G R ops n K rest ((d, ii k) :: E) M) :
  z2 P G R ops n K (⟨some d, .call ⟨.builtin .len, #[x], #[T]⟩, ty, pos, aft, none⟩ :: rest) E M := fun _ _ ha hM => zgQ hR hT (ha.rd hx) hv (h _ _ (ha.put hd _) hM)
theorem yf {e : TypeId} {k : IntKind} {v : Value} {B : Mem} {z l j : Nat} {xs : List Value} (hv : Shows B z v l xs) (hT : P.underlying T = some (.slice e)) (hs : (P.info? e).map (·.size) = some z) (hx : rd E x = some v) (hy : rd E y = some (.int k (j : Int))) (hj : j < l) (hd : Nat.blt d n = true)
  (h : z2 P G R ops n K rest ((d, wb v (j * z)) :: E) M) : z2 P G R ops n K (⟨some d, .indexAddr T x y, ty, pos, aft, none⟩ :: rest) E M := fun _ _ ha hM => zjX hT hs (ha.rd hx) (ha.rd hy) hv hj (h _ _ (ha.put hd _) hM)
theorem zR {td : TypeDesc} {v u : Value} {B : Mem} {l j : Nat} {xs : List Value} (hv : Shows B 1 v l xs) (hB : SeenE G R M B) (hT : P.underlying T = some td) (hn : zy td = false) (hx : rd E x = some (wb v j)) (hj : xs[j]? = some u) (hd : Nat.blt d n = true)
  (h : z2 P G R ops n K rest ((d, u) :: E) M) : z2 P G R ops n K (⟨some d, .load T x, ty, pos, aft, none⟩ :: rest) E M := fun _ _ ha hM => zfS (hB.seen hM) hT hn (ha.rd hx) hv hj (h _ _ (ha.put hd _) hM)
theorem yi (i j : Nat) {e : TypeId} {v : Value} {B : Mem} {z l : Nat} {xs : List Value} {lo hi : Option Operand} {vl vh : Option Value} (hv : Shows B z v l xs) (hT : P.underlying T = some (.slice e)) (hs : (P.info? e).map (·.size) = some z) (hx : rd E x = some v) (hlo : rdo E lo = some vl) (hhi : rdo E hi = some vh) (hl : isB vl i 0) (hh : isB vh j l)
  (h1 : i ≤ j) (h2 : j ≤ l) (hd : Nat.blt d n = true) (hK : z2 P G R ops n K rest ((d, yr z v i j) :: E) M) : z2 P G R ops n K (⟨some d, .slice T x lo hi none, ty, pos, aft, none⟩ :: rest) E M :=
 fun _ _ ha hM => zbo hT hs (ha.rd hx) hv (by rw [ha.rdo hlo]; exact hl) (by rw [ha.rdo hhi]; exact hh) h1 h2 (hK _ _ (ha.put hd _) hM)
theorem zx {e : TypeId} {v : Value} {B : Mem} {l : List Nat} (hv : Shows B 1 v l.length (l.map by8)) (hB : SeenE G R M B) (hs : P.underlying T = some (.slice e)) (he : P.underlying e = some (.int .u8)) (ht : P.underlying T' = some .string) (hx : rd E x = some v) (hd : Nat.blt d n = true) (hq : xv R T T' = 1)
  (h : z2 P G R ops n K rest ((d, sv l) :: E) M) : z2 P G R ops n K (⟨some d, .convert T T' x, ty, pos, aft, none⟩ :: rest) E M := fun _ _ ha hM => z3S hq (hB.seen hM) hs he ht (ha.rd hx) hv (h _ _ (ha.put hd _) hM)
theorem z3k (i : Nat) {e : TypeId} {kl kc k : IntKind} {l b : Nat} {z : Value} (hT : P.underlying T = some (.slice e)) (hs : (P.info? e).map (·.size) = some 1) (hb : (P.info? e).map (·.bytes) = some b) (hz : (P.info? e).bind (·.zero) = some z) (hzc : z.cells = #[.int k 0])
  (hx : rd E x = some (.int kl (l : Int))) (hy : rd E y = some (.int kc (l : Int))) (hn : b * l ≤ 281474976710656) (h63 : l ≤ 9223372036854775807) (hd : Nat.blt d n = true)
  (h : ∀ r, z2 P G R ops n K rest ((d, .slice (some ⟨r, 0, none⟩) l l) :: E) ((i, some ⟨r, arr k l (fun _ => 0), e⟩) :: M)) : z2 P G R ops n K (⟨some d, .makeSlice T x y, ty, pos, aft, none⟩ :: rest) E M :=
 fun _ _ ha hM => zh6 hT hs hb hz hzc (ha.rd hx) (ha.rd hy) hn h63 fun r hr => h r _ _ (ha.put hd _) (hM.alloc i ⟨r, _, e⟩ hr)
theorem FitsM.change {m m' : Mem} (hM : FitsM M m) (i : Nat) {oz : Option Blk} (h1 : ∀ j x, j ≠ i → lkM M j = some x → x ∈ m') (h2 : ∀ z, oz = some z → z ∈ m' ∧ ∀ j x, j ≠ i → lkM M j = some x → x.b ≠ z.b) : FitsM ((i, oz) :: M) m' := by
 refine ⟨fun j x hx => ?_, fun j k x z hx hz hne => ?_⟩
 ·rw [yH] at hx
  split at hx
  ·exact (h2 x hx).1
  ·rename_i hne; exact h1 j x (fun e => hne e.symm) hx
 ·rw [yH] at hx hz
  split at hx
  ·split at hz
   ·rename_i e1 e2; exact absurd (e1.symm.trans e2) hne
   ·rename_i e2; exact fun e => (h2 x hx).2 k z (fun e' => e2 e'.symm) hz e.symm
  ·split at hz
   ·rename_i e1 _; exact (h2 z hz).2 j x (fun e' => e1 e'.symm) hx
   ·exact hM.apart j k x z hx hz hne
theorem FitsM.others {m lr : Mem} (hM : FitsM M m) {i : Nat} {oz : Option Blk} (hi : lkM M i = oz) (hp : List.Perm m (oz.toList ++ lr)) : ∀ j x, j ≠ i → lkM M j = some x → x ∈ lr := fun j x hne hx => by
 have hm := hp.mem_iff.1 (hM.has j x hx)
 rcases List.mem_append.1 hm with h | h
 ·have : oz = some x := by simpa using h
  exact absurd rfl (hM.apart j i x x hx (hi.trans this) hne)
 ·exact h
theorem FitsM.perm1 {m : Mem} (hM : FitsM M m) {i : Nat} {oz : Option Blk} (hi : lkM M i = oz) : ∃ lr, List.Perm m (oz.toList ++ lr) := by
 cases oz with
 | none => exact ⟨m, by simp⟩
 | some z =>
  obtain ⟨l1, l2, h⟩ := List.append_of_mem (hM.has i z hi)
  exact ⟨l1 ++ l2, by rw [h]; simp⟩
theorem FitsM.same {m lr : Mem} (hM : FitsM M m) {i : Nat} {oz oz' : Option Blk} (hi : lkM M i = oz) (hp : List.Perm m (oz.toList ++ lr)) (hid : oz'.toList.map (·.b) = oz.toList.map (·.b)) : FitsM ((i, oz') :: M) (oz'.toList ++ lr) :=
 hM.change i (fun j x hne hx => List.mem_append_right _ (hM.others hi hp j x hne hx)) fun z hz => ⟨by subst hz; simp, fun j x hne hx => by
  subst hz
  cases oz with
  | none => simp at hid
  | some q =>
   simp at hid
   rw [hid]; exact hM.apart j i x q hx hi hne⟩
theorem FitsM.fresh {m lr : Mem} (hM : FitsM M m) (i : Nat) {oz : Option Blk} {l0 : Mem} (hp : List.Perm m (l0 ++ lr)) (hf : FreshM m oz.toList) : FitsM ((i, oz) :: M) (l0 ++ lr ++ oz.toList) :=
 hM.change i (fun j x _ hx => List.mem_append_left _ (hp.mem_iff.1 (hM.has j x hx))) fun z hz => ⟨by subst hz; simp, fun j x _ hx => hf.2 z (by subst hz; simp) x (hM.has j x hx)⟩
theorem YD {e : TypeId} {b o N dl cap i : Nat} {f : Nat → Nat} {t : TypeId} {l : List Nat} (hT : P.underlying T = some (.slice e)) (hs : (P.info? e).map (·.size) = some 1) (hx : rd E x = some (.slice (some ⟨b, o, none⟩) dl cap)) (hy : rd E y = some (sv l)) (hl : ∀ q ∈ l, q < 256)
  (hm : lkM M i = some ⟨b, arr .u8 N f, t⟩) (ho : o + dl ≤ N) (hd : Nat.blt d n = true)
  (h : z2 P G R ops n K rest ((d, ii (min l.length dl)) :: E) ((i, some ⟨b, arr .u8 N (fun j => if o ≤ j ∧ j < o + min l.length dl then l.getD (j - o) 0 else f j), t⟩) :: M)) (hL : R.L = none := by rfl) : z2 P G R ops n K (⟨some d, .call ⟨.builtin .copy, #[x, y], #[T, T']⟩, ty, pos, aft, none⟩ :: rest) E M :=
 fun _ _ ha hM => by
  obtain ⟨k, hk⟩ := hM.at hm
  exact z7K (hL := hL) hT hs (ha.rd hx) (ha.rd hy) hl hk ho fun lr hp => h _ _ (ha.put hd _) (hM.same (oz' := some _) hm (by simpa using hp) rfl)
theorem VK {e : TypeId} {z k : Nat} {v : Value} {xs : List Value} {l : Mem} (h : OwnS e z v k xs l) : ∃ oz : Option Blk, l = oz.toList := by
 rcases h with ⟨_, _, _, rfl⟩ | ⟨r, cap, c, _, rfl, _⟩
 ·exact ⟨none, rfl⟩
 ·exact ⟨some _, rfl⟩
def OffL (M : Mm) (i : Nat) : Option (List Nat) → Prop
 | none => True
 | some l => ∃ js, okX M i js l
theorem OffL.off {M : Mm} {m : Mem} {i : Nat} {oz : Option Blk} {L : Option (List Nat)} (h : OffL M i L) (hM : FitsM M m) (hi : lkM M i = oz) : ∀ x ∈ oz.toList, z6u L x.b := fun x hx => by
 have e : oz = some x := by simpa using hx
 cases L with
 | none => trivial
 | some l =>
  obtain ⟨js, hjs⟩ := h
  exact VP hM (hi.trans e) hjs
theorem z2F (i : Nat) {e : TypeId} {z l k bytes : Nat} {zv v vy : Value} {xs news : List Value} {oz : Option Blk} {B : Mem} (hown : OwnS e z v l xs oz.toList) (hsrc : Shows B z vy k news) (hi : lkM M i = oz) (hB : ∀ q ∈ B, q ∈ G ∨ ∃ j, lkM M j = some q) (hoff : OffL M i R.L)
  (hT : P.underlying T = some (.slice e)) (hs : (P.info? e).map (·.size) = some z) (hb : (P.info? e).map (·.bytes) = some bytes) (hz : (P.info? e).bind (·.zero) = some zv) (hzs : zv.cells.size = z)
  (hx : rd E x = some v) (hy : rd E y = some vy) (h1 : ∀ u ∈ news, u.oneCell' = true) (h63 : l + k ≤ maxLen) (hbytes : (l + k) * bytes ≤ 140737488355328) (hd : Nat.blt d n = true)
  (h : ∀ v' (oz' : Option Blk), OwnS e z v' (l + k) (xs ++ news) oz'.toList → z2 P G R ops n K rest ((d, v') :: E) ((i, oz') :: M)) : z2 P G R ops n K (⟨some d, .call ⟨.builtin .append, #[x, y], #[T, T]⟩, ty, pos, aft, none⟩ :: rest) E M :=
 fun _ m ha hM => by
  obtain ⟨lr, hp⟩ := hM.perm1 hi
  refine zam hT hs hb hz hzs (ha.rd hx) (ha.rd hy) hown (hoff.off hM hi) hp hsrc (fun q hq => ?_) h1 h63 hbytes fun v' l' ho => ?_
  ·rcases hB q hq with h2 | ⟨j, h2⟩
   ·exact .inl h2
   ·exact .inr (hM.has j q h2)
  ·obtain ⟨oz', rfl⟩ := VK ho
   refine ⟨fun hid => ?_, fun hf => ?_⟩
   ·simpa using h v' oz' ho _ _ (ha.put hd _) (hM.same hi hp hid)
   ·exact h v' oz' ho _ _ (ha.put hd _) (hM.fresh i hp hf)
theorem yQ (i : Nat) {e : TypeId} {z l k bytes : Nat} {zv v vy : Value} {xs news : List Value} {oz : Option Blk} {B : Mem} (hown : OwnS e z v l xs oz.toList) (hsrc : Shows B z vy k news) (hi : lkM M i = oz) (hB : SeenE G R M B)
  (hT : P.underlying T = some (.slice e)) (hs : (P.info? e).map (·.size) = some z) (hb : (P.info? e).map (·.bytes) = some bytes) (hz : (P.info? e).bind (·.zero) = some zv) (hzs : zv.cells.size = z)
  (hx : rd E x = some v) (hy : rd E y = some vy) (h1 : ∀ u ∈ news, u.oneCell' = true) (h63 : l + k ≤ maxLen) (hbytes : (l + k) * bytes ≤ 140737488355328) (hd : Nat.blt d n = true)
  (h : ∀ v' (oz' : Option Blk), OwnS e z v' (l + k) (xs ++ news) oz'.toList → z2 P G R ops n K rest ((d, v') :: E) ((i, oz') :: M)) (hL : R.L = none := by rfl) : z2 P G R ops n K (⟨some d, .call ⟨.builtin .append, #[x, y], #[T, T]⟩, ty, pos, aft, none⟩ :: rest) E M :=
 z2F i hown hsrc hi (fun q hq => (hB q hq).imp id fun ⟨j, h2, _⟩ => ⟨j, h2⟩) (by rw [hL]; trivial) hT hs hb hz hzs hx hy h1 h63 hbytes hd h
theorem z4D {oz : Option Blk} {i : Nat} (hi : lkM M i = oz) : zgv oz.toList M := by
 cases oz with
 | none => trivial
 | some z => exact ⟨⟨i, hi⟩, trivial⟩
theorem zI (i : Nat) (mk : Value → Value) {fo : Operand} {f : FuncId} {args : Array Operand} {tys : Array TypeId} {vs cap : List Value} {g' : Mem} {e : TypeId} {z k : Nat} {xs : List Value} (hf : rd E fo = some (.func (.func f) #[] cap.toArray)) (hargs : rdl E args.toList = some vs) (he : xF P f = true) (hg : SeenE G R M g')
  (hF : Fx P g' [] f (vs ++ cap).toArray (fun v l1 nw => l1 = [] ∧ ∃ v', v = mk v' ∧ OwnS e z v' k xs nw)) (hk : k ≤ maxLen) (hkx : xs.length = k * z) (hd : Nat.blt d n = true) (hR : z3H R = true)
  (h : ∀ v' (oz : Option Blk), OwnS e z v' k xs oz.toList → z2 P G R ops n K rest ((d, mk v') :: E) ((i, oz) :: M)) (hpu : Y9 R (some d) = false := by first | rfl | assumption) : z2 P G R ops n K (⟨some d, .call ⟨.value fo, args, tys⟩, ty, pos, aft, none⟩ :: rest) E M :=
 fun _ m ha hM => by
  refine z5V hR hpu (S := fun v nw => ∃ v', v = mk v' ∧ OwnS e z v' k xs nw) (ha.rd hf) (ha.args hargs) he (by simpa using hF) ?_ (fun w hG hv q hq => (hg.seen hM).rin hG hv hq) ?_
  ·intro m'
   obtain ⟨r, hr⟩ := vP m'
   exact ⟨_, [⟨r, xs.toArray, e⟩], ⟨.slice (some ⟨r, 0, none⟩) k k, rfl, .inr ⟨r, k, xs.toArray, rfl, rfl, Nat.le_refl _, hk, by simpa using hkx, hkx, by rw [← hkx]; exact List.take_length⟩⟩, by simp, by simpa using hr⟩
  ·rintro v nw ⟨v', rfl, ho⟩ hfr
   obtain ⟨oz, rfl⟩ := VK ho
   have := hM.fresh i (l0 := []) (lr := m) (by simp) hfr
   exact h v' oz ho _ _ (ha.put hd _) (by simpa using this)
theorem VR (i : Nat) {fo : Operand} {f : FuncId} {args : Array Operand} {tys : Array TypeId} {vs cap : List Value} {g' : Mem} {b : Nat} {c c' : Array Value} {t : TypeId} {v : Value} (hf : rd E fo = some (.func (.func f) #[] cap.toArray)) (hargs : rdl E args.toList = some vs) (he : xF P f = true)
  (hm : lkM M i = some ⟨b, c, t⟩) (hg : ∀ z ∈ g', z ∈ G ∨ ∃ j, j ≠ i ∧ lkM M j = some z) (hF : Fx P g' [⟨b, c, t⟩] f (vs ++ cap).toArray (fun v' l1 nw => v' = v ∧ l1 = [⟨b, c', t⟩] ∧ nw = [])) (hd : Nat.blt d n = true) (hR : R.c = 5)
  (h : z2 P G R ops n K rest ((d, v) :: E) ((i, some ⟨b, c', t⟩) :: M)) (hL : R.L = none := by rfl) (hpu : Y9 R (some d) = false := by first | rfl | assumption) : z2 P G R ops n K (⟨some d, .call ⟨.value fo, args, tys⟩, ty, pos, aft, none⟩ :: rest) E M :=
 fun _ m ha hM => by
  obtain ⟨lr, hp⟩ := hM.perm1 hm
  refine z0a hR hpu (S := fun v' l1 nw => v' = v ∧ l1 = [⟨b, c', t⟩] ∧ nw = []) (ha.rd hf) (ha.args hargs) he (by simpa using hF) (lr := lr) (fun _ _ => Yy hL _) (by simpa using hp) (fun _ => ⟨v, _, [], ⟨rfl, rfl, rfl⟩, by simp, by simp⟩) ?_ (fun w hG hw z hz => ?_) (by simp) (fun hA z hz => ?_) ?_
  ·rintro v' l1 nw ⟨_, rfl, _⟩; rfl
  ·rcases hg z hz with h1 | ⟨j, _, h1⟩
   ·exact hG z h1
   ·exact (hw z (hM.has j z h1)).read
  ·rcases hg z hz with h1 | ⟨j, hne, h1⟩
   ·simpa using hA z h1 ⟨b, c, t⟩ (hM.has i _ hm)
   ·simpa using hM.apart j i z _ h1 hm hne
  ·rintro v' l1 nw ⟨rfl, rfl, rfl⟩ _
   have := hM.same (oz' := some ⟨b, c', t⟩) hm hp rfl
   exact h _ _ (ha.put hd _) (by simpa using this)
end
section
variable {P : Program} {G : Mem} {n : Nat}
theorem zkP (f : ResultVar → Sem Value) : Array.mapM f #[] = pure #[] := by
 rw [Array.mapM_eq_mapM_toList]; simp
def zkY (b : Nat) (c' : Array Value) (t : TypeId) (fn : Func) : Exit → Env → Mm → Prop
 | .normal, _, M | .ret, _, M => fn.results = #[] ∧ ∃ i, lkM M i = some ⟨b, c', t⟩
 | _, _, _ => False
theorem fxW {f : FuncId} {fn : Func} {c : Code} {args : Array Value} {b : Nat} {c0 c' : Array Value} {t : TypeId} (hf : P.funcs[f]? = some fn) (hb : fn.body = some c) (hn : fn.ntmps = n) (ha : args.size ≤ n) (E : Env) (hE : ∀ t v, lk E t = some v → args[t]? = some v)
  (h : yc P G c n (zkY b c' t fn) E [(0, some ⟨b, c0, t⟩)]) : Fx P G [⟨b, c0, t⟩] f args (fun v' l1 nw => v' = .tuple #[] ∧ l1 = [⟨b, c', t⟩] ∧ nw = []) :=
 z0P hf hb (yG (h _ [⟨b, c0, t⟩] ⟨by simp [hn]; omega, rfl, fun t v ht => by
  have := hE t v ht
  have hlt := (Array.getElem?_eq_some_iff.1 this).1
  rw [Array.getElem?_append_left hlt]; exact this⟩ ⟨fun i x hx => by
   rw [yH] at hx
   split at hx
   ·cases hx; simp
   ·simp [lkM] at hx, fun i j x y hx hy hne => by
   rw [yH] at hx hy
   split at hx
   ·split at hy
    ·rename_i e1 e2; exact absurd (e1.symm.trans e2) hne
    ·simp [lkM] at hy
   ·simp [lkM] at hx⟩) fun e a m ⟨E', M', h1, h0, h2⟩ => by
   have key : (fn.results = #[] ∧ ∃ i, lkM M' i = some ⟨b, c', t⟩) → a.defers = [] ∧ ∃ v l1 nw, (v = Value.tuple #[] ∧ l1 = [(⟨b, c', t⟩ : Blk)] ∧ nw = ([] : Mem)) ∧ (nw.map (·.b)).Nodup ∧ (∀ x ∈ nw, x.b ∉ [(⟨b, c0, t⟩ : Blk)].map (·.b)) ∧ (∀ x ∈ l1 ++ nw, x ∈ m) ∧ ∀ w, MemIn m w → (results fn a.tmps).run P w = .ok v w := fun ⟨hr, i, hi⟩ =>
    ⟨h1.defers, _, _, _, ⟨rfl, rfl, rfl⟩, by simp, by simp, fun x hx => by
     simp at hx; subst hx; exact h0.has i _ hi, fun w _ => by
     rw [yT, hr, zkP]
     simp⟩
   cases e <;> first | exact key h2 | exact h2.elim)
def zkG (P : Program) (e : TypeId) (z k : Nat) (xs : List Value) (fn : Func) : Exit → Env → Mm → Prop
 | .normal, E, M | .ret, E, M => ∃ r v oz i, fn.results = #[r] ∧ Res P E M r v ∧ OwnS e z v k xs (Option.toList oz) ∧ lkM M i = oz
 | _, _, _ => False
def ziz (P : Program) (e : TypeId) (z k : Nat) (xs : List Value) (u : Value) (fn : Func) : Exit → Env → Mm → Prop
 | .normal, E, M | .ret, E, M => ∃ r r' v oz i, fn.results = #[r, r'] ∧ Res P E M r v ∧ Res P E M r' u ∧ OwnS e z v k xs (Option.toList oz) ∧ lkM M i = oz
 | _, _, _ => False
theorem z7H {e : TypeId} {z k : Nat} {v : Value} {xs : List Value} {l : Mem} (h : OwnS e z v k xs l) : (l.map (·.b)).Nodup := by
 rcases h with ⟨_, _, _, rfl⟩ | ⟨r, cap, c, _, rfl, _⟩ <;> simp
theorem fxN {f : FuncId} {fn : Func} {c : Code} {args : Array Value} {e : TypeId} {z k : Nat} {xs : List Value} (hf : P.funcs[f]? = some fn) (hb : fn.body = some c) (hn : fn.ntmps = n) (ha : args.size ≤ n) (E : Env) (hE : ∀ t v, lk E t = some v → args[t]? = some v)
  (h : yc P G c n (zkG P e z k xs fn) E []) : Fx P G [] f args (fun v l1 nw => l1 = [] ∧ ∃ v', v = v' ∧ OwnS e z v' k xs nw) :=
 z0P hf hb (yG (h _ [] ⟨by simp [hn]; omega, rfl, fun t v ht => by
  have := hE t v ht
  have hlt := (Array.getElem?_eq_some_iff.1 this).1
  rw [Array.getElem?_append_left hlt]; exact this⟩ (FitsM.nil _)) fun e' a m ⟨E', M', h1, h0, h2⟩ => by
   have key : (∃ r v oz i, fn.results = #[r] ∧ Res P E' M' r v ∧ OwnS e z v k xs (Option.toList oz) ∧ lkM M' i = oz) → a.defers = [] ∧ ∃ v l1 nw, (l1 = [] ∧ ∃ v', v = v' ∧ OwnS e z v' k xs nw) ∧ (nw.map (·.b)).Nodup ∧ (∀ x ∈ nw, x.b ∉ ([] : Mem).map (·.b)) ∧ (∀ x ∈ l1 ++ nw, x ∈ m) ∧ ∀ w, MemIn m w → (results fn a.tmps).run P w = .ok v w := fun ⟨r, v, oz, i, hr, hR, ho, hi⟩ =>
    ⟨h1.defers, v, [], oz.toList, ⟨rfl, v, rfl, ho⟩, z7H ho, by simp, fun x hx => by
     have : oz = some x := by simpa using hx
     exact h0.has i x (hi.trans this), fun w hw => by
     have := yR h1 h0 hw hR
     rw [yT, hr, z8T]
     simp [this]⟩
   cases e' <;> first | exact key h2 | exact h2.elim)
theorem zlt {f : FuncId} {fn : Func} {c : Code} {args : Array Value} {e : TypeId} {z k : Nat} {xs : List Value} {u : Value} (hf : P.funcs[f]? = some fn) (hb : fn.body = some c) (hn : fn.ntmps = n) (ha : args.size ≤ n) (E : Env) (hE : ∀ t v, lk E t = some v → args[t]? = some v)
  (h : yc P G c n (ziz P e z k xs u fn) E []) : Fx P G [] f args (fun v l1 nw => l1 = [] ∧ ∃ v', v = .tuple #[v', u] ∧ OwnS e z v' k xs nw) :=
 z0P hf hb (yG (h _ [] ⟨by simp [hn]; omega, rfl, fun t v ht => by
  have := hE t v ht
  have hlt := (Array.getElem?_eq_some_iff.1 this).1
  rw [Array.getElem?_append_left hlt]; exact this⟩ (FitsM.nil _)) fun e' a m ⟨E', M', h1, h0, h2⟩ => by
   have key : (∃ r r' v oz i, fn.results = #[r, r'] ∧ Res P E' M' r v ∧ Res P E' M' r' u ∧ OwnS e z v k xs (Option.toList oz) ∧ lkM M' i = oz) → a.defers = [] ∧ ∃ v l1 nw, (l1 = [] ∧ ∃ v', v = Value.tuple #[v', u] ∧ OwnS e z v' k xs nw) ∧ (nw.map (·.b)).Nodup ∧ (∀ x ∈ nw, x.b ∉ ([] : Mem).map (·.b)) ∧ (∀ x ∈ l1 ++ nw, x ∈ m) ∧ ∀ w, MemIn m w → (results fn a.tmps).run P w = .ok v w := fun ⟨r, r', v, oz, i, hr, hR, hR', ho, hi⟩ =>
    ⟨h1.defers, .tuple #[v, u], [], oz.toList, ⟨rfl, v, rfl, ho⟩, z7H ho, by simp, fun x hx => by
     have : oz = some x := by simpa using hx
     exact h0.has i x (hi.trans this), fun w hw => by
     have := yR h1 h0 hw hR
     have t' := yR h1 h0 hw hR'
     rw [yT, hr, zim]
     simp [this, t']⟩
   cases e' <;> first | exact key h2 | exact h2.elim)
end
end Go.Proofs.YtlidhfijmcelpaaGreatDoor
namespace Go.Proofs.YtlidhfijmcelpaaGreatDoor
open Go Go.RowKit
def zM (n : Nat) (F : Nat → Value) : Array Value := ((List.range n).map F).toArray
def Xh (F : Nat → Value) (j : Nat) (v : Value) : Nat → Value := fun i => if i = j then v else F i
def xE (F : Nat → Value) (o l : Nat) (A : Nat → Value) : Nat → Value := fun i => if o ≤ i ∧ i < o + l then A (i - o) else F i
theorem XX (k : IntKind) (n : Nat) (f : Nat → Nat) : arr k n f = zM n (fun i => .int k (f i : Int)) := rfl
theorem z3 (n : Nat) (F : Nat → Value) : (zM n F).size = n := by simp [zM]
theorem yD {n j : Nat} {F : Nat → Value} (h : j < n) : (zM n F)[j]? = some (F j) := by simp [zM, h]
theorem yB {n : Nat} {F H : Nat → Value} (h : ∀ j, j < n → F j = H j) : zM n F = zM n H := by
 unfold zM
 congr 1
 exact List.map_congr_left fun i hi => h i (by simpa using hi)
theorem ze0 {n : Nat} {F : Nat → Value} (j : Nat) (v : Value) : (zM n F).setIfInBounds j v = zM n (Xh F j v) := by
 apply Array.ext
 ·simp [z3]
 ·intro i h1 h2
  have hi : i < n := by simpa [z3] using h2
  by_cases e : j = i
  ·subst e; simp [zM, Xh]
  ·have e' : ¬ i = j := fun h => e h.symm
   simp [zM, Xh, e, e']
theorem YF (N o l : Nat) (F : Nat → Value) (h : o + l ≤ N) : (zM N F).extract o (o + l) = zM l (fun t => F (o + t)) := by
 apply Array.ext
 ·simp [zM]; omega
 ·intro i h1 h2
  simp [zM]
theorem z1o (N o l : Nat) (F A : Nat → Value) (h : o + l ≤ N) : ((zM N F).toList.take o ++ (zM l A).toList ++ (zM N F).toList.drop (o + l)).toArray = zM N (xE F o l A) := by
 apply Array.ext
 ·simp [zM]; omega
 ·intro j h1 h2
  have hj : j < N := by simpa [zM] using h2
  simp only [List.getElem_toArray]
  by_cases ha : j < o
  ·rw [List.getElem_append_left (by simp [zM]; omega), List.getElem_append_left (by simp [zM]; omega)]
   simp [zM, xE, show ¬ (o ≤ j ∧ j < o + l) by omega]
  ·by_cases hb : j < o + l
   ·rw [List.getElem_append_left (by simp [zM]; omega), List.getElem_append_right (by simp [zM]; omega)]
    have h5 : min o N = o := by omega
    simp [zM, xE, h5, show o ≤ j ∧ j < o + l by omega]
   ·rw [List.getElem_append_right (by simp [zM]; omega)]
    have h5 : min o N = o := by omega
    simp [zM, xE, h5, show ¬ (o ≤ j ∧ j < o + l) by omega]
    congr 1
    omega
theorem z7Q {w : World} {b : Nat} {c' : Array Value} {t : TypeId} : w.setRow b c' = wM w ⟨b, c', t⟩ := rfl
section
variable {P : Program} {G : Mem} {R : Reg} {ops : Array Oper} {K : Act → Mem → Prop} {rest : List Oper} {a : Act} {m : Mem} {d : Option Tmp} {ty : TypeId} {pos : String} {aft : Array Edge}
variable {T T' : TypeId} {x y : Operand}
theorem zau {b o i l N : Nat} {F A : Nat → Value} {t : TypeId} (hs : (P.info? T).map (·.size) = some l) (hx : a.eval x = .pointer (some ⟨b, o, none⟩)) (hy : a.eval y = .agg (zM l A)) (hA : ∀ j, j < l → (A j).oneCell' = true)
  (hm : m[i]? = some ⟨b, zM N F, t⟩) (hX : R.X = [] ∨ b ∈ R.X) (ho : o + l ≤ N) (h : z8 P G R ops K rest (a.put d undef) (m.set i ⟨b, zM N (xE F o l A), t⟩)) (hY : R.Y = none := by first | rfl | assumption) : z8 P G R ops K (⟨d, .store T x y, ty, pos, aft, none⟩ :: rest) a m :=
 zdu hm hX (zM N (xE F o l A)) (by simp [z3]) (fun w hin => by
  have hst := yh (P := P) b o t (zM l A).toList 0 (zM N F) w hin (by simp [z3]; omega) (fun v hv => by
   simp [zM] at hv
   obtain ⟨j, hj, rfl⟩ := hv
   exact hA j hj)
  have hl : (zM l A).toList.length = l := by simp [zM]
  rw [hl, Nat.add_zero, z1o N o l F A ho, z7Q (t := t)] at hst
  cases hi : P.info? T with
  | none => simp [hi] at hs
  | some j =>
   have hsz : j.size = l := by simpa [hi] using hs
   simp only [execOp, Instr.storeAt, hx, hy, Instr.sureAddr, storeVar, sizeOf, typeInfo]
   simp [hi, hsz, Value.cells, z3, hst]) h
end
section
variable {P : Program} {G : Mem} {R : Reg} {ops : Array Oper} {n : Nat} {K : Env → Mm → Prop} {rest : List Oper} {E : Env} {M : Mm} {d : Nat} {ty : TypeId} {pos : String} {aft : Array Edge}
variable {T T' : TypeId} {x y : Operand}
theorem z8N {b i o l N : Nat} {F : Nat → Value} {t : TypeId} {td : TypeDesc} (hT : P.underlying T = some td) (hn : zy td = true) (hs : (P.info? T).map (·.size) = some l)
  (hx : rd E x = some (.pointer (some ⟨b, o, none⟩))) (hm : lkM M i = some ⟨b, zM N F, t⟩) (ho : o + l ≤ N) (hd : Nat.blt d n = true) (hX : ∃ js, v7 M i js R) (h : z2 P G R ops n K rest ((d, .agg (zM l (fun t => F (o + t)))) :: E) M) :
  z2 P G R ops n K (⟨some d, .load T x, ty, pos, aft, none⟩ :: rest) E M :=
 fun _ _ ha hM => by
  obtain ⟨j, hj⟩ := hM.at hm
  obtain ⟨js, hjs⟩ := hX
  exact z5N hT hn hs (ha.rd hx) hj (Zz hM hm hjs) (by rw [z3]; exact ho) (by rw [YF N o l F ho]; exact h _ _ (ha.put hd _) hM)
theorem z50 {b o i N : Nat} {F : Nat → Value} {v : Value} {t : TypeId} (hs : (P.info? T).map (·.size) = some 1) (hx : rd E x = some (.pointer (some ⟨b, o, none⟩))) (hy : rd E y = some v) (hv : v.oneCell' = true)
  (hm : lkM M i = some ⟨b, zM N F, t⟩) (ho : o < N) (hX : R.X = [] ∨ b ∈ R.X) (h : z2 P G R ops n K rest E ((i, some ⟨b, zM N (Xh F o v), t⟩) :: M)) (hY : R.Y = none := by first | rfl | assumption) : z2 P G R ops n K (⟨none, .store T x y, ty, pos, aft, none⟩ :: rest) E M :=
 fun _ _ ha hM => by
  obtain ⟨j, hj⟩ := hM.at hm
  exact V0 hs (ha.rd hx) (ha.rd hy) hv hj hX (by rw [z3]; exact ho) (by rw [ze0]; exact h _ _ ha (hM.store hm hj _))
theorem ziq {b o i l N : Nat} {F A : Nat → Value} {t : TypeId} (hs : (P.info? T).map (·.size) = some l) (hx : rd E x = some (.pointer (some ⟨b, o, none⟩))) (hy : rd E y = some (.agg (zM l A))) (hA : ∀ j, j < l → (A j).oneCell' = true)
  (hm : lkM M i = some ⟨b, zM N F, t⟩) (ho : o + l ≤ N) (hX : R.X = [] ∨ b ∈ R.X) (h : z2 P G R ops n K rest E ((i, some ⟨b, zM N (xE F o l A), t⟩) :: M)) (hY : R.Y = none := by first | rfl | assumption) : z2 P G R ops n K (⟨none, .store T x y, ty, pos, aft, none⟩ :: rest) E M :=
 fun _ _ ha hM => by
  obtain ⟨j, hj⟩ := hM.at hm
  exact zau hs (ha.rd hx) (ha.rd hy) hA hj hX ho (h _ _ ha (hM.store hm hj _))
theorem ye {l : List Oper} {s b : Nat} {c c' : Array Value} {t : TypeId} (hc : c = c') (h : z2 P G R ops n K l E ((s, some ⟨b, c', t⟩) :: M)) : z2 P G R ops n K l E ((s, some ⟨b, c, t⟩) :: M) := by rw [hc]; exact h
end
end Go.Proofs.YtlidhfijmcelpaaGreatDoor
namespace Go.Proofs.YtlidhfijmcelpaaGreatDoor
open Go Go.RowKit
abbrev zW := Nat × (Nat → Value)
def yA : List zW → Nat → Value
 | [], _ => .bool false
 | p :: ps, i => if i < p.1 then p.2 i else yA ps (i - p.1)
def vg : List zW → Nat → Option (Nat × zW)
 | [], _ => none
 | p :: _, 0 => some (0, p)
 | p :: ps, k + 1 => match vg ps k with
  | none => none
  | some q => some (p.1 + q.1, q.2)
def z8G : List zW → Nat → Nat → Option (Nat × zW)
 | [], _, _ => none
 | p :: _, 0, a => some (a, p)
 | p :: ps, k + 1, a => z8G ps k (a + p.1)
abbrev xe (ps : List zW) (k : Nat) : Option (Nat × zW) := z8G ps k 0
theorem z4H : ∀ (ps : List zW) (k a : Nat), z8G ps k a = (vg ps k).map fun q => (a + q.1, q.2)
 | [], _, _ => rfl
 | _ :: _, 0, _ => rfl
 | p :: ps, k + 1, a => by
  rw [z8G, vg, z4H ps k]
  cases vg ps k with
  | none => rfl
  | some q => simp [Nat.add_assoc]
theorem z29 {ps : List zW} {k : Nat} {q : Nat × zW} (h : xe ps k = some q) : vg ps k = some q := by
 unfold xe at h
 rw [z4H] at h
 cases hc : vg ps k with
 | none => rw [hc] at h; cases h
 | some x =>
  rw [hc] at h
  simp at h
  rw [← h]
def wc : List zW → Nat → (Nat → Value) → List zW
 | [], _, _ => []
 | p :: ps, 0, F => (p.1, F) :: ps
 | p :: ps, k + 1, F => p :: wc ps k F
def z6e : List zW → Prop
 | [] => True
 | p :: ps => (∀ i, (p.2 i).oneCell' = true) ∧ z6e ps
abbrev pI (k : IntKind) (l : Nat) (f : Nat → Nat) : zW := (l, fun i => .int k (f i : Int))
abbrev pV (v : Value) : zW := (1, fun _ => v)
abbrev cells (N : Nat) (ps : List zW) : Array Value := zM N (yA ps)
theorem z2R : ∀ {ps : List zW} {k o l : Nat} {F : Nat → Value}, vg ps k = some (o, l, F) → ∀ t, t < l → yA ps (o + t) = F t
 | [], _, _, _, _, h, _, _ => by simp [vg] at h
 | p :: ps, 0, o, l, F, h, t, ht => by
  simp only [vg, Option.some.injEq, Prod.mk.injEq] at h
  obtain ⟨rfl, rfl⟩ := h
  simp [yA, ht]
 | p :: ps, k + 1, o, l, F, h, t, ht => by
  simp only [vg] at h
  cases hq : vg ps k with
  | none => simp [hq] at h
  | some q =>
   obtain ⟨o', l', F'⟩ := q
   simp only [hq, Option.some.injEq, Prod.mk.injEq] at h
   obtain ⟨rfl, rfl, rfl⟩ := h
   have := z2R hq t ht
   simp only [yA]
   rw [if_neg (by omega), show p.1 + o' + t - p.1 = o' + t by omega, this]
theorem z4T : ∀ {ps : List zW} {k o l : Nat} {F : Nat → Value} (A : Nat → Value), vg ps k = some (o, l, F) → ∀ i, xE (yA ps) o l A i = yA (wc ps k A) i
 | [], _, _, _, _, _, h, _ => by simp [vg] at h
 | p :: ps, 0, o, l, F, A, h, i => by
  simp only [vg, Option.some.injEq, Prod.mk.injEq] at h
  obtain ⟨rfl, rfl⟩ := h
  simp only [xE, yA, wc]
  by_cases hi : i < l
  ·rw [if_pos (by omega), if_pos hi, Nat.sub_zero]
  ·rw [if_neg (by omega), if_neg hi, if_neg hi]
 | p :: ps, k + 1, o, l, F, A, h, i => by
  simp only [vg] at h
  cases hq : vg ps k with
  | none => simp [hq] at h
  | some q =>
   obtain ⟨o', l', F'⟩ := q
   simp only [hq, Option.some.injEq, Prod.mk.injEq] at h
   obtain ⟨rfl, rfl, rfl⟩ := h
   have := z4T A hq (i - p.1)
   simp only [yA, wc]
   rw [← this]
   simp only [xE]
   by_cases hi : i < p.1
   ·rw [if_neg (by omega), if_pos hi, if_pos hi]
   ·rw [if_neg hi, if_neg hi]
    by_cases h2 : o' ≤ i - p.1 ∧ i - p.1 < o' + l'
    ·rw [if_pos (by omega), if_pos h2]; congr 1; omega
    ·rw [if_neg (by omega), if_neg h2]
theorem xS {ps : List zW} {k o l : Nat} {F : Nat → Value} (h : xe ps k = some (o, l, F)) : ∀ t, t < l → yA ps (o + t) = F t := z2R (z29 h)
theorem Wb {ps : List zW} {k o l : Nat} {F : Nat → Value} (A : Nat → Value) (h : xe ps k = some (o, l, F)) : ∀ i, xE (yA ps) o l A i = yA (wc ps k A) i := z4T A (z29 h)
theorem zc7 (F : Nat → Value) (o : Nat) (v : Value) : xE F o 1 (fun _ => v) = Xh F o v := by
 funext i
 unfold xE Xh
 by_cases h : i = o
 ·subst h; rw [if_pos (by omega), if_pos rfl]
 ·rw [if_neg (by omega), if_neg h]
theorem zgl {ps : List zW} {k o l : Nat} {F : Nat → Value} {j : Nat} (v : Value) (h : xe ps k = some (o, l, F)) (hj : j < l) (i : Nat) : Xh (yA ps) (o + j) v i = yA (wc ps k (Xh F j v)) i := by
 rw [← Wb _ h i]
 unfold Xh xE
 by_cases h1 : i = o + j
 ·subst h1
  rw [if_pos rfl, if_pos (by omega)]
  show v = if o + j - o = j then v else F (o + j - o)
  rw [if_pos (by omega)]
 ·rw [if_neg h1]
  by_cases h2 : o ≤ i ∧ i < o + l
  ·rw [if_pos h2]
   show yA ps i = if i - o = j then v else F (i - o)
   rw [if_neg (by omega)]
   have := xS h (i - o) (by omega)
   rw [← this]; congr 1; omega
  ·rw [if_neg h2]
theorem zhf (k : IntKind) (f : Nat → Nat) (j v : Nat) : Xh (fun i => .int k (f i : Int)) j (.int k (v : Int)) = fun i => .int k (upd f j v i : Int) := by
 funext i
 unfold Xh upd
 split <;> rfl
theorem z3c : ∀ {ps : List zW}, z6e ps → ∀ i, (yA ps i).oneCell' = true
 | [], _, _ => rfl
 | p :: ps, h, i => by
  simp only [yA]
  split
  ·exact h.1 _
  ·exact z3c h.2 _
theorem YO {N : Nat} {ps : List zW} (h : z6e ps) : ∀ v ∈ cells N ps, v.oneCell' = true := fun v hv => by
 simp [cells, zM] at hv
 obtain ⟨i, _, rfl⟩ := hv
 exact z3c h i
theorem z7 {N : Nat} {ps qs : List zW} : (cells N ps).size = (cells N qs).size := by rw [z3, z3]
section
variable {P : Program} {G : Mem} {R : Reg} {ops : Array Oper} {n : Nat} {K : Env → Mm → Prop} {rest : List Oper} {E : Env} {M : Mm} {d : Nat} {ty : TypeId} {pos : String} {aft : Array Edge}
variable {T T' : TypeId} {x y : Operand}
theorem X1 (k : Nat) {b i o l N : Nat} {kd : IntKind} {f : Nat → Nat} {ps : List zW} {t : TypeId} {td : TypeDesc} (hT : P.underlying T = some td) (hn : zy td = true) (hs : (P.info? T).map (·.size) = some l)
  (hx : rd E x = some (.pointer (some ⟨b, o, none⟩))) (hm : lkM M i = some ⟨b, cells N ps, t⟩) (hk : xe ps k = some (o, pI kd l f)) (ho : o + l ≤ N) (hd : Nat.blt d n = true) (hX : ∃ js, v7 M i js R) (h : z2 P G R ops n K rest ((d, .agg (arr kd l f)) :: E) M) :
  z2 P G R ops n K (⟨some d, .load T x, ty, pos, aft, none⟩ :: rest) E M :=
 z8N hT hn hs hx hm ho hd hX (by rw [yB (fun t ht => xS hk t ht), ← XX]; exact h)
theorem z2H (k j : Nat) {b i o o' l N : Nat} {kd : IntKind} {f : Nat → Nat} {ps : List zW} {t : TypeId} {td : TypeDesc} (hT : P.underlying T = some td) (hn : zy td = false)
  (hx : rd E x = some (.pointer (some ⟨b, o', none⟩))) (hm : lkM M i = some ⟨b, cells N ps, t⟩) (hk : xe ps k = some (o, pI kd l f)) (ho : o' = o + j) (hj : j < l) (hN : o' < N) (hd : Nat.blt d n = true) (hX : ∃ js, v7 M i js R) (h : z2 P G R ops n K rest ((d, .int kd (f j : Int)) :: E) M) :
  z2 P G R ops n K (⟨some d, .load T x, ty, pos, aft, none⟩ :: rest) E M :=
 y6 (v := .int kd (f j : Int)) hT hn hx hm (by rw [cells, yD hN, ho, xS hk j hj]) hd hX h
theorem Za (k : Nat) {b i o N : Nat} {v : Value} {ps : List zW} {t : TypeId} {td : TypeDesc} (hT : P.underlying T = some td) (hn : zy td = false)
  (hx : rd E x = some (.pointer (some ⟨b, o, none⟩))) (hm : lkM M i = some ⟨b, cells N ps, t⟩) (hk : xe ps k = some (o, pV v)) (hN : o < N) (hd : Nat.blt d n = true) (hX : ∃ js, v7 M i js R) (h : z2 P G R ops n K rest ((d, v) :: E) M) :
  z2 P G R ops n K (⟨some d, .load T x, ty, pos, aft, none⟩ :: rest) E M :=
 y6 (v := v) hT hn hx hm (by have := xS hk 0 (by decide); rw [Nat.add_zero] at this; rw [cells, yD hN, this]) hd hX h
theorem zle (k : Nat) {b o i l N : Nat} {kd : IntKind} {f : Nat → Nat} {F : Nat → Value} {ps : List zW} {t : TypeId} (hs : (P.info? T).map (·.size) = some l) (hx : rd E x = some (.pointer (some ⟨b, o, none⟩))) (hy : rd E y = some (.agg (arr kd l f)))
  (hm : lkM M i = some ⟨b, cells N ps, t⟩) (hk : xe ps k = some (o, l, F)) (ho : o + l ≤ N) (hX : R.X = [] ∨ b ∈ R.X) (h : z2 P G R ops n K rest E ((i, some ⟨b, cells N (wc ps k (fun i => .int kd (f i : Int))), t⟩) :: M)) (hY : R.Y = none := by first | rfl | assumption) : z2 P G R ops n K (⟨none, .store T x y, ty, pos, aft, none⟩ :: rest) E M :=
 ziq (A := fun i => .int kd (f i : Int)) hs hx hy (fun _ _ => rfl) hm ho hX (by rw [funext (Wb _ hk)]; exact h)
theorem z9m (k j : Nat) {b o o' i l v N : Nat} {kd : IntKind} {f : Nat → Nat} {ps : List zW} {t : TypeId} (hs : (P.info? T).map (·.size) = some 1) (hx : rd E x = some (.pointer (some ⟨b, o', none⟩))) (hy : rd E y = some (.int kd (v : Int)))
  (hm : lkM M i = some ⟨b, cells N ps, t⟩) (hk : xe ps k = some (o, pI kd l f)) (ho : o' = o + j) (hj : j < l) (hN : o' < N) (hX : R.X = [] ∨ b ∈ R.X) (h : z2 P G R ops n K rest E ((i, some ⟨b, cells N (wc ps k (fun i => .int kd (upd f j v i : Int))), t⟩) :: M)) (hY : R.Y = none := by first | rfl | assumption) : z2 P G R ops n K (⟨none, .store T x y, ty, pos, aft, none⟩ :: rest) E M :=
 z50 hs hx hy rfl hm hN hX (by rw [ho, funext (zgl _ hk hj), zhf]; exact h)
theorem z2K (k : Nat) {b o i N : Nat} {v : Value} {F : Nat → Value} {ps : List zW} {t : TypeId} (hs : (P.info? T).map (·.size) = some 1) (hx : rd E x = some (.pointer (some ⟨b, o, none⟩))) (hy : rd E y = some v) (hv : v.oneCell' = true)
  (hm : lkM M i = some ⟨b, cells N ps, t⟩) (hk : xe ps k = some (o, 1, F)) (hN : o < N) (hX : R.X = [] ∨ b ∈ R.X) (h : z2 P G R ops n K rest E ((i, some ⟨b, cells N (wc ps k (fun _ => v)), t⟩) :: M)) (hY : R.Y = none := by first | rfl | assumption) : z2 P G R ops n K (⟨none, .store T x y, ty, pos, aft, none⟩ :: rest) E M :=
 z50 hs hx hy hv hm hN hX (by rw [← zc7, funext (Wb _ hk)]; exact h)
theorem za8 {d : Option Tmp} {a : Act} {m : Mem} {K : Act → Mem → Prop} {f k o l N : Nat} {kd : IntKind} {g : Nat → Nat} {ps : List zW} {fs : Array Field} {fd : Field} {td : TypeDesc} (hT : P.underlying T = some (.struct fs)) (hf : fs[f]? = some fd) (he : P.underlying fd.type = some td) (hn : zy td = true) (hs : (P.info? fd.type).map (·.size) = some l)
  (hx : a.eval x = .agg (cells N ps)) (hk : xe ps k = some (o, pI kd l g)) (ho : fd.offset = o) (hN : o + l ≤ N) (h : z8 P G R ops K rest (a.put d (.agg (arr kd l g))) m) : z8 P G R ops K (⟨d, .field T x f, ty, pos, aft, none⟩ :: rest) a m :=
 zK (v := .agg (arr kd l g)) rfl rfl (fun w => by
  cases hi : P.info? fd.type with
  | none => simp [hi] at hs
  | some i =>
   have hsz : i.size = l := by simpa [hi] using hs
   have he2 : (cells N ps).extract o (o + l) = arr kd l g := by rw [cells, YF N o l _ hN, yB (fun t ht => xS hk t ht), ← XX]
   have hp : (part fd.type (cells N ps) o).run P w = .ok (.agg (arr kd l g)) w := by
    unfold part
    simp only [Sem.run_bind, yO he, Result.andThen_ok, hn, if_true, sizeOf, typeInfo]
    simp [hi, hsz, he2]
   simp only [execOp, Instr.field, hx, underlying, program]
   simp [Sem.run, hT, hf, ho, asAgg]
   simp [hp]) h
theorem zdB (k : Nat) {f o l N : Nat} {kd : IntKind} {g : Nat → Nat} {ps : List zW} {fs : Array Field} {fd : Field} {td : TypeDesc} (hT : P.underlying T = some (.struct fs)) (hf : fs[f]? = some fd) (he : P.underlying fd.type = some td) (hn : zy td = true) (hs : (P.info? fd.type).map (·.size) = some l)
  (hx : rd E x = some (.agg (cells N ps))) (hk : xe ps k = some (o, pI kd l g)) (ho : fd.offset = o) (hN : o + l ≤ N) (hd : Nat.blt d n = true) (h : z2 P G R ops n K rest ((d, .agg (arr kd l g)) :: E) M) : z2 P G R ops n K (⟨some d, .field T x f, ty, pos, aft, none⟩ :: rest) E M :=
 fun _ _ ha hM => za8 hT hf he hn hs (ha.rd hx) hk ho hN (h _ _ (ha.put hd _) hM)
end
section
variable {P : Program} {G : Mem} {R : Reg} {ops : Array Oper} {n : Nat} {K : Env → Mm → Prop} {rest : List Oper} {E : Env} {M : Mm} {d : Nat} {ty : TypeId} {pos : String} {aft : Array Edge}
theorem zkD {op : Op} {g s : Nat} {want : Bool} (hg : (ops[g]?).bind (·.dst) = some s) (hb : lk E s = some undef) (hd : Nat.blt d n = true) (h : z2 P G R ops n K rest ((d, undef) :: E) M) :
  z2 P G R ops n K (⟨some d, op, ty, pos, aft, some (g, want)⟩ :: rest) E M := fun a m ha hM => .inl ⟨by
   have hy : Go.yielded ops a.tmps g = none := by
    unfold Go.yielded
    rw [hg]
    simp [ha.slots _ _ hb, undef]
   simp [Region.wanted, hy], h _ _ (ha.put hd _) hM⟩
end
end Go.Proofs.YtlidhfijmcelpaaGreatDoor
namespace Go.Proofs.YtlidhfijmcelpaaGreatDoor
open Go Go.RowKit
theorem zdk {ps : List zW} {k o l kk : Nat} {F : Nat → Value} (A : Nat → Value) (h : xe ps k = some (o, l, F)) (hk : kk ≤ l) (i : Nat) : xE (yA ps) o kk A i = yA (wc ps k (xE F 0 kk A)) i := by
 rw [← Wb _ h i]
 unfold xE
 by_cases h1 : o ≤ i ∧ i < o + kk
 ·rw [if_pos h1, if_pos (by omega)]
  show A (i - o) = if 0 ≤ i - o ∧ i - o < 0 + kk then A (i - o - 0) else F (i - o)
  rw [if_pos (by omega), Nat.sub_zero]
 ·rw [if_neg h1]
  by_cases h2 : o ≤ i ∧ i < o + l
  ·rw [if_pos h2]
   show yA ps i = if 0 ≤ i - o ∧ i - o < 0 + kk then A (i - o - 0) else F (i - o)
   rw [if_neg (by omega)]
   have := xS h (i - o) (by omega)
   rw [← this]; congr 1; omega
  ·rw [if_neg h2]
theorem z70 (f : Nat → Nat) (kk : Nat) (l : List Nat) : xE (fun i => .int .u8 (f i : Int)) 0 kk (fun j => by8 (l.getD j 0)) = fun i => .int .u8 ((if i < kk then l.getD i 0 else f i : Nat) : Int) := by
 funext i
 unfold xE
 by_cases h : i < kk
 ·rw [if_pos (by omega), if_pos h, Nat.sub_zero]
 ·rw [if_neg (by omega), if_neg h]
theorem z2a (l : List Nat) (k : Nat) (h : k ≤ l.length) : (l.take k).map by8 = (zM k (fun j => by8 (l.getD j 0))).toList := by
 apply List.ext_getElem
 ·simp [zM]; omega
 ·intro j h1 h2
  have hj : j < l.length := by
   have h3 := h1
   rw [List.length_map, List.length_take] at h3
   omega
  simp [zM, List.getD, hj]
section
variable {P : Program} {G : Mem} {R : Reg} {ops : Array Oper} {K : Act → Mem → Prop} {rest : List Oper} {a : Act} {m : Mem} {d : Option Tmp} {ty : TypeId} {pos : String} {aft : Array Edge}
variable {T T' : TypeId} {x y : Operand}
theorem zeC {e : TypeId} {b o N dl cap i : Nat} {F : Nat → Value} {t : TypeId} {l : List Nat} (hT : P.underlying T = some (.slice e)) (hs : (P.info? e).map (·.size) = some 1) (hx : a.eval x = .slice (some ⟨b, o, none⟩) dl cap) (hy : a.eval y = sv l) (hl : ∀ n ∈ l, n < 256)
  (hm : m[i]? = some ⟨b, zM N F, t⟩) (ho : o + dl ≤ N)
  (h : ∀ lr, List.Perm m (⟨b, zM N F, t⟩ :: lr) → z8 P G R ops K rest (a.put d (ii (min l.length dl))) (⟨b, zM N (xE F o (min l.length dl) (fun j => by8 (l.getD j 0))), t⟩ :: lr)) (hL : R.L = none := by rfl) : z8 P G R ops K (⟨d, .call ⟨.builtin .copy, #[x, y], #[T, T']⟩, ty, pos, aft, none⟩ :: rest) a m := by
 have hmem : (⟨b, zM N F, t⟩ : Blk) ∈ m := xi hm
 obtain ⟨l1, l2, hml⟩ := List.append_of_mem hmem
 have hp : List.Perm m (⟨b, zM N F, t⟩ :: (l1 ++ l2)) := by rw [hml]; exact List.perm_middle
 obtain ⟨c', hc'⟩ : ∃ c', c' = zM N (xE F o (min l.length dl) (fun j => by8 (l.getD j 0))) := ⟨_, rfl⟩
 refine .inr ⟨rfl, ?_⟩
 show Z3 _ _ _ _ _ _ _ 5
 refine ⟨[⟨b, zM N F, t⟩], l1 ++ l2, fun v r1 nw => v = ii (min l.length dl) ∧ r1 = [⟨b, c', t⟩] ∧ nw = [], by simpa using hp, fun _ => ⟨_, _, _, ⟨rfl, rfl, rfl⟩, by simp, by simp⟩, ?_, ?_, ?_⟩
 ·exact ⟨by rintro v r1 nw ⟨_, rfl, _⟩; rfl, fun _ _ => Yy hL _⟩
 ·intro w _ hw _
  have hin := hw _ hmem
  refine .inl ⟨_, _, _, w.setRow b c', ?_, ⟨rfl, rfl, rfl⟩, XB hin (by rw [hc', z3, z3])⟩
  cases hi : P.info? e with
  | none => simp [hi] at hs
  | some k =>
   have hsz : k.size = 1 := by simpa [hi] using hs
   have hf : (Builtin.firstCells 1 (min l.length dl) (sv l)).run P w = .ok ((l.take (min l.length dl)).map by8).toArray w := by
    simp only [Builtin.firstCells]
    rw [z0p]
    simp only [Sem.run_pure, List.drop_zero, Nat.sub_zero]
    congr 1
    unfold yu
    apply Array.ext'
    simp only [Array.toList_map, List.map_map]
    exact List.map_congr_left fun n hn => by
     have := hl n (List.mem_of_mem_take hn)
     simp
     omega
   have hst := yh (P := P) b o t ((l.take (min l.length dl)).map by8) 0 (zM N F) w hin (by simp [z3]; omega) (fun v hv => by
    obtain ⟨n, _, rfl⟩ := List.mem_map.1 hv; rfl)
   have hlen : ((l.take (min l.length dl)).map by8).length = min l.length dl := by simp
   rw [hlen, Nat.add_zero, z2a l _ (by omega), z1o N o _ F _ (by omega), ← hc', ← z2a l _ (by omega)] at hst
   generalize (l.take (min l.length dl)).map by8 = vs at hf hst
   have hmin : Nat.min l.length dl = min l.length dl := rfl
   simp only [execOp, resolve, invoke, builtin, Sem.run_bind, Sem.run_pure, Result.andThen_ok, List.map_toArray, List.map_cons, List.map_nil, hx, hy]
   simp [Builtin.copy_, run_underlying hT, Builtin.lenOf, xI, sizeOf, typeInfo, hi, hsz, hmin, hf, hst, goInt]
 ·rintro v r1 nw ⟨rfl, rfl, rfl⟩ _
  rw [hc']
  simpa using h (l1 ++ l2) hp
end
section
variable {P : Program} {G : Mem} {R : Reg} {ops : Array Oper} {n : Nat} {K : Env → Mm → Prop} {rest : List Oper} {E : Env} {M : Mm} {d : Nat} {ty : TypeId} {pos : String} {aft : Array Edge}
variable {T T' : TypeId} {x y : Operand}
theorem z8z (k : Nat) {e : TypeId} {b o N dl cap i L : Nat} {f : Nat → Nat} {ps : List zW} {t : TypeId} {l : List Nat} (hT : P.underlying T = some (.slice e)) (hs : (P.info? e).map (·.size) = some 1) (hx : rd E x = some (.slice (some ⟨b, o, none⟩) dl cap)) (hy : rd E y = some (sv l)) (hl : ∀ q ∈ l, q < 256)
  (hm : lkM M i = some ⟨b, cells N ps, t⟩) (hk : xe ps k = some (o, pI .u8 L f)) (hL : dl ≤ L) (ho : o + dl ≤ N) (hd : Nat.blt d n = true)
  (h : z2 P G R ops n K rest ((d, ii (min l.length dl)) :: E) ((i, some ⟨b, cells N (wc ps k (fun i => .int .u8 ((if i < min l.length dl then l.getD i 0 else f i : Nat) : Int))), t⟩) :: M)) (hL : R.L = none := by rfl) : z2 P G R ops n K (⟨some d, .call ⟨.builtin .copy, #[x, y], #[T, T']⟩, ty, pos, aft, none⟩ :: rest) E M :=
 fun _ _ ha hM => by
  obtain ⟨kk, hkk⟩ := hM.at hm
  refine zeC (hL := hL) hT hs (ha.rd hx) (ha.rd hy) hl hkk ho fun lr hp => ?_
  rw [funext (zdk _ hk (by omega)), z70]
  exact h _ _ (ha.put hd _) (hM.same (oz' := some _) hm (by simpa using hp) rfl)
end
def z5B (P : Program) (dp : Nat) (t : TypeId) (v : Value) : Prop := ∀ w, (Op.equalIn dp t v v).run P w = .ok true w
section
variable {P : Program}
theorem zei {dp : Nat} {t : TypeId} {k k' : IntKind} {z : Int} (h : P.underlying t = some (.int k')) : z5B P (dp + 1) t (.int k z) := fun w => by rw [run_equalIn_int w dp t k k' z z h]; simp
theorem z9M {dp : Nat} {t : TypeId} {z : Bool} (h : P.underlying t = some .bool) : z5B P (dp + 1) t (.bool z) := fun w => by rw [run_equalIn_bool' w dp t z z h]; simp
theorem z0w {dp : Nat} {t e : TypeId} {k k' : IntKind} {l : Nat} {f : Nat → Nat} (hT : P.underlying t = some (.array l e)) (he : P.underlying e = some (.int k')) (hs : (P.info? e).map (·.size) = some 1) : z5B P (dp + 2) t (.agg (arr k l f)) := fun w => by
 rw [vv hT he hs w]
 congr 1
 exact x9.2 fun _ _ => rfl
def z18 (P : Program) (ps : List zW) (N : Nat) (f : Field) (v : Value) : Prop := ∀ w, (part f.type (cells N ps) f.offset).run P w = .ok v w
theorem Zq {ps : List zW} {N k o l : Nat} {kd : IntKind} {g : Nat → Nat} {f : Field} {td : TypeDesc} (he : P.underlying f.type = some td) (hn : zy td = true) (hs : (P.info? f.type).map (·.size) = some l) (hk : xe ps k = some (o, pI kd l g)) (ho : f.offset = o) (hN : o + l ≤ N) : z18 P ps N f (.agg (arr kd l g)) := fun w => by
 cases hi : P.info? f.type with
 | none => simp [hi] at hs
 | some i =>
  have hsz : i.size = l := by simpa [hi] using hs
  have he2 : (cells N ps).extract o (o + l) = arr kd l g := by rw [cells, YF N o l _ hN, yB (fun t ht => xS hk t ht), ← XX]
  unfold part
  simp only [Sem.run_bind, yO he, Result.andThen_ok, hn, if_true, sizeOf, typeInfo, ho]
  simp [hi, hsz, he2]
theorem vD {ps : List zW} {N k o : Nat} {v : Value} {f : Field} {td : TypeDesc} (he : P.underlying f.type = some td) (hn : zy td = false) (hk : xe ps k = some (o, pV v)) (ho : f.offset = o) (hN : o < N) : z18 P ps N f v := fun w => by
 have h1 := xS hk 0 (by decide)
 rw [Nat.add_zero] at h1
 unfold part
 simp only [Sem.run_bind, yO he, Result.andThen_ok, hn, ho, cells, yD hN, h1]
 simp
theorem Va {dp : Nat} {ps : List zW} {N : Nat} : ∀ fs : List Field, (∀ f ∈ fs, ∃ v, z18 P ps N f v ∧ z5B P dp f.type v) → ∀ w, (Op.eqFields dp (cells N ps) (cells N ps) fs).run P w = .ok true w
 | [], _, w => by simp [Op.eqFields]
 | f :: fs, h, w => by
  have ih := Va fs (fun g hg => h g (by simp [hg])) w
  obtain ⟨v, h1, h2⟩ := h f (by simp)
  simp only [Op.eqFields]
  split
  ·simp only [Sem.run_bind, h1 w, Result.andThen_ok, h2 w]
   simpa using ih
  ·exact ih
theorem Vm {dp : Nat} {t : TypeId} {ps : List zW} {N : Nat} {fs : Array Field} (ht : P.underlying t = some (.struct fs)) (hp : P.stoodInHeld t = false) (h : ∀ f ∈ fs.toList, ∃ v, z18 P ps N f v ∧ z5B P dp f.type v) : z5B P (dp + 1) t (.agg (cells N ps)) := fun w => by
 have hf : P.fieldsOf t = fs := by simp [Program.fieldsOf, ht]
 rw [run_equalIn_struct w dp t _ _ (by rw [hf]; exact ht) hp, hf]
 exact Va fs.toList h w
end
section
variable {P : Program} {G : Mem} {R : Reg} {ops : Array Oper} {n : Nat} {K : Env → Mm → Prop} {rest : List Oper} {E : Env} {M : Mm} {d : Nat} {ty : TypeId} {pos : String} {aft : Array Edge}
variable {T T' : TypeId} {x y : Operand}
theorem zdM {c : Array Value} (hs : z5B P 10000 T (.agg c)) (hg : P.eqGuardType P.depth T = false) (hx : rd E x = some (.agg c)) (hy : rd E y = some (.agg c)) (hd : Nat.blt d n = true) (h : z2 P G R ops n K rest ((d, .bool true) :: E) M) : z2 P G R ops n K (⟨some d, .binOp .eql T x y T', ty, pos, aft, none⟩ :: rest) E M :=
 fun _ _ ha hM => zJ (fun w => by
  rw [ha.rd hx, ha.rd hy]
  simp only [Sem.run_bind, run_eqGuard_agg w .eql T x y _ _ hg, Result.andThen_ok, run_eql_struct, hs w]) (h _ _ (ha.put hd _) hM)
end
end Go.Proofs.YtlidhfijmcelpaaGreatDoor
namespace Go.Proofs.YtlidhfijmcelpaaGreatDoor
open Go Go.RowKit
theorem z1u {l : List Nat} (hl : ∀ b ∈ l, b < 256) {cap : Nat} (h : l.length ≤ cap) : (bytesRow (yu l) cap).toList.take l.length = l.map by8 ∧ (bytesRow (yu l) cap).size = cap := by
 have hz : (yu l).size = l.length := by simp [yu, ByteArray.size]
 have e : ((yu l).data.map (fun b => Value.int .u8 b.toNat)).toList = l.map by8 := by
  unfold yu
  simp only [Array.toList_map, List.map_map]
  exact List.map_congr_left fun n hn => by
   have := hl n hn
   simp [by8, Nat.mod_eq_of_lt this]
 constructor
 ·unfold bytesRow
  rw [Array.toList_append, e, List.take_append_of_le_length (by simp), List.take_of_length_le (by simp)]
 ·unfold bytesRow
  have e2 : ((yu l).data.map (fun b => Value.int .u8 b.toNat)).size = l.length := by rw [← Array.length_toList, e, List.length_map]
  rw [Array.size_append, e2, Array.size_replicate, hz]; omega
section
variable {P : Program} {G : Mem} {R : Reg} {ops : Array Oper} {K : Act → Mem → Prop} {rest : List Oper} {a : Act} {m : Mem} {d : Option Tmp} {ty : TypeId} {pos : String} {aft : Array Edge}
variable {T T' : TypeId} {x y : Operand}
theorem z4e {e : TypeId} {l : List Nat} (hv : xv R T T' = 6) (hs : P.underlying T = some .string) (ht : P.underlying T' = some (.slice e)) (he : P.underlying e = some (.int .u8)) (hx : a.eval x = sv l) (hl : ∀ b ∈ l, b < 256) (hm : l.length ≤ maxLen)
  (h : ∀ v nw, OwnS e 1 v l.length (l.map by8) nw → FreshM m nw → z8 P G R ops K rest (a.put d v) (m ++ nw)) : z8 P G R ops K (⟨d, .convert T T' x, ty, pos, aft, none⟩ :: rest) a m := by
 have hz : (yu l).size = l.length := by simp [yu, ByteArray.size]
 have hc : cls R ⟨d, .convert T T' x, ty, pos, aft, none⟩ = 6 := by simp only [cls, hv]
 have run : ∀ w : World, ∃ w', (execOp a.eval ⟨d, .convert T T' x, ty, pos, aft, none⟩).run P w = .ok (.value (.slice (some ⟨w.heap.size, 0, none⟩) l.length (grownCap w l.length 0 e))) w' ∧ Post [] [] [⟨w.heap.size, bytesRow (yu l) (grownCap w l.length 0 e), e⟩] w w' := fun w => by
  have hr := run_bytes_of_string (P := P) w T T' e (yu l) hs ht he
  rw [hz] at hr
  have hp := z4S w (bytesRow (yu l) (grownCap w l.length 0 e)) e
  refine ⟨_, ?_, hp⟩
  simp only [execOp, hx]
  rw [show sv l = .string (yu l) from rfl, Sem.run_bind, hr]
  rfl
 refine .inr ⟨rfl, ?_⟩
 rw [hc]
 refine ⟨fun w => ?_, fun v z ho hr => ?_⟩
 ·obtain ⟨w', h1, h2⟩ := run w
  exact ⟨_, ⟨w.heap.size, bytesRow (yu l) (grownCap w l.length 0 e), e⟩, w', h1, rfl, h2⟩
 ·obtain ⟨w, w', e1, e2, hq⟩ := ho
  obtain ⟨w2, h1, h2⟩ := run w
  have e3 := e1.symm.trans h1
  injection e3 with e4 e5
  injection e4 with e6
  subst e5 e6
  have hge := grownCap_ge w l.length 0 e
  obtain ⟨g1, g2⟩ := z1u hl hge
  obtain ⟨q1, i1, _⟩ := hq.new z (by simp)
  obtain ⟨q2, i2, _⟩ := h2.new _ (List.mem_singleton.2 rfl)
  rw [e2] at i1
  have i3 := i1.symm.trans i2
  injection i3 with i3
  injection i3 with i4 i5
  have hzq : z = ⟨w.heap.size, bytesRow (yu l) (grownCap w l.length 0 e), e⟩ := by
   obtain ⟨zb, zc, zt⟩ := z
   exact (Blk.mk.injEq _ _ _ _ _ _).mpr ⟨e2, i4, i5⟩
  rw [hzq] at hr ⊢
  exact h _ _ (.inr ⟨_, _, _, rfl, rfl, hge, grownCap_le_maxLen w l.length 0 e hm, by rw [g2, Nat.mul_one], by simp, by rw [Nat.mul_one]; exact g1⟩) ⟨by simp, fun x' hx' y hy => by simp at hx'; subst hx'; exact hr y hy⟩
end
section
variable {P : Program} {G : Mem} {R : Reg} {ops : Array Oper} {n : Nat} {K : Env → Mm → Prop} {rest : List Oper} {E : Env} {M : Mm} {d : Nat} {ty : TypeId} {pos : String} {aft : Array Edge}
variable {T T' : TypeId} {x y : Operand}
theorem y3 (i : Nat) {e : TypeId} {l : List Nat} (hs : P.underlying T = some .string) (ht : P.underlying T' = some (.slice e)) (he : P.underlying e = some (.int .u8)) (hx : rd E x = some (sv l)) (hl : ∀ b ∈ l, b < 256) (hm : l.length ≤ maxLen) (hd : Nat.blt d n = true) (hv : xv R T T' = 6)
  (h : ∀ v (oz : Option Blk), OwnS e 1 v l.length (l.map by8) oz.toList → z2 P G R ops n K rest ((d, v) :: E) ((i, oz) :: M)) : z2 P G R ops n K (⟨some d, .convert T T' x, ty, pos, aft, none⟩ :: rest) E M :=
 fun _ m ha hM => z4e hv hs ht he (ha.rd hx) hl hm fun v nw ho hf => by
  obtain ⟨oz, rfl⟩ := VK ho
  have := hM.fresh i (l0 := []) (lr := m) (by simp) hf
  exact h v oz ho _ _ (ha.put hd _) (by simpa using this)
end
end Go.Proofs.YtlidhfijmcelpaaGreatDoor
namespace Go.Proofs.YtlidhfijmcelpaaGreatDoor
open Go Go.RowKit
def zo : Env → Env → Env
 | [], F => F
 | x :: E, F => x :: zo E F
def zu : Mm → Mm → Mm
 | [], F => F
 | x :: E, F => x :: zu E F
section
variable {P : Program} {G : Mem} {R : Reg} {ops : Array Oper} {n : Nat} {K : Env → Mm → Prop} {Q : Exit → Env → Mm → Prop} {rest : List Oper} {E : Env} {M : Mm} {d : Nat} {ty : TypeId} {pos : String} {aft : Array Edge}
variable {T T' : TypeId} {x y : Operand}
theorem zhK {c : Code} (Ek : Env) (Mk : Mm) (I : Nat → Env → Mm → Prop) (E0 : Env) (M0 : Mm) (k : Nat) (hs : sub (zo E0 Ek) E) (hl : xT (zu M0 Mk) M) (h0 : I k E0 M0)
  (round : ∀ k E M, I k E M → yc P G c n (VY (fun E' M' => ∃ k' E'' M'', k' < k ∧ sub (zo E'' Ek) E' ∧ xT (zu M'' Mk) M' ∧ I k' E'' M'') Q) (zo E Ek) (zu M Mk)) : yc P G (.loop c) n Q E M :=
 z6D (fun k E M => ∃ E1 M1, E = zo E1 Ek ∧ M = zu M1 Mk ∧ I k E1 M1) (zo E0 Ek) (zu M0 Mk) k hs hl ⟨_, _, rfl, rfl, h0⟩ fun k E M ⟨E1, M1, e1, e2, hI⟩ => by
  subst e1 e2
  intro a m ha hM
  refine yG (round k E1 M1 hI a m ha hM) fun e a' m' ⟨E', M', h1, h2, h3⟩ => ⟨E', M', h1, h2, ?_⟩
  cases e with
  | normal =>
   obtain ⟨k', E'', M'', q1, q2, q3, q4⟩ := h3
   exact ⟨k', _, _, q1, q2, q3, _, _, rfl, rfl, q4⟩
  | _ => exact h3
theorem yP {p q : Nat} (hx : rd E x = some (ii p)) (hy : rd E y = some (ii q)) (hd : Nat.blt d n = true) (hb : p < 9223372036854775808) (hq : q ≤ p) (h : z2 P G R ops n K rest ((d, ii (p - q)) :: E) M) :
  z2 P G R ops n K (⟨some d, .binOp .sub T x y T', ty, pos, aft, none⟩ :: rest) E M := xH hx hy hd (by omega) (by omega) (by rw [show (p : Int) - (q : Int) = ((p - q : Nat) : Int) by omega]; exact h)
theorem Wz {k : IntKind} {dk : TypeDesc} {p : Nat} (hs : P.underlying T = some dk) (ht : P.underlying T' = some (.int .u64)) (hx : rd E x = some (.int k (p : Int))) (hd : Nat.blt d n = true) (hv : xv R T T' = 1) (hb : p < 18446744073709551616)
  (h : z2 P G R ops n K rest ((d, u p) :: E) M) : z2 P G R ops n K (⟨some d, .convert T T' x, ty, pos, aft, none⟩ :: rest) E M := xz hs ht hx hd hv (by rw [Nat.mod_eq_of_lt hb]; exact h)
theorem zai {k : IntKind} {dk : TypeDesc} {p : Nat} (hs : P.underlying T = some dk) (ht : P.underlying T' = some (.int .u32)) (hx : rd E x = some (.int k (p : Int))) (hd : Nat.blt d n = true) (hv : xv R T T' = 1) (hb : p < 4294967296)
  (h : z2 P G R ops n K rest ((d, uw p) :: E) M) : z2 P G R ops n K (⟨some d, .convert T T' x, ty, pos, aft, none⟩ :: rest) E M := z5X hs ht hx hd hv (by rw [Nat.mod_eq_of_lt hb]; exact h)
theorem z1J {p : Nat} (hx : rd E x = some (uw p)) (hd : Nat.blt d n = true) (h : z2 P G R ops n K rest ((d, uw ((4294967295 ^^^ p) % 4294967296)) :: E) M) :
  z2 P G R ops n K (⟨some d, .unOp .xor T x, ty, pos, aft, none⟩ :: rest) E M := fun _ _ ha hM =>
 zK (v := uw ((4294967295 ^^^ p) % 4294967296)) rfl rfl (fun w => by
  have := z0v 4294967295 p
  have e3 : (if IntKind.u32.signed = true then (-1 : Int) else IntKind.u32.max) = ((4294967295 : Nat) : Int) := by decide
  simp only [execOp, ha.rd hx, Op.unary, e3, Op.intBits, IntKind.bits]
  simp
  exact this) (h _ _ (ha.put hd _) hM)
theorem z9w {p : Int} (hx : rd E x = some (.int .i64 p)) (hd : Nat.blt d n = true) (h0 : -9223372036854775808 < p) (h1 : p < 9223372036854775808) (h : z2 P G R ops n K rest ((d, .int .i64 (-p)) :: E) M) :
  z2 P G R ops n K (⟨some d, .unOp .neg T x, ty, pos, aft, none⟩ :: rest) E M := fun _ _ ha hM =>
 zK (v := .int .i64 (-p)) rfl rfl (fun w => by
  have e := wZ (z := -p) (by omega) (by omega)
  simp [execOp, ha.rd hx, Op.unary, Op.intArith, e]) (h _ _ (ha.put hd _) hM)
theorem yY {l : List Oper} {s p : Nat} (h : ∀ q, q = p → z2 P G R ops n K l ((s, uw q) :: E) M) : z2 P G R ops n K l ((s, uw p) :: E) M := h p rfl
theorem VS {l : List Oper} {s p : Nat} (h : ∀ q, q = p → z2 P G R ops n K l ((s, ii q) :: E) M) : z2 P G R ops n K l ((s, ii p) :: E) M := h p rfl
end
end Go.Proofs.YtlidhfijmcelpaaGreatDoor
namespace Go.Proofs.YtlidhfijmcelpaaGreatDoor
open Go Go.RowKit
theorem zgB {l k : List Nat} (hl : ∀ b ∈ l, b < 256) (hk : ∀ b ∈ k, b < 256) : ((yu l).toList == (yu k).toList) = decide (l = k) := by
 have e : ∀ r : List Nat, (yu r).toList = r.map UInt8.ofNat := fun r => by
  rw [ByteArray.toList_eq]
  simp [yu]
 rw [e, e]
 by_cases hlk : l = k
 ·subst hlk; simp
 ·rw [decide_eq_false hlk, beq_eq_false_iff_ne]
  intro hh
  apply hlk
  have back : ∀ r : List Nat, (∀ b ∈ r, b < 256) → (r.map UInt8.ofNat).map UInt8.toNat = r := fun r hr => by
   rw [List.map_map]
   conv => rhs; rw [← List.map_id r]
   exact List.map_congr_left fun b hb => by have := hr b hb; simp; omega
  rw [← back l hl, ← back k hk, hh]
theorem WU (r N : Nat) (f : Nat → Nat) (t : TypeId) (o len cap : Nat) (h : o + len ≤ N) (hc : len ≤ cap) : Shows [⟨r, arr .u8 N f, t⟩] 1 (.slice (some ⟨r, o, none⟩) len cap) ((List.range len).map fun j => f (o + j)).length (((List.range len).map fun j => f (o + j)).map by8) := by
 have e : ((List.range len).map fun j => f (o + j)).length = len := by simp
 refine .inr ⟨r, o, cap, arr .u8 N f, t, by rw [e], by rw [e]; exact hc, by simp, by simp, by rw [e, zd]; omega, fun j u hj => ?_⟩
 rw [List.getElem?_map, List.getElem?_map] at hj
 by_cases hl : j < len
 ·rw [List.getElem?_eq_getElem (by simpa using hl)] at hj
  simp at hj
  rw [zP (by omega), ← hj]
 ·rw [List.getElem?_eq_none (by simpa using hl)] at hj
  cases hj
theorem Xn {e : TypeId} {v : Value} {k j b : Nat} {l : List Nat} {m : Mem} (h : OwnS e 1 v k ((l.map by8).set j (by8 b)) m) : OwnS e 1 v k ((l.set j b).map by8) m := by
 rw [List.map_set]; exact h
theorem yk {B : Mem} {z n : Nat} {v : Value} {xs : List Value} (h : Shows B z v n xs) : v.cells = #[v] := by
 rcases h with ⟨_, _, oa, c, rfl, _⟩ | ⟨b, o, c, cs, t, rfl, _⟩ <;> rfl
section
variable {P : Program} {G : Mem} {R : Reg} {ops : Array Oper} {K : Act → Mem → Prop} {rest : List Oper} {a : Act} {m : Mem} {d : Option Tmp} {ty : TypeId} {pos : String} {aft : Array Edge}
variable {T T' : TypeId} {x y : Operand}
theorem z5k {B : Mem} {vy : Value} {k n : Nat} {xs : List Value} (hsrc : Shows B 1 vy k xs) (hn : n ≤ k) {w : World} (hR : ∀ q ∈ B, RIn w q) : (Builtin.firstCells 1 n vy).run P w = .ok (xs.take n).toArray w ∧ (Builtin.lenOf vy).run P w = .ok k w := by
 rcases hsrc with ⟨rfl, rfl, oa, cap, rfl, _⟩ | ⟨b, o, cap, c, t, rfl, _, hb, hl, ho, hc⟩
 ·have : n = 0 := by omega
  subst this
  refine ⟨?_, by simp [Builtin.lenOf]⟩
  cases oa with
  | none => simp [Builtin.firstCells]
  | some a => simp [Builtin.firstCells, loadCells, loadCellsFrom]
 ·refine ⟨?_, by simp [Builtin.lenOf]⟩
  have hin := hR _ hb
  refine run_firstCells_some (P := P) w 1 n ⟨b, o, none⟩ k cap (xs.take n) (by rw [List.length_take, hl]; omega) fun j v hj => ?_
  rw [List.getElem?_take] at hj
  split at hj
  ·have h1 := hc j v hj
   have hlt : o + j < c.size := (Array.getElem?_eq_some_iff.1 h1).1
   rw [wQ]
   have := hin.2 (o + j) hlt
   simp only at this
   rw [this]; exact h1
  ·cases hj
theorem zdb {e : TypeId} {b o N dl cap i k : Nat} {F : Nat → Value} {t : TypeId} {xs : List Value} {B : Mem} {vy : Value} (hT : P.underlying T = some (.slice e)) (hs : (P.info? e).map (·.size) = some 1) (hx : a.eval x = .slice (some ⟨b, o, none⟩) dl cap) (hy : a.eval y = vy)
  (hsrc : Shows B 1 vy k xs) (hB : ∀ q ∈ B, q ∈ G ∨ q ∈ m) (h1 : ∀ u ∈ xs, u.oneCell' = true) (hm : m[i]? = some ⟨b, zM N F, t⟩) (ho : o + dl ≤ N)
  (h : ∀ lr, List.Perm m (⟨b, zM N F, t⟩ :: lr) → z8 P G R ops K rest (a.put d (ii (min k dl))) (⟨b, zM N (xE F o (min k dl) (fun j => xs.getD j undef)), t⟩ :: lr)) (hL : R.L = none := by rfl) : z8 P G R ops K (⟨d, .call ⟨.builtin .copy, #[x, y], #[T, T']⟩, ty, pos, aft, none⟩ :: rest) a m := by
 have hmem : (⟨b, zM N F, t⟩ : Blk) ∈ m := xi hm
 obtain ⟨l1, l2, hml⟩ := List.append_of_mem hmem
 have hp : List.Perm m (⟨b, zM N F, t⟩ :: (l1 ++ l2)) := by rw [hml]; exact List.perm_middle
 obtain ⟨c', hc'⟩ : ∃ c', c' = zM N (xE F o (min k dl) (fun j => xs.getD j undef)) := ⟨_, rfl⟩
 have hxl : xs.length = k := by have := hsrc.len; omega
 refine .inr ⟨rfl, ?_⟩
 show Z3 _ _ _ _ _ _ _ 5
 refine ⟨[⟨b, zM N F, t⟩], l1 ++ l2, fun v r1 nw => v = ii (min k dl) ∧ r1 = [⟨b, c', t⟩] ∧ nw = [], by simpa using hp, fun _ => ⟨_, _, _, ⟨rfl, rfl, rfl⟩, by simp, by simp⟩, ?_, ?_, ?_⟩
 ·exact ⟨by rintro v r1 nw ⟨_, rfl, _⟩; rfl, fun _ _ => Yy hL _⟩
 ·intro w hG hw _
  have hin := hw _ hmem
  refine .inl ⟨_, _, _, w.setRow b c', ?_, ⟨rfl, rfl, rfl⟩, XB hin (by rw [hc', z3, z3])⟩
  obtain ⟨hf, hlo⟩ := z5k (P := P) (n := min k dl) hsrc (by omega) (w := w) (fun q hq => by
   rcases hB q hq with h2 | h2
   ·exact hG q h2
   ·exact (hw q h2).read)
  have e1 : xs.take (min k dl) = (zM (min k dl) (fun j => xs.getD j undef)).toList := by
   apply List.ext_getElem
   ·simp [zM]; omega
   ·intro j h2 h3
    have hj : j < xs.length := by simp at h2; omega
    simp [zM, List.getD_eq_getElem?_getD, List.getElem?_eq_getElem hj]
  have hst := yh (P := P) b o t (xs.take (min k dl)) 0 (zM N F) w hin (by simp [z3]; omega) (fun v hv => h1 v (List.mem_of_mem_take hv))
  have hc2 : ((zM N F).toList.take (o + 0) ++ xs.take (min k dl) ++ (zM N F).toList.drop (o + 0 + (xs.take (min k dl)).length)).toArray = c' := by
   have hl2 : (xs.take (min k dl)).length = min k dl := by rw [List.length_take]; omega
   rw [hc', hl2, e1, Nat.add_zero, z1o N o (min k dl) F _ (by omega)]
  rw [hc2] at hst
  generalize xs.take (min k dl) = vs at hf hst
  cases hi : P.info? e with
  | none => simp [hi] at hs
  | some q =>
   have hsz : q.size = 1 := by simpa [hi] using hs
   have hmin : Nat.min k dl = min k dl := rfl
   simp only [execOp, resolve, invoke, builtin, Sem.run_bind, Sem.run_pure, Result.andThen_ok, List.map_toArray, List.map_cons, List.map_nil, hx, hy]
   simp [Builtin.copy_, run_underlying hT, hlo, sizeOf, typeInfo, hi, hsz, hmin, hf, hst, goInt]
 ·rintro v r1 nw ⟨rfl, rfl, rfl⟩ _
  rw [hc']
  simpa using h (l1 ++ l2) hp
end
section
variable {P : Program} {G : Mem} {R : Reg} {ops : Array Oper} {n : Nat} {K : Env → Mm → Prop} {rest : List Oper} {E : Env} {M : Mm} {d : Nat} {ty : TypeId} {pos : String} {aft : Array Edge}
variable {T T' : TypeId} {x y : Operand}
theorem SeenE.mem {B : Mem} (h : SeenE G R M B) {m : Mem} (hM : FitsM M m) : ∀ q ∈ B, q ∈ G ∨ q ∈ m := fun q hq => by
 rcases h q hq with h1 | ⟨i, h1, _⟩
 ·exact .inl h1
 ·exact .inr (hM.has i q h1)
theorem z8Q {e : TypeId} {b o N dl cap i k : Nat} {F : Nat → Value} {t : TypeId} {xs : List Value} {B : Mem} {vy : Value} (hT : P.underlying T = some (.slice e)) (hs : (P.info? e).map (·.size) = some 1) (hsrc : Shows B 1 vy k xs) (hB : SeenE G R M B) (h1 : ∀ u ∈ xs, u.oneCell' = true)
  (hx : rd E x = some (.slice (some ⟨b, o, none⟩) dl cap)) (hy : rd E y = some vy) (hm : lkM M i = some ⟨b, zM N F, t⟩) (ho : o + dl ≤ N) (hd : Nat.blt d n = true)
  (h : z2 P G R ops n K rest ((d, ii (min k dl)) :: E) ((i, some ⟨b, zM N (xE F o (min k dl) (fun j => xs.getD j undef)), t⟩) :: M)) (hL : R.L = none := by rfl) : z2 P G R ops n K (⟨some d, .call ⟨.builtin .copy, #[x, y], #[T, T']⟩, ty, pos, aft, none⟩ :: rest) E M :=
 fun _ _ ha hM => by
  obtain ⟨k', hk⟩ := hM.at hm
  exact zdb (hL := hL) hT hs (ha.rd hx) (ha.rd hy) hsrc (hB.mem hM) h1 hk ho fun lr hp => h _ _ (ha.put hd _) (hM.same (oz' := some _) hm (by simpa using hp) rfl)
theorem zf {A B : Mem} (h1 : SeenE G R M A) (h2 : SeenE G R M B) : SeenE G R M (A ++ B) := fun z hz => by
 rcases List.mem_append.1 hz with h | h
 ·exact h1 z h
 ·exact h2 z h
theorem z8t {x : Blk} {G' : Mem} : SeenE (x :: G') R M [x] := fun z hz => .inl (by simp at hz; simp [hz])
theorem z66 : SeenE G R M [] := fun _ h => (by cases h)
theorem zi {g' : Mem} {fo : Operand} {f : FuncId} {args : Array Operand} {tys : Array TypeId} {vs cap : List Value} {v : Value} (hf : rd E fo = some (.func (.func f) #[] cap.toArray)) (hargs : rdl E args.toList = some vs) (he : xF P f = true) (hg : SeenE G R M g')
  (hF : Fn P g' f (vs ++ cap).toArray v) (hd : Nat.blt d n = true) (hR : yW R = true) (h : z2 P G R ops n K rest ((d, v) :: E) M) : z2 P G R ops n K (⟨some d, .call ⟨.value fo, args, tys⟩, ty, pos, aft, none⟩ :: rest) E M :=
 fun _ _ ha hM => z4Q hR (ha.rd hf) (ha.args hargs) he (fun w hG hm => by
  have := hF w (fun z hz => (hg.seen hM).rin hG hm hz)
  simpa using this) (h _ _ (ha.put hd _) hM)
theorem Xq {i k j : Nat} {e : TypeId} {v w : Value} {xs : List Value} {oz : Option Blk} (hown : OwnS e 1 v k xs oz.toList) (hs : (P.info? T).map (·.size) = some 1) (hx : rd E x = some (wb v j)) (hy : rd E y = some w) (hw : w.oneCell' = true) (hi : lkM M i = oz) (hj : j < k) (hX : R.X = [])
  (h : ∀ oz' : Option Blk, OwnS e 1 v k (xs.set j w) oz'.toList → z2 P G R ops n K rest E ((i, oz') :: M)) (hY : R.Y = none := by first | rfl | assumption) : z2 P G R ops n K (⟨none, .store T x y, ty, pos, aft, none⟩ :: rest) E M :=
 fun _ m ha hM => by
  rcases hown with ⟨_, h0, _, _⟩ | ⟨r, cap, c, rfl, hl, hc, hm, hz, hxl, ht⟩
  ·omega
  ·have hoz : oz = some ⟨r, c, e⟩ := by
    cases oz with
    | none => simp at hl
    | some z => simp at hl; rw [hl]
   subst hoz
   obtain ⟨q, hq⟩ := hM.at hi
   have hjc : j < c.size := by omega
   have hx' : rd E x = some (.pointer (some ⟨r, j, none⟩)) := by
    rw [hx]; simp [wb]
   refine V0 hs (ha.rd hx') (ha.rd hy) hw hq (.inl hX) hjc ?_
   refine h (some ⟨r, c.setIfInBounds j w, e⟩) (.inr ⟨r, cap, _, rfl, rfl, hc, hm, by simpa using hz, by simpa using hxl, ?_⟩) _ _ ha (hM.store hi hq _)
   rw [Array.toList_setIfInBounds, List.take_set, ht]
theorem z9e {l k : List Nat} (hx : rd E x = some (sv l)) (hy : rd E y = some (sv k)) (hd : Nat.blt d n = true) (hl : ∀ b ∈ l, b < 256) (hk : ∀ b ∈ k, b < 256) (h : z2 P G R ops n K rest ((d, .bool (decide (l ≠ k))) :: E) M) :
  z2 P G R ops n K (⟨some d, .binOp .neq T x y T', ty, pos, aft, none⟩ :: rest) E M := fun _ _ ha hM => zJ (fun w => by
   have e1 := zgB hl hk
   rw [ha.rd hx, ha.rd hy]
   have e2 : ((yu l).toList != (yu k).toList) = decide (l ≠ k) := by
    rw [bne, e1]
    by_cases h : l = k <;> simp [h]
   simp only [eqGuard, binOp, Op.stringOp]
   rw [← e2]
   rfl) (h _ _ (ha.put hd _) hM)
theorem z3O {e : TypeId} {b o N dl cap i : Nat} {f : Nat → Nat} {t : TypeId} {l : List Nat} {B : Mem} {vy : Value} (hT : P.underlying T = some (.slice e)) (hs : (P.info? e).map (·.size) = some 1) (hsrc : Shows B 1 vy l.length (l.map by8)) (hB : SeenE G R M B)
  (hx : rd E x = some (.slice (some ⟨b, o, none⟩) dl cap)) (hy : rd E y = some vy) (hm : lkM M i = some ⟨b, arr .u8 N f, t⟩) (ho : o + dl ≤ N) (hd : Nat.blt d n = true)
  (h : z2 P G R ops n K rest ((d, ii (min l.length dl)) :: E) ((i, some ⟨b, arr .u8 N (fun j => if o ≤ j ∧ j < o + min l.length dl then l.getD (j - o) 0 else f j), t⟩) :: M)) (hL : R.L = none := by rfl) : z2 P G R ops n K (⟨some d, .call ⟨.builtin .copy, #[x, y], #[T, T']⟩, ty, pos, aft, none⟩ :: rest) E M :=
 z8Q (hL := hL) (F := fun i => .int .u8 (f i : Int)) hT hs hsrc hB (fun u hu => by obtain ⟨n, _, rfl⟩ := List.mem_map.1 hu; rfl) hx hy hm ho hd (by
  have e1 : zM N (xE (fun i => .int .u8 (f i : Int)) o (min l.length dl) (fun j => (l.map by8).getD j undef)) = arr .u8 N (fun j => if o ≤ j ∧ j < o + min l.length dl then l.getD (j - o) 0 else f j) := by
   rw [XX]
   refine yB fun j _ => ?_
   unfold xE
   by_cases hj : o ≤ j ∧ j < o + min l.length dl
   ·rw [if_pos hj, if_pos hj]
    have : j - o < l.length := by omega
    simp [List.getD_eq_getElem?_getD, List.getElem?_eq_getElem this]
   ·rw [if_neg hj, if_neg hj]
  rw [e1]; exact h)
end
end Go.Proofs.YtlidhfijmcelpaaGreatDoor
namespace Go.Proofs.YtlidhfijmcelpaaGreatDoor
open Go Go.RowKit
section
variable {P : Program}
end
end Go.Proofs.YtlidhfijmcelpaaGreatDoor
namespace Go.Proofs.YtlidhfijmcelpaaGreatDoor
open Go Go.RowKit
section
variable {P : Program} {G : Mem} {R : Reg} {ops : Array Oper} {K : Act → Mem → Prop} {rest : List Oper} {a : Act} {m : Mem} {d : Option Tmp} {ty : TypeId} {pos : String} {aft : Array Edge}
variable {T T' : TypeId} {x y : Operand}
theorem z4r {N len cap : Nat} {e : TypeId} {q : Addr} (hT : P.underlying T = some (.array N e)) (hx : a.eval x = .slice (some q) len cap) (hl : N ≤ len)
  (hK : z8 P G R ops K rest (a.put d (.pointer (some q))) m) : z8 P G R ops K (⟨d, .sliceToArrayPointer T x, ty, pos, aft, none⟩ :: rest) a m :=
 zK (v := .pointer (some q)) rfl rfl (fun w => by
  have hn : ¬ len < N := by omega
  simp only [execOp, Instr.arrayAt, hx, underlying, program]
  simp [Sem.run, hT, hn]) hK
theorem zeN {len cap : Nat} {e : TypeId} {q : Option Addr} (hR : yW R = true) (hT : P.underlying T = some (.slice e)) (hx : a.eval x = .slice q len cap) (h : z8 P G R ops K rest (a.put d (ii len)) m) :
  z8 P G R ops K (⟨d, .call ⟨.builtin .len, #[x], #[T]⟩, ty, pos, aft, none⟩ :: rest) a m :=
 Xp rfl hR (fun w => by
  have : (Builtin.len_ #[T] ty #[.slice q len cap]).run P w = .ok (ii len) w := by simp [Builtin.len_, run_underlying hT, goInt]
  simp only [execOp, resolve, invoke, builtin, Sem.run_bind, Sem.run_pure, Result.andThen_ok, List.map_toArray, List.map_cons, List.map_nil, hx, this]) h
end
variable {P : Program} {G : Mem} {R : Reg} {ops : Array Oper} {n : Nat} {K : Env → Mm → Prop} {rest : List Oper} {E : Env} {M : Mm} {d : Nat} {ty : TypeId} {pos : String} {aft : Array Edge}
variable {T T' : TypeId} {x y : Operand}
theorem z3b {N len cap : Nat} {e : TypeId} {q : Addr} (hT : P.underlying T = some (.array N e)) (hx : rd E x = some (.slice (some q) len cap)) (hl : N ≤ len) (hd : Nat.blt d n = true)
  (h : z2 P G R ops n K rest ((d, .pointer (some q)) :: E) M) : z2 P G R ops n K (⟨some d, .sliceToArrayPointer T x, ty, pos, aft, none⟩ :: rest) E M :=
 fun _ _ ha hM => z4r hT (ha.rd hx) hl (h _ _ (ha.put hd _) hM)
theorem z92 {len cap : Nat} {e : TypeId} {q : Option Addr} (hT : P.underlying T = some (.slice e)) (hx : rd E x = some (.slice q len cap)) (hd : Nat.blt d n = true) (hR : yW R = true) (h : z2 P G R ops n K rest ((d, ii len) :: E) M) :
  z2 P G R ops n K (⟨some d, .call ⟨.builtin .len, #[x], #[T]⟩, ty, pos, aft, none⟩ :: rest) E M := fun _ _ ha hM => zeN hR hT (ha.rd hx) (h _ _ (ha.put hd _) hM)
end Go.Proofs.YtlidhfijmcelpaaGreatDoor
namespace Go.Proofs.YtlidhfijmcelpaaGreatDoor
open Go Go.RowKit
section
variable {P : Program} {G : Mem} {n : Nat}
theorem zfu {r r' r'' : ResultVar} (f : ResultVar → Sem Value) : Array.mapM f #[r, r', r''] = (do let v ← f r; let v' ← f r'; let v'' ← f r''; pure #[v, v', v'']) := by
 rw [Array.mapM_eq_mapM_toList]; simp
def zlb (P : Program) (fn : Func) (v v' v'' : Value) : Exit → Env → Mm → Prop
 | .normal, E, M | .ret, E, M => ∃ r r' r'', fn.results = #[r, r', r''] ∧ Res P E M r v ∧ Res P E M r' v' ∧ Res P E M r'' v''
 | _, _, _ => False
theorem fn3 {f : FuncId} {fn : Func} {c : Code} {args : Array Value} {v v' v'' : Value} (hf : P.funcs[f]? = some fn) (hb : fn.body = some c) (hn : fn.ntmps = n) (ha : args.size ≤ n) (E : Env) (hE : ∀ t v, lk E t = some v → args[t]? = some v)
  (h : yc P G c n (zlb P fn v v' v'') E []) : Fn P G f args (.tuple #[v, v', v'']) :=
 zez hf hb (yG (h _ [] ⟨by simp [hn]; omega, rfl, fun t v ht => by
  have := hE t v ht
  have hlt := (Array.getElem?_eq_some_iff.1 this).1
  rw [Array.getElem?_append_left hlt]; exact this⟩ (FitsM.nil _)) fun e a m ⟨E', M', h1, h0, h2⟩ => by
   have key : (∃ r r' r'', fn.results = #[r, r', r''] ∧ Res P E' M' r v ∧ Res P E' M' r' v' ∧ Res P E' M' r'' v'') → a.defers = [] ∧ ∀ w, MemIn m w → (results fn a.tmps).run P w = .ok (.tuple #[v, v', v'']) w := fun ⟨r, r', r'', hr, hR, hR', hR''⟩ => ⟨h1.defers, fun w hw => by
    have := yR h1 h0 hw hR
    have t' := yR h1 h0 hw hR'
    have t'' := yR h1 h0 hw hR''
    rw [yT, hr, zfu]
    simp [this, t', t'']⟩
   cases e <;> first | exact key h2 | exact h2.elim)
def ziB (P : Program) (e : TypeId) (z k : Nat) (xs : List Value) (q u : Value) (fn : Func) : Exit → Env → Mm → Prop
 | .normal, E, M | .ret, E, M => ∃ r r' r'' v oz i, fn.results = #[r, r', r''] ∧ Res P E M r q ∧ Res P E M r' v ∧ Res P E M r'' u ∧ OwnS e z v k xs (Option.toList oz) ∧ lkM M i = oz
 | _, _, _ => False
theorem zlp {f : FuncId} {fn : Func} {c : Code} {args : Array Value} {e : TypeId} {z k : Nat} {xs : List Value} {q u : Value} (hf : P.funcs[f]? = some fn) (hb : fn.body = some c) (hn : fn.ntmps = n) (ha : args.size ≤ n) (E : Env) (hE : ∀ t v, lk E t = some v → args[t]? = some v)
  (h : yc P G c n (ziB P e z k xs q u fn) E []) : Fx P G [] f args (fun v l1 nw => l1 = [] ∧ ∃ v', v = .tuple #[q, v', u] ∧ OwnS e z v' k xs nw) :=
 z0P hf hb (yG (h _ [] ⟨by simp [hn]; omega, rfl, fun t v ht => by
  have := hE t v ht
  have hlt := (Array.getElem?_eq_some_iff.1 this).1
  rw [Array.getElem?_append_left hlt]; exact this⟩ (FitsM.nil _)) fun e' a m ⟨E', M', h1, h0, h2⟩ => by
   have key : (∃ r r' r'' v oz i, fn.results = #[r, r', r''] ∧ Res P E' M' r q ∧ Res P E' M' r' v ∧ Res P E' M' r'' u ∧ OwnS e z v k xs (Option.toList oz) ∧ lkM M' i = oz) → a.defers = [] ∧ ∃ v l1 nw, (l1 = [] ∧ ∃ v', v = Value.tuple #[q, v', u] ∧ OwnS e z v' k xs nw) ∧ (nw.map (·.b)).Nodup ∧ (∀ x ∈ nw, x.b ∉ ([] : Mem).map (·.b)) ∧ (∀ x ∈ l1 ++ nw, x ∈ m) ∧ ∀ w, MemIn m w → (results fn a.tmps).run P w = .ok v w := fun ⟨r, r', r'', v, oz, i, hr, hR, hR', hR'', ho, hi⟩ =>
    ⟨h1.defers, .tuple #[q, v, u], [], oz.toList, ⟨rfl, v, rfl, ho⟩, z7H ho, by simp, fun x hx => by
     have : oz = some x := by simpa using hx
     exact h0.has i x (hi.trans this), fun w hw => by
     have := yR h1 h0 hw hR
     have t' := yR h1 h0 hw hR'
     have t'' := yR h1 h0 hw hR''
     rw [yT, hr, zfu]
     simp [this, t', t'']⟩
   cases e' <;> first | exact key h2 | exact h2.elim)
end
section
variable {P : Program} {G : Mem} {R : Reg} {ops : Array Oper} {K : Act → Mem → Prop} {rest : List Oper} {a : Act} {m : Mem} {d : Option Tmp} {ty : TypeId} {pos : String} {aft : Array Edge}
variable {T T' : TypeId} {x y : Operand}
theorem Shows.cells {z n o : Nat} {c : Array Value} {xs : List Value} {j l : Nat} (hl : xs.length = n * z) (ho : o + n * z ≤ c.size) (hc : ∀ j u, xs[j]? = some u → c[o + j]? = some u) (hj : j + l ≤ xs.length) : c.extract (o + j) (o + j + l) = ((xs.drop j).take l).toArray := by
 apply Array.ext_getElem?
 intro i
 by_cases hi : i < l
 ·have h1 : (xs.drop j)[i]? = xs[j + i]? := List.getElem?_drop
  have h2 : xs[j + i]? = some xs[j + i] := List.getElem?_eq_getElem (by omega)
  have h3 := hc (j + i) _ h2
  have hL : (c.extract (o + j) (o + j + l))[i]? = some xs[j + i] := by rw [Array.getElem?_extract, if_pos (by omega), show o + j + i = o + (j + i) by omega, h3]
  have hR : ((xs.drop j).take l).toArray[i]? = some xs[j + i] := by rw [List.getElem?_toArray, List.getElem?_take_of_lt hi, h1, h2]
  rw [hL, hR]
 ·rw [Array.getElem?_eq_none (by simp; omega), Array.getElem?_eq_none (by simp; omega)]
theorem z9O {td : TypeDesc} {v : Value} {B : Mem} {n j l z : Nat} {xs : List Value} (hB : Seen G R m B) (hT : P.underlying T = some td) (hn : zy td = true) (hs : (P.info? T).map (·.size) = some l) (hx : a.eval x = wb v j) (hv : Shows B z v n xs) (hl : 0 < l) (hj : j + l ≤ xs.length)
  (h : z8 P G R ops K rest (a.put d (.agg ((xs.drop j).take l).toArray)) m) : z8 P G R ops K (⟨d, .load T x, ty, pos, aft, none⟩ :: rest) a m :=
 .inr ⟨rfl, .agg ((xs.drop j).take l).toArray, fun w hG hm => .inl (by
  rcases hv with ⟨_, rfl, _⟩ | ⟨b, o, cap, c, t, rfl, _, hb, hlx, ho, hc⟩
  ·simp at hj; omega
  ·have hin := hB.rin hG hm hb
   have e := Shows.cells hlx ho hc hj
   have hsz : o + j + l ≤ c.size := by omega
   simp only [execOp, Instr.loadAt, hx, wb, Instr.sureAddr]
   simp [W3 hin hT hn hs hsz, e]), h⟩
end
section
variable {P : Program} {G : Mem} {R : Reg} {ops : Array Oper} {n : Nat} {K : Env → Mm → Prop} {rest : List Oper} {E : Env} {M : Mm} {d : Nat} {ty : TypeId} {pos : String} {aft : Array Edge}
variable {T T' : TypeId} {x y : Operand}
theorem wz {td : TypeDesc} {v : Value} {B : Mem} {k j l z : Nat} {xs cs : List Value} (hv : Shows B z v k xs) (hB : SeenE G R M B) (hT : P.underlying T = some td) (hn : zy td = true) (hs : (P.info? T).map (·.size) = some l) (hx : rd E x = some (wb v j)) (hl : 0 < l) (hj : j + l ≤ xs.length) (hc : (xs.drop j).take l = cs) (hd : Nat.blt d n = true)
  (h : z2 P G R ops n K rest ((d, .agg cs.toArray) :: E) M) : z2 P G R ops n K (⟨some d, .load T x, ty, pos, aft, none⟩ :: rest) E M := fun _ _ ha hM => z9O (hB.seen hM) hT hn hs (ha.rd hx) hv hl hj (by rw [hc]; exact h _ _ (ha.put hd _) hM)
theorem xc {α : Type} {C : α → List Value} {z : Nat} (hC : ∀ x, (C x).length = z) : ∀ rs : List α, (rs.flatMap C).length = rs.length * z
 | [] => by simp
 | r :: rs => by rw [List.flatMap_cons, List.length_append, hC, xc hC rs, List.length_cons, Nat.succ_mul]; omega
theorem X5 {α : Type} {C : α → List Value} {z : Nat} (hC : ∀ x, (C x).length = z) : ∀ (rs : List α) (i : Nat) (h : i < rs.length), ((rs.flatMap C).drop (i * z)).take z = C rs[i]
 | r :: rs, 0, _ => by rw [List.flatMap_cons, Nat.zero_mul, List.drop_zero, ← hC r, List.take_left']; rfl; rfl
 | r :: rs, i + 1, h => by
  rw [List.flatMap_cons, Nat.succ_mul, Nat.add_comm, ← List.drop_drop, List.drop_left' (hC r)]
  exact X5 hC rs i (by simpa using h)
end
end Go.Proofs.YtlidhfijmcelpaaGreatDoor
namespace Go.Proofs.YtlidhfijmcelpaaGreatDoor
open Go Go.RowKit
def xb : List zW → Nat
 | [] => 0
 | p :: ps => p.1 + xb ps
theorem ZI : ∀ (as bs : List zW) (i : Nat), yA (as ++ bs) i = if i < xb as then yA as i else yA bs (i - xb as)
 | [], bs, i => by simp [xb]
 | p :: as, bs, i => by
  have e : xb (p :: as) = p.1 + xb as := rfl
  have e1 : yA (p :: as ++ bs) i = if i < p.1 then p.2 i else yA (as ++ bs) (i - p.1) := rfl
  have e2 : yA (p :: as) i = if i < p.1 then p.2 i else yA as (i - p.1) := rfl
  rw [e, e1, e2]
  by_cases h : i < p.1
  ·rw [if_pos h, if_pos h, if_pos (by omega)]
  ·rw [if_neg h, if_neg h, ZI as bs]
   by_cases h2 : i - p.1 < xb as
   ·rw [if_pos h2, if_pos (by omega)]
   ·rw [if_neg h2, if_neg (by omega)]
    congr 1; omega
abbrev yZ (ps : List zW) (k c : Nat) : List zW := (ps.drop k).take c
theorem z2D (ps : List zW) (k c : Nat) : ps.take k ++ (yZ ps k c ++ ps.drop (k + c)) = ps := by
 rw [← List.drop_drop, List.take_append_drop, List.take_append_drop]
theorem zgo (as bs cs : List zW) {i : Nat} (h : i < xb bs) : yA (as ++ (bs ++ cs)) (xb as + i) = yA bs i := by
 rw [ZI, if_neg (by omega), ZI, if_pos (by omega)]
 congr 1; omega
theorem z8D (ps : List zW) (k c : Nat) {i : Nat} (h : i < xb (yZ ps k c)) : yA ps (xb (ps.take k) + i) = yA (yZ ps k c) i := by
 have := zgo (ps.take k) (yZ ps k c) (ps.drop (k + c)) h
 rw [z2D] at this
 exact this
theorem zia (as bs cs qs : List zW) (hq : xb qs = xb bs) : ∀ i, xE (yA (as ++ (bs ++ cs))) (xb as) (xb qs) (yA qs) i = yA (as ++ (qs ++ cs)) i := by
 intro i
 unfold xE
 rw [ZI as (bs ++ cs), ZI as (qs ++ cs)]
 by_cases h1 : i < xb as
 ·rw [if_neg (by omega), if_pos h1, if_pos h1]
 ·rw [if_neg h1, if_neg h1, ZI bs cs, ZI qs cs]
  by_cases h2 : i - xb as < xb qs
  ·rw [if_pos (by omega), if_pos h2]
  ·rw [if_neg (by omega), if_neg h2, if_neg (by omega), hq]
theorem z6L (ps qs : List zW) (k c : Nat) (hq : xb qs = xb (yZ ps k c)) : ∀ i, xE (yA ps) (xb (ps.take k)) (xb qs) (yA qs) i = yA (ps.take k ++ (qs ++ ps.drop (k + c))) i := by
 intro i
 have := zia (ps.take k) (yZ ps k c) (ps.drop (k + c)) qs hq i
 rw [z2D] at this
 exact this
theorem zaM {N : Nat} {ps : List zW} (k c : Nat) (h : xb (ps.take k) + xb (yZ ps k c) ≤ N) : (cells N ps).extract (xb (ps.take k)) (xb (ps.take k) + xb (yZ ps k c)) = cells (xb (yZ ps k c)) (yZ ps k c) := by
 rw [cells, YF N _ _ _ h, cells]
 exact yB fun t ht => z8D ps k c ht
section
variable {P : Program} {G : Mem} {R : Reg} {ops : Array Oper} {K : Act → Mem → Prop} {rest : List Oper} {a : Act} {m : Mem} {d : Option Tmp} {ty : TypeId} {pos : String} {aft : Array Edge}
variable {T T' : TypeId} {x y : Operand}
end
section
variable {P : Program} {G : Mem} {R : Reg} {ops : Array Oper} {n : Nat} {K : Env → Mm → Prop} {rest : List Oper} {E : Env} {M : Mm} {d : Nat} {ty : TypeId} {pos : String} {aft : Array Edge}
variable {T T' : TypeId} {x y : Operand}
theorem zkU (k c : Nat) {b i o l N : Nat} {ps : List zW} {t : TypeId} {td : TypeDesc} (hT : P.underlying T = some td) (hn : zy td = true) (hs : (P.info? T).map (·.size) = some l) (hx : rd E x = some (.pointer (some ⟨b, o, none⟩))) (hm : lkM M i = some ⟨b, cells N ps, t⟩)
  (ho : o = xb (ps.take k)) (hl : l = xb (yZ ps k c)) (hN : o + l ≤ N) (hd : Nat.blt d n = true) (hX : ∃ js, v7 M i js R) (h : z2 P G R ops n K rest ((d, .agg (cells l (yZ ps k c))) :: E) M) : z2 P G R ops n K (⟨some d, .load T x, ty, pos, aft, none⟩ :: rest) E M :=
 z8N hT hn hs hx hm hN hd hX (by
  have : zM l (fun t => yA ps (o + t)) = cells l (yZ ps k c) := yB fun t ht => by rw [ho]; exact z8D ps k c (by omega)
  rw [this]; exact h)
theorem zkW (k c : Nat) {b o i l N : Nat} {ps qs : List zW} {t : TypeId} (hs : (P.info? T).map (·.size) = some l) (hx : rd E x = some (.pointer (some ⟨b, o, none⟩))) (hy : rd E y = some (.agg (cells l qs))) (hq : z6e qs) (hm : lkM M i = some ⟨b, cells N ps, t⟩)
  (ho : o = xb (ps.take k)) (hl : l = xb (yZ ps k c)) (hl2 : l = xb qs) (hN : o + l ≤ N) (hX : R.X = [] ∨ b ∈ R.X) (h : z2 P G R ops n K rest E ((i, some ⟨b, cells N (ps.take k ++ (qs ++ ps.drop (k + c))), t⟩) :: M)) (hY : R.Y = none := by first | rfl | assumption) : z2 P G R ops n K (⟨none, .store T x y, ty, pos, aft, none⟩ :: rest) E M :=
 ziq (A := yA qs) hs hx hy (fun j _ => z3c hq j) hm hN hX (by
  have : xE (yA ps) o l (yA qs) = yA (ps.take k ++ (qs ++ ps.drop (k + c))) := by
   funext i
   rw [ho, hl2]
   exact z6L ps qs k c (hl2.symm.trans hl) i
  rw [this]; exact h)
end
section
variable {P : Program}
theorem z9T {ps : List zW} {N k c o l : Nat} {f : Field} {td : TypeDesc} (he : P.underlying f.type = some td) (hn : zy td = true) (hs : (P.info? f.type).map (·.size) = some l) (ho : f.offset = o) (ho2 : o = xb (ps.take k)) (hl : l = xb (yZ ps k c)) (hN : o + l ≤ N) : z18 P ps N f (.agg (cells l (yZ ps k c))) := fun w => by
 cases hi : P.info? f.type with
 | none => simp [hi] at hs
 | some i =>
  have hsz : i.size = l := by simpa [hi] using hs
  have he2 : (cells N ps).extract o (o + l) = cells l (yZ ps k c) := by rw [ho2, hl]; exact zaM k c (by omega)
  unfold part
  simp only [Sem.run_bind, yO he, Result.andThen_ok, hn, if_true, sizeOf, typeInfo, ho]
  simp [hi, hsz, he2]
end
end Go.Proofs.YtlidhfijmcelpaaGreatDoor
namespace Go.Proofs.YtlidhfijmcelpaaGreatDoor
theorem z1j (x k : Nat) : x % 2 ^ (16 * (k + 1)) = x % 2 ^ (16 * k) + d16 x k * 2 ^ (16 * k) := by
 rw [← z35, ← z35, xf]
theorem z4I (x y k j : Nat) : d16 x k * d16 y j ≤ 4294836225 :=
 Nat.mul_le_mul (show d16 x k ≤ 65535 from Nat.le_of_lt_succ (xg x k)) (show d16 y j ≤ 65535 from Nat.le_of_lt_succ (xg y j))
theorem zi7 {x y k j : Nat} {o : Nat → Nat} (hkj : k + j < 32) (h : vs o 32 = x % 2 ^ (16 * k) * y + d16 x k * (y % 2 ^ (16 * j)) * 2 ^ (16 * k)) :
  vs (upd o (k + j) (o (k + j) + d16 x k * d16 y j)) 32 = x % 2 ^ (16 * k) * y + d16 x k * (y % 2 ^ (16 * (j + 1))) * 2 ^ (16 * k) := by
 have h1 := z3r o (k + j) (o (k + j) + d16 x k * d16 y j) 32 hkj
 have h2 : d16 x k * (y % 2 ^ (16 * (j + 1))) * 2 ^ (16 * k) = d16 x k * (y % 2 ^ (16 * j)) * 2 ^ (16 * k) + d16 x k * d16 y j * 2 ^ (16 * (k + j)) := by
  rw [z1j, Nat.mul_add, Nat.add_mul, show 16 * (k + j) = 16 * j + 16 * k by omega, Nat.pow_add, Nat.mul_assoc, Nat.mul_assoc, Nat.mul_assoc, Nat.mul_assoc]
 rw [Nat.add_mul] at h1
 omega
theorem zcf {x y k : Nat} {o : Nat → Nat} (hy : y < 2 ^ 256) (h : vs o 32 = x % 2 ^ (16 * k) * y + d16 x k * (y % 2 ^ (16 * 16)) * 2 ^ (16 * k)) :
  vs o 32 = x % 2 ^ (16 * (k + 1)) * y := by
 rw [Nat.mod_eq_of_lt (show y < 2 ^ (16 * 16) from hy)] at h
 rw [h, z1j x k, Nat.add_mul, Nat.mul_assoc, Nat.mul_assoc, Nat.mul_comm y]
theorem zhr {o : Nat → Nat} {k j m : Nat} (h1 : ∀ t, o t ≤ (k + 1) * 4294836225) (h2 : ∀ t, k + j ≤ t → o t ≤ k * 4294836225) (hm : m ≤ 4294836225) :
  ∀ t, upd o (k + j) (o (k + j) + m) t ≤ (k + 1) * 4294836225 := fun t => by
 have := h2 (k + j) (Nat.le_refl _)
 unfold upd
 split
 ·omega
 ·exact h1 t
theorem zja {o : Nat → Nat} {k j v : Nat} (h2 : ∀ t, k + j ≤ t → o t ≤ k * 4294836225) :
  ∀ t, k + (j + 1) ≤ t → upd o (k + j) v t ≤ k * 4294836225 := fun t ht => by
 unfold upd
 rw [if_neg (by omega)]
 exact h2 t (by omega)
theorem z4c (o : Nat → Nat) (M : Nat) : ∀ n, vs o (M + n) = vs o M + 2 ^ (16 * M) * vs (fun t => o (t + M)) n
 | 0 => by simp [vs]
 | n + 1 => by
  rw [← Nat.add_assoc M n 1, xf o (M + n), z4c o M n, xf _ n, Nat.mul_add 16 M n, Nat.pow_add, Nat.mul_add (2 ^ (16 * M)), Nat.add_comm M n, Nat.mul_left_comm (2 ^ (16 * M)), Nat.add_assoc]
theorem z5I (a b : Nat → Nat) : ∀ n, vs (fun t => a t + 38 * b t) n = vs a n + 38 * vs b n
 | 0 => by simp [vs]
 | n + 1 => by
  rw [xf, xf, xf, z5I a b n, Nat.add_mul, Nat.mul_assoc]; omega
theorem zdl {o s : Nat → Nat} {z : Nat} (h : vs o 32 = z) (hs : ∀ t, t < 16 → s t = o t + 38 * o (t + 16)) : vs s 16 % PP = z % PP := by
 have h1 : vs o 32 = vs o 16 + 2 ^ 256 * vs (fun t => o (t + 16)) 16 := z4c o 16 16
 have h2 : vs s 16 = vs o 16 + 38 * vs (fun t => o (t + 16)) 16 := by
  rw [← z5I o (fun t => o (t + 16))]; exact XQ 16 hs
 rw [h2, ← h, h1]
 generalize vs o 16 = p
 generalize vs (fun t => o (t + 16)) 16 = q
 rw [show p + 2 ^ 256 * q = p + 38 * q + PP * (2 * q) by unfold PP; omega, Nat.add_mul_mod_self_left]
theorem z9A : ∀ n, vs (fun _ => 0) n = 0
 | 0 => rfl
 | n + 1 => by rw [xf, z9A n, Nat.zero_mul]
theorem z81 (x y : Nat) : vs (fun _ => 0) 32 = x % 2 ^ (16 * 0) * y := by
 rw [z9A, Nat.mul_zero, Nat.pow_zero, Nat.mod_one, Nat.zero_mul]
theorem zik (x k b : Nat) (h : b = x ^ (2 ^ k) % PP) : b * b % PP = x ^ (2 ^ (k + 1)) % PP := by
 rw [h, z7f, Nat.pow_succ 2 k, Nat.mul_comm 2]
theorem z4o (x k o b : Nat) (ho : o = x ^ (EE % 2 ^ k) % PP) (hb : b = x ^ (2 ^ k) % PP) (h : EE / 2 ^ k % 2 = 1) : o * b % PP = x ^ (EE % 2 ^ (k + 1)) % PP := by
 rw [ho, hb, ← Nat.mul_mod, ← Nat.pow_add, Nat.pow_succ 2 k, Nat.mod_mul, h, Nat.mul_one]
theorem z5l (x k o : Nat) (ho : o = x ^ (EE % 2 ^ k) % PP) (h : ¬ EE / 2 ^ k % 2 = 1) : o = x ^ (EE % 2 ^ (k + 1)) % PP := by
 have h0 : EE / 2 ^ k % 2 = 0 := by omega
 rw [ho, Nat.pow_succ 2 k, Nat.mod_mul, h0, Nat.mul_zero, Nat.add_zero]
theorem zco (x : Nat) : x ^ (EE % 2 ^ 255) % PP = x ^ EE % PP := by
 rw [Nat.mod_eq_of_lt (show EE < 2 ^ 255 by decide)]
theorem zec (x : Nat) : 1 = x ^ (EE % 2 ^ 0) % PP := by
 rw [Nat.pow_zero, Nat.mod_one, Nat.pow_zero]; decide
theorem zaP (e k : Nat) : d16 e (k / 16) / 2 ^ (k % 16) % 2 = e / 2 ^ k % 2 := by
 unfold d16
 have e16 : 16 * (k / 16) + k % 16 = k := by omega
 have hm : k % 16 < 16 := Nat.mod_lt _ (by decide)
 have e64 : (65536 : Nat) = 2 ^ (k % 16) * (2 * 2 ^ (15 - k % 16)) := by
  rw [← Nat.pow_succ', ← Nat.pow_add, show k % 16 + (15 - k % 16 + 1) = 16 by omega]
 rw [e64, Nat.mod_mul_right_div_self, Nat.mod_mul_right_mod, Nat.div_div_eq_div_mul, ← Nat.pow_add, e16]
theorem zib (a : Nat) (h : 2 ≤ a) (h2 : a < 65536) : (a + 18446744073709551616 - 2) % 18446744073709551616 = a - 2 := by omega
theorem zjh : (d16 PP 0 + 18446744073709551616 - 2) % 18446744073709551616 = d16 PP 0 - 2 := zib _ (by decide +kernel) (xg PP 0)
theorem zaE : ∀ j, j < 16 → upd (d16 PP) 0 (d16 PP 0 - 2) j = d16 EE j := by decide +kernel
theorem z6T (x : Nat) (hx : x < 65536) : Value.agg (arr .u64 16 (upd (fun _ => 0) 0 x)) = dg x := by
 rw [dg]; congr 1
 apply zg
 intro j hj
 unfold upd d16
 split
 ·rename_i h; subst h; simp; omega
 ·rename_i h
  have hp : 2 ^ 16 ≤ 2 ^ (16 * j) := Nat.pow_le_pow_right (by decide) (by omega)
  rw [Nat.div_eq_of_lt (by omega)]
end Go.Proofs.YtlidhfijmcelpaaGreatDoor
namespace Go.Proofs.YtlidhfijmcelpaaGreatDoor
theorem z5C (k : Nat) : 0 < 2 ^ (8 * k) := Nat.pow_pos (by decide)
theorem zgI (f : Nat → Nat) (k : Nat) : vb f (k + 1) = vb f k + f k * 2 ^ (8 * k) := rfl
theorem zjP (s t i k : Nat) (h : i < k) : bt (s + t * 2 ^ (8 * k)) i = bt s i := by
 unfold bt
 have e : (2 : Nat) ^ (8 * k) = 2 ^ (8 * i) * (256 * 2 ^ (8 * (k - i - 1))) := by
  rw [show (256 : Nat) = 2 ^ 8 by decide, ← Nat.pow_add, ← Nat.pow_add]; congr 1; omega
 rw [e, ← Nat.mul_assoc, Nat.mul_comm t, Nat.mul_assoc, Nat.add_mul_div_left _ _ (z5C i), ← Nat.mul_assoc, Nat.mul_comm t, Nat.mul_assoc, Nat.add_mul_mod_self_left]
theorem z8X (f : Nat → Nat) : ∀ n, (∀ j, j < n → f j < 256) → ∀ j, j < n → bt (vb f n) j = f j
 | 0, _, j, h => by omega
 | n + 1, hf, j, h => by
  have h1 := z20 f n (fun j hj => hf j (by omega))
  rw [zgI]
  by_cases e : j = n
  ·subst e
   unfold bt
   rw [Nat.mul_comm (f j), Nat.add_mul_div_left _ _ (z5C j), Nat.div_eq_of_lt h1, Nat.zero_add]
   exact Nat.mod_eq_of_lt (hf j (by omega))
  ·rw [zjP _ _ j n (by omega)]
   exact z8X f n (fun j hj => hf j (by omega)) j (by omega)
theorem zjw (y i : Nat) (hi : i < 31) : bt (y % 2 ^ 255) i = bt y i := by
 unfold bt
 have e : (2 : Nat) ^ 255 = 2 ^ (8 * i) * (256 * 2 ^ (247 - 8 * i)) := by
  rw [show (256 : Nat) = 2 ^ 8 by decide, ← Nat.pow_add, ← Nat.pow_add]; congr 1; omega
 rw [e, Nat.mod_mul_right_div_self, Nat.mod_mul_right_mod]
theorem zdt (y : Nat) : bt (y % 2 ^ 255) 31 = bt y 31 % 128 := by
 show y % 2 ^ 255 / 2 ^ 248 % 256 = y / 2 ^ 248 % 256 % 128
 omega
theorem zeO {f : Nat → Nat} {i : Nat} (hf : ∀ j, j < 32 → f j < 256) (hi : i < 31) : f i = bt (vb f 32 % 2 ^ 255) i := by
 rw [zjw _ _ hi, z8X f 32 hf i (by omega)]
theorem zfZ {f : Nat → Nat} {i : Nat} (hf : ∀ j, j < 32 → f j < 256) (hi : i = 31) : f i % 128 = bt (vb f 32 % 2 ^ 255) i := by
 subst hi
 rw [zdt, z8X f 32 hf 31 (by omega)]
theorem z3q (x j n : Nat) (h : 8 * j + 8 ≤ n) : wd x j / 2 ^ (8 * (n - 8 * j)) = 0 := by
 apply Nat.div_eq_of_lt
 have hp : 2 ^ 64 ≤ 2 ^ (8 * (n - 8 * j)) := Nat.pow_le_pow_right (by decide) (by omega)
 have := y7 x j
 omega
theorem z2C (x i : Nat) : (wd x (i / 8) / 2 ^ (8 * (i + 1 - 8 * (i / 8))) * 256 % 18446744073709551616 + bt x i) % 18446744073709551616 = wd x (i / 8) / 2 ^ (8 * (i - 8 * (i / 8))) := by
 have e1 : 8 * (i + 1 - 8 * (i / 8)) = 8 * (i - 8 * (i / 8)) + 8 := by omega
 have e2 : 8 * (i - 8 * (i / 8)) = i % 8 * 8 := by omega
 rw [e1, Nat.pow_add, ← Nat.div_div_eq_div_mul, ← z40 x i, e2]
 have hl : wd x (i / 8) / 2 ^ (i % 8 * 8) < 18446744073709551616 := Nat.lt_of_le_of_lt (Nat.div_le_self _ _) (y7 x (i / 8))
 generalize wd x (i / 8) / 2 ^ (i % 8 * 8) = q at *
 omega
theorem z2I {x i : Nat} {s : Nat → Nat} (hs : ∀ j, j < 4 → s j = wd x j / 2 ^ (8 * (i + 1 - 8 * j))) : ∀ j, j < 4 → upd s (i / 8) (wd x (i / 8) / 2 ^ (8 * (i - 8 * (i / 8)))) j = wd x j / 2 ^ (8 * (i - 8 * j)) := fun j hj => by
 unfold upd
 split
 ·rename_i h; subst h; rfl
 ·rename_i h
  rw [hs j hj]
  rcases Nat.lt_or_gt_of_ne h with h1 | h1
  ·rw [z3q x j (i + 1) (by omega), z3q x j i (by omega)]
  ·rw [show i + 1 - 8 * j = 0 by omega, show i - 8 * j = 0 by omega]
theorem z7y (x : Nat) : ∀ j, j < 4 → 0 = wd x j / 2 ^ (8 * (32 - 8 * j)) := fun j hj => (z3q x j 32 (by omega)).symm
theorem zfH {x : Nat} {s : Nat → Nat} (hs : ∀ j, j < 4 → s j = wd x j / 2 ^ (8 * (0 - 8 * j))) : ∀ j, j < 4 → s j = wd x j := fun j hj => by
 rw [hs j hj, Nat.zero_sub, Nat.mul_zero, Nat.pow_zero, Nat.div_one]
theorem zaW (a k : Nat) : d16 a k % 256 = bt a (2 * k) := by
 unfold d16 bt
 rw [show 8 * (2 * k) = 16 * k by omega]
 generalize a / 2 ^ (16 * k) = q
 omega
theorem zeX (a k : Nat) : d16 a k / 256 % 256 = bt a (2 * k + 1) := by
 unfold d16 bt
 rw [show 8 * (2 * k + 1) = 16 * k + 8 by omega, Nat.pow_add, ← Nat.div_div_eq_div_mul]
 generalize a / 2 ^ (16 * k) = q
 omega
end Go.Proofs.YtlidhfijmcelpaaGreatDoor
namespace Go.Proofs.YtlidhfijmcelpaaGreatDoor
open Go Go.RowKit
def wl (n b : Nat) : Nat := (n * 2 ^ b % 4294967296 ||| n / 2 ^ (32 - b)) % 4294967296
def qrt (a b d e : Nat) : Nat × Nat × Nat × Nat :=
 let a1 := (a + b) % 4294967296
 let e1 := wl ((e ^^^ a1) % 4294967296) 16
 let d1 := (d + e1) % 4294967296
 let b1 := wl ((b ^^^ d1) % 4294967296) 12
 let a2 := (a1 + b1) % 4294967296
 let e2 := wl ((e1 ^^^ a2) % 4294967296) 8
 let d2 := (d1 + e2) % 4294967296
 let b2 := wl ((b1 ^^^ d2) % 4294967296) 7
 (a2, b2, d2, e2)
def rnd (f : Nat → Nat) (t : Nat) : Nat :=
 let q := qrt (f (t % 4)) (f (4 + t % 4)) (f (8 + t % 4)) (f (12 + t % 4))
 if t < 4 then q.1 else if t < 8 then q.2.1 else if t < 12 then q.2.2.1 else q.2.2.2
def sh1 (f : Nat → Nat) (t : Nat) : Nat := f (4 * (t / 4) + (t % 4 + 4 + 1 * (t / 4)) % 4)
def shm (f : Nat → Nat) (t : Nat) : Nat := f (4 * (t / 4) + (t % 4 + 4 - t / 4) % 4)
def dbl (f : Nat → Nat) : Nat → Nat := shm (rnd (sh1 (rnd f)))
def Vw (f : Nat → Nat) : Nat → Nat → Nat
 | 0 => f
 | k + 1 => dbl (Vw f k)
theorem zfk {f s : Nat → Nat} {k : Nat} (hk : k < 4) (hs : ∀ t, t < 16 → s t = if t % 4 < k then rnd f t else f t) (q : Nat × Nat × Nat × Nat) (hq : q = qrt (s k) (s (4 + k)) (s (8 + k)) (s (12 + k))) :
  ∀ t, t < 16 → upd (upd (upd (upd s k q.1) (4 + k) q.2.1) (8 + k) q.2.2.1) (12 + k) q.2.2.2 t = if t % 4 < k + 1 then rnd f t else f t := by
 have e0 : s k = f k := by rw [hs k (by omega), if_neg (by omega)]
 have e1 : s (4 + k) = f (4 + k) := by rw [hs _ (by omega), if_neg (by omega)]
 have e2 : s (8 + k) = f (8 + k) := by rw [hs _ (by omega), if_neg (by omega)]
 have e3 : s (12 + k) = f (12 + k) := by rw [hs _ (by omega), if_neg (by omega)]
 rw [e0, e1, e2, e3] at hq
 intro t ht
 by_cases hm : t % 4 = k
 ·rw [if_pos (by omega)]
  unfold rnd
  rw [hm, ← hq]
  unfold upd
  have : t = k ∨ t = 4 + k ∨ t = 8 + k ∨ t = 12 + k := by omega
  rcases this with h | h | h | h
  ·rw [if_neg (by omega), if_neg (by omega), if_neg (by omega), if_pos h, if_pos (by omega)]
  ·rw [if_neg (by omega), if_neg (by omega), if_pos h, if_neg (by omega), if_pos (by omega)]
  ·rw [if_neg (by omega), if_pos h, if_neg (by omega), if_neg (by omega), if_pos (by omega)]
  ·rw [if_pos h, if_neg (by omega), if_neg (by omega), if_neg (by omega)]
 ·unfold upd
  rw [if_neg (by omega), if_neg (by omega), if_neg (by omega), if_neg (by omega), hs t ht]
  by_cases hlt : t % 4 < k
  ·rw [if_pos hlt, if_pos (by omega)]
  ·rw [if_neg hlt, if_neg (by omega)]
theorem zhn {f s : Nat → Nat} (hs : ∀ t, t < 16 → s t = if t % 4 < 4 then rnd f t else f t) : arr .u32 16 s = arr .u32 16 (rnd f) := zg fun t ht => by
 rw [hs t ht, if_pos (by omega)]
theorem z8j (g : (Nat → Nat) → Nat → Nat) (f s : Nat → Nat) {k j v : Nat} (hv : v = g f (4 * k + j)) (hs : ∀ t, t < 4 * k + j → s t = g f t) : ∀ t, t < 4 * k + (j + 1) → upd s (4 * k + j) v t = g f t := fun t ht => by
 unfold upd; split
 ·rename_i h; rw [hv, h]
 ·exact hs t (by omega)
theorem zkO (f : Nat → Nat) {k j : Nat} (hj : j < 4) : f (4 * k + (j + 4 + 1 * k) % 4) = sh1 f (4 * k + j) := by
 unfold sh1
 rw [show (4 * k + j) / 4 = k by omega, show (4 * k + j) % 4 = j by omega]
theorem zkL (f : Nat → Nat) {k j : Nat} (hj : j < 4) : f (4 * k + (j + 4 - k) % 4) = shm f (4 * k + j) := by
 unfold shm
 rw [show (4 * k + j) / 4 = k by omega, show (4 * k + j) % 4 = j by omega]
def xR (n k : Nat) : List Nat := (List.range k).map fun i => n / 256 ^ i % 256
theorem zL (n k : Nat) : (xR n k).length = k := by simp [xR]
theorem zaH (n k : Nat) : xR n k ++ [n / 256 ^ k % 256] = xR n (k + 1) := by
 unfold xR; rw [List.range_succ, List.map_append]; rfl
theorem vZ (n k : Nat) : ∀ b ∈ xR n k, b < 256 := fun b hb => by
 obtain ⟨i, _, rfl⟩ := List.mem_map.1 hb
 exact Nat.mod_lt _ (by decide)
def leN : List Nat → Nat
 | [] => 0
 | b :: l => b + 256 * leN l
theorem z0E : ∀ (l : List Nat), (∀ b ∈ l, b < 256) → leN l < 256 ^ l.length
 | [], _ => by simp [leN]
 | b :: l, h => by
  have h1 := z0E l (fun x hx => h x (by simp [hx]))
  have h2 := h b (by simp)
  rw [List.length_cons, Nat.pow_succ]
  unfold leN
  omega
theorem zfr {l : List Nat} {i : Nat} (hi : i < l.length) : leN (l.drop i) = leN (l.drop (i + 1)) * 256 + l[i] := by
 rw [List.drop_eq_getElem_cons hi]
 show l[i] + 256 * leN (l.drop (i + 1)) = _
 omega
theorem zag {l : List Nat} (hl : l.length ≤ 8) (hb : ∀ b ∈ l, b < 256) (i : Nat) : leN (l.drop (i + 1)) < 72057594037927936 := by
 have h1 := z0E (l.drop (i + 1)) (fun b h => hb b (List.mem_of_mem_drop h))
 have h2 : (l.drop (i + 1)).length ≤ 7 := by simp; omega
 have h3 : 256 ^ (l.drop (i + 1)).length ≤ 256 ^ 7 := Nat.pow_le_pow_right (by decide) h2
 have h4 : 256 ^ 7 = 72057594037927936 := by decide
 omega
end Go.Proofs.YtlidhfijmcelpaaGreatDoor
