import Derived.Test.YtoalabpbohkcjaaK5
import Derived.Test.YtoalabpbohkcjaaK3
import Derived.Test.YtoalabpbohkcjaaK4

/-
  The one-time sum of bytes that came in pieces: its state is that of all of them. Plain arithmetic.
-/
namespace Go.Proofs.Ytoalabpbohkcjaa
open Go Go.RowKit

def rem16 (m : List Nat) : List Nat := m.drop (16 * (m.length / 16))
theorem rem16_len (m : List Nat) : (rem16 m).length = m.length % 16 := by simp [rem16]; omega
theorem rem16_lt {m : List Nat} (h : ∀ b ∈ m, b < 256) : ∀ b ∈ rem16 m, b < 256 := fun b hb => h b (List.mem_of_mem_drop hb)
def acc0 (R : Nat) (m : List Nat) : Nat := accs R 0 m (m.length / 16)
def heldF (m : List Nat) (i : Nat) : Nat := (rem16 m).getD i 0
theorem wd_none : wd 0 = fun _ => 0 := by funext j; simp [wd]
theorem pst_lt (R A : Nat) (l : List Nat) : pst R A l < QQ := Nat.mod_lt _ QQ_pos
theorem accs_ltQ {R A : Nat} {S : List Nat} (hA : A < QQ) : ∀ k, accs R A S k < QQ
  | 0 => hA
  | _ + 1 => pst_lt _ _ _
theorem acc0_lt (R : Nat) (m : List Nat) : acc0 R m < QQ := accs_ltQ QQ_pos _
theorem accs_pre (R A : Nat) (m l : List Nat) : ∀ k, 16 * k ≤ m.length → accs R A (m ++ l) k = accs R A m k
  | 0, _ => rfl
  | k + 1, h => by
    rw [accs, accs, accs_pre R A m l k (by omega), List.drop_append_of_le_length (by omega), List.take_append_of_le_length (by simp; omega)]
theorem drop_rem (m l : List Nat) (k : Nat) : (m ++ l).drop (16 * (m.length / 16 + k)) = (rem16 m ++ l).drop (16 * k) := by
  have e : (m ++ l).drop (16 * (m.length / 16)) = rem16 m ++ l := List.drop_append_of_le_length (by omega)
  rw [← e, List.drop_drop, Nat.mul_add]
theorem accs_app (R : Nat) (m l : List Nat) : ∀ k, accs R 0 (m ++ l) (m.length / 16 + k) = accs R (acc0 R m) (rem16 m ++ l) k
  | 0 => accs_pre R 0 m l _ (by omega)
  | k + 1 => by
    show accs R 0 (m ++ l) (m.length / 16 + k + 1) = _
    rw [accs, accs, accs_app R m l k, drop_rem]
theorem sS_held (m l : List Nat) : sS (heldF m) (rem16 m).length l = rem16 m ++ l := by
  unfold sS
  congr 1
  apply List.ext_getElem
  · simp
  · intro j h1 h2
    simp only [List.getElem_map, List.getElem_range]
    unfold heldF
    rw [List.getD_eq_getElem?_getD, List.getElem?_eq_getElem h2]; rfl
theorem part_len (m l : List Nat) : m.length / 16 + (rem16 m ++ l).length / 16 = (m ++ l).length / 16 := by
  rw [List.length_append, List.length_append, rem16_len]; omega
theorem acc0_app (R : Nat) (m l : List Nat) : accs R (acc0 R m) (rem16 m ++ l) ((rem16 m ++ l).length / 16) = acc0 R (m ++ l) := by
  rw [← accs_app, part_len]; rfl
theorem rem16_app (m l : List Nat) : (rem16 m ++ l).drop (16 * ((rem16 m ++ l).length / 16)) = rem16 (m ++ l) := by
  rw [← drop_rem, part_len]; rfl

/-! ### A state that may be -/
theorem leN_get : ∀ (L : List Nat), (∀ b ∈ L, b < 256) → ∀ i (h : i < L.length), leN L / 256 ^ i % 256 = L[i]
  | [], _, i, h => by simp at h
  | b :: L, hb, 0, _ => by
    have := hb b (by simp)
    simp only [leN, Nat.pow_zero, Nat.div_one, List.getElem_cons_zero]; omega
  | b :: L, hb, i + 1, h => by
    have := hb b (by simp)
    rw [Nat.pow_succ, Nat.mul_comm (256 ^ i), ← Nat.div_div_eq_div_mul]
    simp only [leN, List.getElem_cons_succ]
    rw [show (b + 256 * leN L) / 256 = leN L by omega]
    exact leN_get L (fun x hx => hb x (by simp [hx])) i (by simpa using h)
theorem lowl_leN {L : List Nat} (hb : ∀ b ∈ L, b < 256) {k : Nat} (hk : L.length = k) : lowl (leN L) k = L := by
  apply List.ext_getElem
  · simp [lowl, hk]
  · intro j h1 h2
    simp only [lowl, List.getElem_map, List.getElem_range]
    exact leN_get L hb j h2
theorem lw_w8 {L : List Nat} (hb : ∀ b ∈ L, b < 256) (hl : 16 ≤ L.length) : lw (w8 L) = L.take 16 := by
  unfold lw w8
  rw [lowl_leN (take_lt hb _ _) (by simp; omega), lowl_leN (take_lt hb _ _) (by simp; omega)]
  rw [show 8 * 0 = 0 by rfl, List.drop_zero, show 8 * 1 = 8 by rfl, show (16 : Nat) = 8 + 8 by rfl, List.take_add]
theorem msk_msk (f g : Nat → Nat) {j : Nat} (h : g j = msk f j) : msk g j = msk f j := by
  unfold msk at *
  by_cases h1 : j < 16 ∧ j % 4 = 3
  · rw [if_pos h1] at h ⊢
    rw [if_pos h1, h]
    have : (f j &&& 15) % 256 = f j &&& 15 := Nat.mod_eq_of_lt (Nat.lt_of_le_of_lt Nat.and_le_right (by decide))
    rw [this, Nat.and_assoc]; simp [this]
  · rw [if_neg h1] at h ⊢
    rw [if_neg h1]
    by_cases h2 : 4 ≤ j ∧ j < 16 ∧ j % 4 = 0
    · rw [if_pos h2] at h ⊢
      rw [if_pos h2, h]
      have : (f j &&& 252) % 256 = f j &&& 252 := Nat.mod_eq_of_lt (Nat.lt_of_le_of_lt Nat.and_le_right (by decide))
      rw [this, Nat.and_assoc]; simp [this]
    · rw [if_neg h2] at h ⊢
      rw [if_neg h2, h]
theorem okR_begun {f : Nat → Nat} (hf : ∀ j, j < 32 → f j < 256) : allEq 2 (w8 (bL (kq (w8 (bL f))))) (w8 (bL f)) = true := by
  have hb := bL_lt hf
  have hl := bL_len f
  rw [allEq_iff]
  intro j hj
  have hk : ∀ i, i < 16 → kq (w8 (bL f)) i = msk f i := fun i hi => by
    unfold kq
    rw [lw_w8 hb (by omega), List.getD_eq_getElem?_getD, List.getElem?_take, if_pos hi, List.getElem?_eq_getElem (by omega)]
    simp [bL]
  unfold w8
  congr 1
  apply List.ext_getElem
  · simp [bL_len]
  · intro i h1 h2
    have hi : i < 8 := by simp at h1; omega
    simp only [List.getElem_take, List.getElem_drop, bL, List.getElem_map, List.getElem_range]
    exact msk_msk f _ (hk _ (by omega))
theorem ok_make {r : Nat → Nat} {A n : Nat} {h : Nat → Nat} (hr : allEq 2 (w8 (bL (kq r))) r = true) (hA : A < QQ) (hn : n < 16) (hh : ∀ j, n ≤ j → j < 16 → h j = 0) : (okcd r (wd A) n && okh n h 16) = true := by
  have hA3 : A < 2 ^ 130 := Nat.lt_trans hA QQ_lt
  rw [Bool.and_eq_true]
  refine ⟨(ok_all hr (by omega) (by omega) (wd2_lt hA3) ?_).symm, ?_⟩
  · rw [w3_wd hA3, Nat.mod_eq_of_lt hA]
    exact allEq_iff.2 fun _ _ => rfl
  · unfold okh
    rw [List.all_eq_true]
    intro j hj
    have hj := List.mem_range.1 hj
    by_cases hjn : j < n
    · simp [hjn]
    · simp [hh j (by omega) hj]
theorem ok_heldF {r : Nat → Nat} (hr : allEq 2 (w8 (bL (kq r))) r = true) (R : Nat) (m : List Nat) : (okcd r (wd (acc0 R m)) ((rem16 m).length : Nat) && okh ((rem16 m).length : Nat) (heldF m) 16) = true :=
  ok_make hr (acc0_lt R m) (by rw [rem16_len]; omega) fun j h1 _ => by
    unfold heldF
    rw [List.getD_eq_getElem?_getD, List.getElem?_eq_none h1]; rfl
theorem heldF_lt {m : List Nat} (hm : ∀ b ∈ m, b < 256) (j : Nat) : heldF m j < 256 := getD_lt (rem16_lt hm) j
/-- What may be is a number below the prime, and so many bytes. -/
theorem ok_open {r a h : Nat → Nat} {n : Int} (hok : (okcd r a n && okh n h 16) = true) : allEq 2 (w8 (bL (kq r))) r = true ∧ (∃ k : Nat, n = k ∧ k < 16 ∧ ∀ j, k ≤ j → j < 16 → h j = 0) ∧ w3 a < QQ ∧ ∀ j, j < 3 → a j = wd (w3 a) j := by
  rw [Bool.and_eq_true] at hok
  obtain ⟨h1, h2⟩ := hok
  unfold okcd at h1
  simp only [Bool.and_eq_true, decide_eq_true_eq] at h1
  obtain ⟨q0, q1, q2, q3, q4⟩ := h1
  have q4 := allEq_iff.1 q4
  have hQ : w3 a % QQ < QQ := Nat.mod_lt _ QQ_pos
  have e2 : w3 (wd (w3 a % QQ)) = w3 a := by
    generalize w3 a % QQ = X at q4
    unfold w3
    rw [q4 0 (by decide), q4 1 (by decide), q4 2 (by decide)]
  have e : w3 a = w3 a % QQ := e2.symm.trans (w3_wd (Nat.lt_trans hQ QQ_lt))
  refine ⟨q0, ⟨n.toNat, by omega, by omega, fun j hj h16 => ?_⟩, by rw [e]; exact hQ, fun j hj => ?_⟩
  · unfold okh at h2
    rw [List.all_eq_true] at h2
    have := h2 j (List.mem_range.2 h16)
    have hn : ¬ (j : Int) < n := by omega
    simpa [hn] using this
  · rw [← q4 j hj, ← e]

/-! ### The sum of bytes by a key -/
/-- What is known when the bytes m were taken in, by the key f. -/
abbrev cP (f : Nat → Nat) (m : List Nat) : Array Value := cells 24 [pI .u64 2 (w8 (bL f)), pI .u64 2 (fun j => w8 (bL f) (j + 2)), pI .u64 3 (wd (acc0 (k3 (w8 (bL f))) m)), pI .u8 16 (heldF m), pV (.int .i64 ((rem16 m).length : Nat))]
abbrev stP (f : Nat → Nat) (m : List Nat) : Value := .agg (cP f m)
theorem stP_nil (f : Nat → Nat) : PV (w8 (bL f)) (fun j => w8 (bL f) (j + 2)) (fun _ => 0) (fun _ => 0) 0 = stP f [] := by
  have e1 : wd (acc0 (k3 (w8 (bL f))) []) = fun _ => 0 := wd_none
  have e2 : heldF [] = fun _ => 0 := by funext i; simp [heldF, rem16]
  unfold stP cP
  rw [e1, e2]; rfl
def accE (R : Nat) (m : List Nat) : Nat := if (rem16 m).length = 0 then acc0 R m else pst R (acc0 R m) (rem16 m)
/-- The tag of the bytes m by the key f. -/
def ptg (f : Nat → Nat) (m : List Nat) (i : Nat) : Nat := tgn (k3 (wd (accE (k3 (w8 (bL f))) m))) (k3 fun j => w8 (bL f) (j + 2)) i
theorem ptg_lt (f : Nat → Nat) (m : List Nat) (i : Nat) : ptg f m i < 256 := Nat.mod_lt _ (by decide)
theorem held_list (m : List Nat) : (List.range (rem16 m).length).map (heldF m) = rem16 m := by
  have := sS_held m []
  unfold sS at this
  simpa using this

end Go.Proofs.Ytoalabpbohkcjaa

/-
  A string becomes bytes of one's own.
-/
namespace Go.Proofs.Ytoalabpbohkcjaa
open Go Go.RowKit

theorem bytesRow_list {l : List Nat} (hl : ∀ b ∈ l, b < 256) {cap : Nat} (h : l.length ≤ cap) : (bytesRow (bstr l) cap).toList.take l.length = l.map by8 ∧ (bytesRow (bstr l) cap).size = cap := by
  have hz : (bstr l).size = l.length := by simp [bstr, ByteArray.size]
  have e : ((bstr l).data.map (fun b => Value.int .u8 b.toNat)).toList = l.map by8 := by
    unfold bstr
    simp only [Array.toList_map, List.map_map]
    exact List.map_congr_left fun n hn => by
      have := hl n hn
      simp [by8, Nat.mod_eq_of_lt this]
  constructor
  · unfold bytesRow
    rw [Array.toList_append, e, List.take_append_of_le_length (by simp), List.take_of_length_le (by simp)]
  · unfold bytesRow
    have e2 : ((bstr l).data.map (fun b => Value.int .u8 b.toNat)).size = l.length := by rw [← Array.length_toList, e, List.length_map]
    rw [Array.size_append, e2, Array.size_replicate, hz]; omega
section
variable {P : Program} {G : Mem} {R : Reg} {ops : Array Oper} {K : Act → Mem → Prop} {rest : List Oper} {a : Act} {m : Mem} {d : Option Tmp} {ty : TypeId} {pos : String} {aft : Array Edge}
variable {T T' : TypeId} {x y : Operand}
theorem st_conv_own {e : TypeId} {l : List Nat} (hv : kconv R T T' = 6) (hs : P.underlying T = some .string) (ht : P.underlying T' = some (.slice e)) (he : P.underlying e = some (.int .u8)) (hx : a.eval x = sv l) (hl : ∀ b ∈ l, b < 256) (hm : l.length ≤ maxLen)
    (h : ∀ v nw, OwnS e 1 v l.length (l.map by8) nw → FreshM m nw → opsM P G R ops K rest (a.put d v) (m ++ nw)) : opsM P G R ops K (⟨d, .convert T T' x, ty, pos, aft, none⟩ :: rest) a m := by
  have hz : (bstr l).size = l.length := by simp [bstr, ByteArray.size]
  have hc : cls R ⟨d, .convert T T' x, ty, pos, aft, none⟩ = 6 := by simp only [cls, hv]
  have run : ∀ w : World, ∃ w', (execOp a.eval ⟨d, .convert T T' x, ty, pos, aft, none⟩).run P w = .ok (.value (.slice (some ⟨w.heap.size, 0, none⟩) l.length (grownCap w l.length 0 e))) w' ∧ Post [] [] [⟨w.heap.size, bytesRow (bstr l) (grownCap w l.length 0 e), e⟩] w w' := fun w => by
    have hr := run_bytes_of_string (P := P) w T T' e (bstr l) hs ht he
    rw [hz] at hr
    have hp := post_marked w (bytesRow (bstr l) (grownCap w l.length 0 e)) e
    refine ⟨_, ?_, hp⟩
    simp only [execOp, hx]
    rw [show sv l = .string (bstr l) from rfl, Sem.run_bind, hr]
    rfl
  refine .inr ⟨rfl, ?_⟩
  rw [hc]
  refine ⟨fun w => ?_, fun v z ho hr => ?_⟩
  · obtain ⟨w', h1, h2⟩ := run w
    exact ⟨_, ⟨w.heap.size, bytesRow (bstr l) (grownCap w l.length 0 e), e⟩, w', h1, rfl, h2⟩
  · obtain ⟨w, w', e1, e2, hq⟩ := ho
    obtain ⟨w2, h1, h2⟩ := run w
    have e3 := e1.symm.trans h1
    injection e3 with e4 e5
    injection e4 with e6
    subst e5 e6
    have hge := grownCap_ge w l.length 0 e
    obtain ⟨g1, g2⟩ := bytesRow_list hl hge
    obtain ⟨q1, i1, _⟩ := hq.new z (by simp)
    obtain ⟨q2, i2, _⟩ := h2.new _ (List.mem_singleton.2 rfl)
    rw [e2] at i1
    have i3 := i1.symm.trans i2
    injection i3 with i3
    injection i3 with i4 i5
    have hzq : z = ⟨w.heap.size, bytesRow (bstr l) (grownCap w l.length 0 e), e⟩ := by
      obtain ⟨zb, zc, zt⟩ := z
      exact (Blk.mk.injEq _ _ _ _ _ _).mpr ⟨e2, i4, i5⟩
    rw [hzq] at hr ⊢
    exact h _ _ (.inr ⟨_, _, _, rfl, rfl, hge, grownCap_le_maxLen w l.length 0 e hm, by rw [g2, Nat.mul_one], by simp, by rw [Nat.mul_one]; exact g1⟩) ⟨by simp, fun x' hx' y hy => by simp at hx'; subst hx'; exact hr y hy⟩
/-- The run-time marks the place behind bytes that a text was written into. -/
theorem run_mark {w : World} {b o len cap : Nat} {c : Array Value} {t e : TypeId} (hin : In w ⟨b, c, t⟩) (ht : P.underlying T = some (.slice e)) (he : P.underlying e = some (.int .u8)) :
    ∃ w', (convert T T (.slice (some ⟨b, o, none⟩) len cap)).run P w = .ok (.slice (some ⟨b, o, none⟩) len cap) w' ∧ Post [⟨b, c, t⟩] [⟨b, c, t⟩] [] w w' := by
  obtain ⟨q, h1, h2⟩ := hin
  have hlt : b < w.heap.size := (Array.getElem?_eq_some_iff.1 h1).1
  have hsh : w.shape? b = some (t, c.size) := by unfold World.shape?; simp only [h1]
  have hoth : ∀ k, k ≠ b → (w.freeze ⟨b, c.size, none⟩ 1).heap[k]? = w.heap[k]? := fun k hk => by
    unfold World.freeze
    rw [if_neg (by decide)]
    simp only
    rw [Array.getElem?_modify, if_neg (fun e => hk e.symm)]
  have hthis : In (w.freeze ⟨b, c.size, none⟩ 1) ⟨b, c, t⟩ := by
    obtain ⟨lo, hi⟩ := q
    refine ⟨if lo == hi then (c.size, c.size + 1) else (min lo c.size, max hi (c.size + 1)), ?_, ?_⟩
    · unfold World.freeze
      rw [if_neg (by decide)]
      simp only
      rw [Array.getElem?_modify, if_pos rfl, h1]
      rfl
    · by_cases hq : lo = hi
      · subst hq; simp [Thawed]
      · have : c.size ≤ lo := h2.resolve_left hq
        have e2 : (lo == hi) = false := by simp [hq]
        rw [e2]
        exact .inr (by show c.size ≤ min lo c.size; omega)
  refine ⟨w.freeze ⟨b, c.size, none⟩ 1, ?_, ⟨⟨?_, ?_, ?_, ?_, fun k _ hk => hoth k (by simpa using hk)⟩, fun x hx => ?_, by simp [MemIn], by simp, by simp⟩⟩
  · simp [convert, run_underlying ht, run_underlying he, markStringish, hsh]
  · simp [World.freeze]
  · simp [World.freeze]
  · simp [World.freeze]
  · simp [World.freeze]
  · simp at hx; subst hx; exact hthis
theorem st_conv_mark {b o len cap : Nat} {c : Array Value} {t e : TypeId} {lr : Mem} (hv : kconv R T T = 5) (ht : P.underlying T = some (.slice e)) (he : P.underlying e = some (.int .u8)) (hx : a.eval x = .slice (some ⟨b, o, none⟩) len cap)
    (hp : List.Perm m (⟨b, c, t⟩ :: lr)) (h : opsM P G R ops K rest (a.put d (.slice (some ⟨b, o, none⟩) len cap)) (⟨b, c, t⟩ :: lr)) : opsM P G R ops K (⟨d, .convert T T x, ty, pos, aft, none⟩ :: rest) a m := by
  have hc : cls R ⟨d, .convert T T x, ty, pos, aft, none⟩ = 5 := by simp only [cls, hv]
  refine .inr ⟨rfl, ?_⟩
  rw [hc]
  refine ⟨[⟨b, c, t⟩], lr, fun v l1 nw => v = .slice (some ⟨b, o, none⟩) len cap ∧ l1 = [⟨b, c, t⟩] ∧ nw = [], by simpa using hp, ⟨_, _, _, ⟨rfl, rfl, rfl⟩, by simp, by simp⟩, ?_, ?_, ?_⟩
  · rintro v l1 nw ⟨_, rfl, _⟩; rfl
  · intro w _ hm _
    obtain ⟨w', h1, h2⟩ := run_mark (P := P) (T := T) (o := o) (len := len) (cap := cap) (hm ⟨b, c, t⟩ (hp.mem_iff.2 (by simp))) ht he
    refine .inl ⟨_, _, _, w', ?_, ⟨rfl, rfl, rfl⟩, h2⟩
    simp only [execOp, hx]
    rw [Sem.run_bind, h1]
    rfl
  · rintro v l1 nw ⟨rfl, rfl, rfl⟩ _
    simpa using h
end
section
variable {P : Program} {G : Mem} {R : Reg} {ops : Array Oper} {n : Nat} {K : Env → Mm → Prop} {rest : List Oper} {E : Env} {M : Mm} {d : Nat} {ty : TypeId} {pos : String} {aft : Array Edge}
variable {T T' : TypeId} {x y : Operand}
theorem e_conv_own (i : Nat) {e : TypeId} {l : List Nat} (hs : P.underlying T = some .string) (ht : P.underlying T' = some (.slice e)) (he : P.underlying e = some (.int .u8)) (hx : rd E x = some (sv l)) (hl : ∀ b ∈ l, b < 256) (hm : l.length ≤ maxLen) (hd : Nat.blt d n = true) (hv : kconv R T T' = 6)
    (h : ∀ v (oz : Option Blk), OwnS e 1 v l.length (l.map by8) oz.toList → OpsE P G R ops n K rest ((d, v) :: E) ((i, oz) :: M)) : OpsE P G R ops n K (⟨some d, .convert T T' x, ty, pos, aft, none⟩ :: rest) E M :=
  fun _ m ha hM => st_conv_own hv hs ht he (ha.rd hx) hl hm fun v nw ho hf => by
    obtain ⟨oz, rfl⟩ := own_opt ho
    have := hM.fresh i (l0 := []) (lr := m) (by simp) hf
    exact h v oz ho _ _ (ha.put hd _) (by simpa using this)
theorem e_conv_mark (i : Nat) {b o len cap : Nat} {c : Array Value} {t e : TypeId} (ht : P.underlying T = some (.slice e)) (he : P.underlying e = some (.int .u8)) (hx : rd E x = some (.slice (some ⟨b, o, none⟩) len cap)) (hm : lkM M i = some ⟨b, c, t⟩) (hd : Nat.blt d n = true) (hv : kconv R T T = 5)
    (h : OpsE P G R ops n K rest ((d, .slice (some ⟨b, o, none⟩) len cap) :: E) M) : OpsE P G R ops n K (⟨some d, .convert T T x, ty, pos, aft, none⟩ :: rest) E M :=
  fun _ m ha hM => by
    obtain ⟨lr, hp⟩ := hM.perm1 hm
    refine st_conv_mark hv ht he (ha.rd hx) (by simpa using hp) (h _ _ (ha.put hd _) ⟨fun j z hz => ?_, hM.apart⟩)
    have := hp.mem_iff.1 (hM.has j z hz)
    simpa using this
end
end Go.Proofs.Ytoalabpbohkcjaa

/-
  Loops that keep what they do not touch; arithmetic that does not go round; comparisons that were missing.
-/
namespace Go.Proofs.Ytoalabpbohkcjaa
open Go Go.RowKit

def catE : Env → Env → Env
  | [], F => F
  | x :: E, F => x :: catE E F
def catL : Mm → Mm → Mm
  | [], F => F
  | x :: E, F => x :: catL E F
section
variable {P : Program} {G : Mem} {R : Reg} {ops : Array Oper} {n : Nat} {K : Env → Mm → Prop} {Q : Exit → Env → Mm → Prop} {rest : List Oper} {E : Env} {M : Mm} {d : Nat} {ty : TypeId} {pos : String} {aft : Array Edge}
variable {T T' : TypeId} {x y : Operand}

/-- A loop: Ek and Mk stay as they are. -/
theorem e_loopK {c : Code} (Ek : Env) (Mk : Mm) (I : Nat → Env → Mm → Prop) (E0 : Env) (M0 : Mm) (k : Nat) (hs : sub (catE E0 Ek) E) (hl : subL (catL M0 Mk) M) (h0 : I k E0 M0)
    (round : ∀ k E M, I k E M → SatE P G c n (thenE (fun E' M' => ∃ k' E'' M'', k' < k ∧ sub (catE E'' Ek) E' ∧ subL (catL M'' Mk) M' ∧ I k' E'' M'') Q) (catE E Ek) (catL M Mk)) : SatE P G (.loop c) n Q E M :=
  e_loop (fun k E M => ∃ E1 M1, E = catE E1 Ek ∧ M = catL M1 Mk ∧ I k E1 M1) (catE E0 Ek) (catL M0 Mk) k hs hl ⟨_, _, rfl, rfl, h0⟩ fun k E M ⟨E1, M1, e1, e2, hI⟩ => by
    subst e1 e2
    intro a m ha hM
    refine sat_mono (round k E1 M1 hI a m ha hM) fun e a' m' ⟨E', M', h1, h2, h3⟩ => ⟨E', M', h1, h2, ?_⟩
    cases e with
    | normal =>
      obtain ⟨k', E'', M'', q1, q2, q3, q4⟩ := h3
      exact ⟨k', _, _, q1, q2, q3, _, _, rfl, rfl, q4⟩
    | _ => exact h3

/-! ### Numbers that stay within their bounds -/
theorem e_add_un {p q : Nat} (hx : rd E x = some (u p)) (hy : rd E y = some (u q)) (hd : Nat.blt d n = true) (hb : p + q < 18446744073709551616) (h : OpsE P G R ops n K rest ((d, u (p + q)) :: E) M) :
    OpsE P G R ops n K (⟨some d, .binOp .add T x y T', ty, pos, aft, none⟩ :: rest) E M := e_add_u hx hy hd (by rw [Nat.mod_eq_of_lt hb]; exact h)
theorem e_mul_un {p q : Nat} (hx : rd E x = some (u p)) (hy : rd E y = some (u q)) (hd : Nat.blt d n = true) (hb : p * q < 18446744073709551616) (h : OpsE P G R ops n K rest ((d, u (p * q)) :: E) M) :
    OpsE P G R ops n K (⟨some d, .binOp .mul T x y T', ty, pos, aft, none⟩ :: rest) E M := e_mul_u hx hy hd (by rw [Nat.mod_eq_of_lt hb]; exact h)
theorem e_sub_un {p q : Nat} (hx : rd E x = some (u p)) (hy : rd E y = some (u q)) (hd : Nat.blt d n = true) (hb : p < 18446744073709551616) (hq : q ≤ p) (h : OpsE P G R ops n K rest ((d, u (p - q)) :: E) M) :
    OpsE P G R ops n K (⟨some d, .binOp .sub T x y T', ty, pos, aft, none⟩ :: rest) E M := e_sub_u hx hy hd (by omega) (by rw [show (p + 18446744073709551616 - q) % 18446744073709551616 = p - q by omega]; exact h)
theorem e_add_wn {p q : Nat} (hx : rd E x = some (uw p)) (hy : rd E y = some (uw q)) (hd : Nat.blt d n = true) (hb : p + q < 4294967296) (h : OpsE P G R ops n K rest ((d, uw (p + q)) :: E) M) :
    OpsE P G R ops n K (⟨some d, .binOp .add T x y T', ty, pos, aft, none⟩ :: rest) E M := e_add_w hx hy hd (by rw [Nat.mod_eq_of_lt hb]; exact h)
theorem e_sub_wn {p q : Nat} (hx : rd E x = some (uw p)) (hy : rd E y = some (uw q)) (hd : Nat.blt d n = true) (hb : p < 4294967296) (hq : q ≤ p) (h : OpsE P G R ops n K rest ((d, uw (p - q)) :: E) M) :
    OpsE P G R ops n K (⟨some d, .binOp .sub T x y T', ty, pos, aft, none⟩ :: rest) E M := e_sub_w hx hy hd (by omega) (by rw [show (p + 4294967296 - q) % 4294967296 = p - q by omega]; exact h)
theorem e_sub_in {p q : Nat} (hx : rd E x = some (ii p)) (hy : rd E y = some (ii q)) (hd : Nat.blt d n = true) (hb : p < 9223372036854775808) (hq : q ≤ p) (h : OpsE P G R ops n K rest ((d, ii (p - q)) :: E) M) :
    OpsE P G R ops n K (⟨some d, .binOp .sub T x y T', ty, pos, aft, none⟩ :: rest) E M := e_sub_z hx hy hd (by omega) (by omega) (by rw [show (p : Int) - (q : Int) = ((p - q : Nat) : Int) by omega]; exact h)
theorem e_conv_un {k : IntKind} {dk : TypeDesc} {p : Nat} (hs : P.underlying T = some dk) (ht : P.underlying T' = some (.int .u64)) (hx : rd E x = some (.int k (p : Int))) (hd : Nat.blt d n = true) (hv : kconv R T T' = 1) (hb : p < 18446744073709551616)
    (h : OpsE P G R ops n K rest ((d, u p) :: E) M) : OpsE P G R ops n K (⟨some d, .convert T T' x, ty, pos, aft, none⟩ :: rest) E M := e_conv_u hs ht hx hd hv (by rw [Nat.mod_eq_of_lt hb]; exact h)
theorem e_conv_wn {k : IntKind} {dk : TypeDesc} {p : Nat} (hs : P.underlying T = some dk) (ht : P.underlying T' = some (.int .u32)) (hx : rd E x = some (.int k (p : Int))) (hd : Nat.blt d n = true) (hv : kconv R T T' = 1) (hb : p < 4294967296)
    (h : OpsE P G R ops n K rest ((d, uw p) :: E) M) : OpsE P G R ops n K (⟨some d, .convert T T' x, ty, pos, aft, none⟩ :: rest) E M := e_conv_w hs ht hx hd hv (by rw [Nat.mod_eq_of_lt hb]; exact h)
theorem e_conv_u8n {k : IntKind} {dk : TypeDesc} {p : Nat} (hs : P.underlying T = some dk) (ht : P.underlying T' = some (.int .u8)) (hx : rd E x = some (.int k (p : Int))) (hd : Nat.blt d n = true) (hv : kconv R T T' = 1) (hb : p < 256)
    (h : OpsE P G R ops n K rest ((d, by8 p) :: E) M) : OpsE P G R ops n K (⟨some d, .convert T T' x, ty, pos, aft, none⟩ :: rest) E M := e_conv_u8 hs ht hx hd hv (by rw [Nat.mod_eq_of_lt hb]; exact h)
theorem e_le {k : IntKind} {p q : Int} (hx : rd E x = some (.int k p)) (hy : rd E y = some (.int k q)) (hd : Nat.blt d n = true) (h : OpsE P G R ops n K rest ((d, .bool (decide (p ≤ q))) :: E) M) :
    OpsE P G R ops n K (⟨some d, .binOp .leq T x y T', ty, pos, aft, none⟩ :: rest) E M := fun _ _ ha hM => st_bin (fun w => by simp [ha.rd hx, ha.rd hy, eqGuard, binOp, Op.intCmp]) (h _ _ (ha.put hd _) hM)
theorem e_compl_w {p : Nat} (hx : rd E x = some (uw p)) (hd : Nat.blt d n = true) (h : OpsE P G R ops n K rest ((d, uw ((4294967295 ^^^ p) % 4294967296)) :: E) M) :
    OpsE P G R ops n K (⟨some d, .unOp .xor T x, ty, pos, aft, none⟩ :: rest) E M := fun _ _ ha hM =>
  st_quiet (v := uw ((4294967295 ^^^ p) % 4294967296)) rfl rfl (fun w => by
    have := bits_xor32 4294967295 p
    have e3 : (if IntKind.u32.signed = true then (-1 : Int) else IntKind.u32.max) = ((4294967295 : Nat) : Int) := by decide
    simp only [execOp, ha.rd hx, Op.unary, e3, Op.intBits, IntKind.bits]
    simp
    exact this) (h _ _ (ha.put hd _) hM)
theorem e_neg_z {p : Int} (hx : rd E x = some (.int .i64 p)) (hd : Nat.blt d n = true) (h0 : -9223372036854775808 < p) (h1 : p < 9223372036854775808) (h : OpsE P G R ops n K rest ((d, .int .i64 (-p)) :: E) M) :
    OpsE P G R ops n K (⟨some d, .unOp .neg T x, ty, pos, aft, none⟩ :: rest) E M := fun _ _ ha hM =>
  st_quiet (v := .int .i64 (-p)) rfl rfl (fun w => by
    have e := wrap_i64 (z := -p) (by omega) (by omega)
    simp [execOp, ha.rd hx, Op.unary, Op.intArith, e]) (h _ _ (ha.put hd _) hM)
/-! ### A number under a new name -/
theorem e_gen_w {l : List Oper} {s p : Nat} (h : ∀ q, q = p → OpsE P G R ops n K l ((s, uw q) :: E) M) : OpsE P G R ops n K l ((s, uw p) :: E) M := h p rfl
theorem e_gen_u {l : List Oper} {s p : Nat} (h : ∀ q, q = p → OpsE P G R ops n K l ((s, u q) :: E) M) : OpsE P G R ops n K l ((s, u p) :: E) M := h p rfl
theorem e_gen_b {l : List Oper} {s p : Nat} (h : ∀ q, q = p → OpsE P G R ops n K l ((s, by8 q) :: E) M) : OpsE P G R ops n K l ((s, by8 p) :: E) M := h p rfl
theorem e_gen_i {l : List Oper} {s p : Nat} (h : ∀ q, q = p → OpsE P G R ops n K l ((s, ii q) :: E) M) : OpsE P G R ops n K l ((s, ii p) :: E) M := h p rfl
end
end Go.Proofs.Ytoalabpbohkcjaa

/-
  What the laws of chacha ask, in plain numbers: picks, nonces, a stream twice, known answers.
-/
namespace Go.Proofs.Ytoalabpbohkcjaa
open Go Go.RowKit

/-! ### picked -/
def pkn (z : Int) (m : Nat) : Nat := (z % (m : Int)).toNat
theorem pkn_lt (z : Int) {m : Nat} (h : 0 < m) : pkn z m < m := by
  have h1 := Int.emod_lt_of_pos z (show (0 : Int) < m by omega)
  have h2 := Int.emod_nonneg z (show (m : Int) ≠ 0 by omega)
  unfold pkn; omega
theorem pkn_int (z : Int) {m : Nat} (h : 0 < m) : ((pkn z m : Nat) : Int) = z % (m : Int) := by
  have h2 := Int.emod_nonneg z (show (m : Int) ≠ 0 by omega)
  unfold pkn; omega
theorem tmod_bd (z : Int) {m : Nat} (h : 0 < m) : -(m : Int) < z.tmod (m : Int) ∧ z.tmod (m : Int) < m := by
  have h1 := Int.emod_lt_of_pos z (show (0 : Int) < m by omega)
  have h2 := Int.emod_nonneg z (show (m : Int) ≠ 0 by omega)
  rw [Int.tmod_eq_emod]
  split
  · omega
  · rename_i hn
    have : z % (m : Int) ≠ 0 := fun e => hn (.inr (Int.dvd_of_emod_eq_zero e))
    simp only [Int.natAbs_natCast]
    omega
theorem pkn_neg {z : Int} {m : Nat} (hm : 0 < m) (h : z.tmod (m : Int) < 0) : z.tmod (m : Int) + (m : Int) = ((pkn z m : Nat) : Int) := by
  rw [pkn_int z hm]
  have h1 := Int.emod_nonneg z (show (m : Int) ≠ 0 by omega)
  rw [Int.tmod_eq_emod] at h ⊢
  split at h
  · omega
  · rename_i hn
    rw [if_neg hn]
    simp only [Int.natAbs_natCast] at *
    omega
theorem pkn_pos {z : Int} {m : Nat} (hm : 0 < m) (h : ¬ z.tmod (m : Int) < 0) : z.tmod (m : Int) = ((pkn z m : Nat) : Int) := by
  rw [pkn_int z hm]
  have h1 := Int.emod_lt_of_pos z (show (0 : Int) < m by omega)
  rw [Int.tmod_eq_emod] at h ⊢
  split at h
  · rename_i hn; rw [if_pos hn]; simp
  · rename_i hn
    simp only [Int.natAbs_natCast] at h
    omega

/-! ### Nonces of things -/
def nonf (l : List Nat) (a b : Int) (j : Nat) : Nat := if j = 11 then (b % 256).toNat else if j = 10 then (a % 256).toNat else if j < min l.length 12 then l.getD j 0 else 0
theorem nonf_lt {l : List Nat} (hl : ∀ x ∈ l, x < 256) (a b : Int) : ∀ j, j < 12 → nonf l a b j < 256 := fun j _ => by
  unfold nonf
  split
  · omega
  · split
    · omega
    · split
      · rename_i h
        rw [List.getD_eq_getElem?_getD, List.getElem?_eq_getElem (show j < l.length by omega)]
        exact hl _ (List.getElem_mem _)
      · decide
theorem non_end (l : List Nat) (a b : Int) : arr .u8 12 (upd (upd (fun j => if 0 + 0 * 1 ≤ j ∧ j < 0 + 0 * 1 + min l.length (12 - 0) then l.getD (j - (0 + 0 * 1)) 0 else 0) 10 (a % 256).toNat) 11 (b % 256).toNat) = arr .u8 12 (nonf l a b) := arr_congr fun j _ => by
  unfold nonf upd
  split
  · rfl
  · split
    · rfl
    · by_cases h : j < min l.length 12
      · rw [if_pos h]; exact if_pos (by omega)
      · rw [if_neg h]; exact if_neg (by omega)

/-! ### A stream twice; a stream's rest -/
theorem xor_back {a b : Nat} (ha : a < 256) (hb : b < 256) : ((a ^^^ b) % 256 ^^^ b) % 256 = a := by
  have h1 : a ^^^ b < 2 ^ 8 := Nat.xor_lt_two_pow (by omega) (by omega)
  rw [Nat.mod_eq_of_lt (show a ^^^ b < 256 by omega), Nat.xor_assoc, Nat.xor_self, Nat.xor_zero, Nat.mod_eq_of_lt ha]
theorem strl_get (k : Nat → Nat) (c : Nat) (nn : Nat → Nat) (l : List Nat) {t : Nat} (h : t < l.length) : (strl k c nn l 0).getD t 0 = strv k c nn l t := by
  rw [List.getD_eq_getElem?_getD, List.getElem?_eq_getElem (by rw [strl_len]; omega)]
  simp [strl]
theorem str_twice (k : Nat → Nat) (c : Nat) (nn : Nat → Nat) {l : List Nat} (hl : ∀ x ∈ l, x < 256) : strl k c nn (strl k c nn l 0) 0 = l := by
  apply List.ext_getElem
  · simp [strl_len]
  · intro j h1 h2
    have e : (strl k c nn (strl k c nn l 0) 0)[j] = strv k c nn (strl k c nn l 0) j := by simp [strl]
    rw [e]
    unfold strv
    rw [strl_get k c nn l h2]
    unfold strv
    rw [List.getD_eq_getElem?_getD, List.getElem?_eq_getElem h2]
    exact xor_back (hl _ (List.getElem_mem _)) (blkf_lt _ _ _ _)
theorem str_rest (k : Nat → Nat) {c : Nat} (nn : Nat → Nat) (l : List Nat) (hl : l.length ≤ 300) : (strl k c nn l 0).drop (min 64 l.length) = strl k (c + 1) nn (l.drop (min 64 l.length)) 0 := by
  apply List.ext_getElem
  · simp [strl_len]
  · intro j h1 h2
    have hj : j < l.length - min 64 l.length := by simpa [strl_len] using h2
    have hm : min 64 l.length = 64 := by omega
    have e1 : ((strl k c nn l 0).drop (min 64 l.length))[j] = strv k c nn l (64 + j) := by
      rw [List.getElem_drop]
      simp [strl, hm]
    have e2 : (strl k (c + 1) nn (l.drop (min 64 l.length)) 0)[j] = strv k (c + 1) nn (l.drop (min 64 l.length)) j := by simp [strl]
    rw [e1, e2, hm]
    unfold strv
    rw [show (c + (64 + j) / 64 % 4294967296) % 4294967296 = (c + 1 + j / 64 % 4294967296) % 4294967296 by omega, show (64 + j) % 64 = j % 64 by omega]
    congr 2
    simp [List.getD]

theorem strv_first (k : Nat → Nat) {c : Nat} (nn : Nat → Nat) (l : List Nat) {i : Nat} (h : i < l.length) (hi : i < 64) (hc : c < 4294967296) : (l[i] ^^^ blkf k c nn i) % 256 = strv k c nn l i := by
  unfold strv
  rw [List.getD_eq_getElem?_getD, List.getElem?_eq_getElem h, show (c + i / 64 % 4294967296) % 4294967296 = c by omega, show i % 64 = i by omega]
  rfl
theorem cut_rest (k : Nat → Nat) (c : Nat) (nn : Nat → Nat) (l : List Nat) : ((strl k c nn l 0).drop (min 64 l.length)).take (l.length - 0 - min 64 l.length) = (strl k c nn l 0).drop (min 64 l.length) := List.take_of_length_le (by simp [strl_len])
theorem cut_end (l : List Nat) (i : Nat) : (l.drop i).take (l.length - i) = l.drop i := List.take_of_length_le (by simp)
theorem nth_str (k : Nat → Nat) (c : Nat) (nn : Nat → Nat) (l : List Nat) {i : Nat} (h : i < l.length) : ((strl k c nn l 0).map by8)[i]? = some (by8 (strv k c nn l i)) := by
  rw [List.getElem?_map, List.getElem?_eq_getElem (by rw [strl_len]; omega)]
  simp [strl]
theorem nth_by8 {l : List Nat} {i : Nat} (h : i < l.length) : (l.map by8)[i]? = some (by8 l[i]) := by
  rw [List.getElem?_map, List.getElem?_eq_getElem h]; rfl

/-! ### Known answers -/
def itL (l : List Nat) : List Nat := (List.range 16).map (dbl (fun t => l.getD t 0))
theorem rnd_cg {f g : Nat → Nat} (h : ∀ t, t < 16 → f t = g t) : ∀ t, t < 16 → rnd f t = rnd g t := fun t ht => by
  unfold rnd
  rw [h (t % 4) (by omega), h (4 + t % 4) (by omega), h (8 + t % 4) (by omega), h (12 + t % 4) (by omega)]
theorem dbl_cg {f g : Nat → Nat} (h : ∀ t, t < 16 → f t = g t) : ∀ t, t < 16 → dbl f t = dbl g t := fun t ht => by
  unfold dbl shm
  exact rnd_cg (fun t ht => by unfold sh1; exact rnd_cg h _ (by omega)) _ (by omega)
theorem dbls_it {f : Nat → Nat} {k : Nat} {l l' : List Nat} (h : ∀ t, t < 16 → dbls f k t = l.getD t 0) (hl : itL l = l') : ∀ t, t < 16 → dbls f (k + 1) t = l'.getD t 0 := fun t ht => by
  rw [← hl]
  show dbl (dbls f k) t = _
  rw [dbl_cg h t ht]
  simp [itL, List.getD, ht]

def kn0 : List Nat := [1634760805, 857760878, 2036477234, 1797285236, 50462976, 117835012, 185207048, 252579084, 319951120, 387323156, 454695192, 522067228, 1, 150994944, 1241513984, 0]
def kn1 : List Nat := [3444762903, 2242577332, 3007673237, 4184729565, 3300379938, 1546524794, 3378426977, 829194266, 2079840064, 2128467524, 4053908981, 1980909258, 1796036771, 1738032922, 3610767719, 4050880653]
def kn2 : List Nat := [3474617732, 76097516, 1409621978, 3259301672, 2417831744, 2037692444, 932040628, 3444047118, 766489110, 667458774, 3443301024, 2046593479, 279900557, 371296101, 1761044229, 81194530]
def kn3 : List Nat := [60899378, 1722898727, 2641062722, 3092005129, 2803120864, 2694525917, 2782572424, 802757235, 3373034264, 1512055827, 3255697846, 1926065012, 3124090743, 3009475007, 2172137819, 751901466]
def kn4 : List Nat := [2586654089, 186907726, 1085225835, 3471475012, 169607110, 1582928887, 2567226087, 221464344, 3832308564, 3377476137, 83817898, 4170399602, 646435958, 1424380465, 898957253, 725332682]
def kn5 : List Nat := [3308460229, 3392298390, 2122125771, 872735434, 651677555, 1619579769, 3237013949, 3809529273, 2922162395, 1123449970, 1902549706, 2539394845, 2657010216, 2105911795, 538773334, 1677355347]
def kn6 : List Nat := [77796122, 1712808713, 68532913, 1639481506, 919373511, 3213509733, 4152219424, 4228635792, 131152586, 3943426479, 1633260689, 2441417436, 867592301, 2036123249, 3221526898, 2695371742]
def kn7 : List Nat := [2607871263, 2124983313, 568675753, 3392748335, 2477819526, 1783386286, 421603930, 2600675672, 3627619934, 1275519626, 3556632990, 648855869, 2785670485, 740582729, 2501187667, 746879501]
def kn8 : List Nat := [3395061213, 2477062414, 3656441688, 652051165, 2552587256, 1898621439, 664429032, 2534372029, 472224538, 1367390992, 2006722535, 1409777160, 2847363579, 942619874, 2377217405, 3426224139]
def kn9 : List Nat := [3065544166, 2583781704, 2475005973, 1226172108, 3694379298, 2564919203, 1610344700, 4145367947, 683801779, 3300102045, 2212689367, 2099558795, 554142498, 2979260323, 3002373001, 1826512934]
def kn10 : List Nat := [2205644971, 3795375971, 2793071134, 1498463023, 3304247495, 4234328879, 2409634044, 1063176119, 861041090, 4069820915, 3938298108, 2196008637, 3516666548, 2957907678, 2659438795, 1312575650]
theorem kn_s0 : itL kn0 = kn1 := by decide +kernel
theorem kn_s1 : itL kn1 = kn2 := by decide +kernel
theorem kn_s2 : itL kn2 = kn3 := by decide +kernel
theorem kn_s3 : itL kn3 = kn4 := by decide +kernel
theorem kn_s4 : itL kn4 = kn5 := by decide +kernel
theorem kn_s5 : itL kn5 = kn6 := by decide +kernel
theorem kn_s6 : itL kn6 = kn7 := by decide +kernel
theorem kn_s7 : itL kn7 = kn8 := by decide +kernel
theorem kn_s8 : itL kn8 = kn9 := by decide +kernel
theorem kn_s9 : itL kn9 = kn10 := by decide +kernel
def ko0 : List Nat := [1634760805, 857760878, 2036477234, 1797285236, 0, 0, 0, 0, 0, 0, 0, 0, 0, 0, 0, 0]
def ko1 : List Nat := [3831485001, 465051814, 3810167018, 3865553406, 708572787, 2260680856, 1175146506, 4195784838, 1401801230, 205755969, 16389820, 2315813162, 1807715081, 3274707926, 3147798601, 2277908837]
def ko2 : List Nat := [2987265446, 555851331, 2043056534, 2394542343, 683648334, 243939487, 2031723700, 842999353, 1769110809, 317167340, 3515309448, 1613476332, 1612483213, 416233319, 1624313532, 397031114]
def ko3 : List Nat := [42443425, 3537648111, 4075615518, 3280431870, 2457253921, 936163239, 535217241, 3858322967, 3618735395, 2694131698, 320827381, 1865984460, 1547860575, 496143739, 4107449562, 442763396]
def ko4 : List Nat := [3464398809, 2736782107, 1867918925, 914662315, 3272508460, 998218446, 2296453912, 505049583, 1927367832, 1097802169, 1733510303, 425094469, 2739030577, 28346074, 3103619896, 1123945486]
def ko5 : List Nat := [1308838156, 2549006073, 4135762692, 793240496, 1354003995, 3934035184, 3013862787, 3854227624, 1335860601, 1156916115, 2881466214, 1593652346, 2985647285, 85002989, 1444698375, 3558679988]
def ko6 : List Nat := [153779254, 551088281, 2573988431, 1784856811, 3150129412, 343203913, 2777219198, 1595256366, 2046321669, 3236133586, 875096108, 2039282348, 748642874, 426368672, 803736417, 3190166337]
def ko7 : List Nat := [1843350424, 1608384784, 3655185970, 1947739403, 3718507033, 1188705781, 838547146, 1894081315, 1188398960, 3234391270, 3125483095, 3295685470, 2940917475, 3868489986, 646047163, 674516562]
def ko8 : List Nat := [4142613381, 256929999, 2185938132, 4278346116, 1910216669, 1624086861, 2910867510, 2312475086, 2656191475, 382791205, 2196319126, 3503982164, 1805033478, 1199192055, 3527735948, 2991348835]
def ko9 : List Nat := [172609723, 4252221419, 3259208404, 3775952493, 2081980761, 957320013, 170075935, 235214466, 1531487041, 140632055, 1563676091, 399783725, 3319306763, 2649833516, 2961880544, 2236122496]
def ko10 : List Nat := [1282424849, 1562217778, 1812475918, 3181191391, 3088700093, 451775904, 3438229160, 3339548555, 2086224346, 2370328401, 1071654007, 927652024, 4105716586, 480319509, 1773569987, 2254827186]
theorem ko_s0 : itL ko0 = ko1 := by decide +kernel
theorem ko_s1 : itL ko1 = ko2 := by decide +kernel
theorem ko_s2 : itL ko2 = ko3 := by decide +kernel
theorem ko_s3 : itL ko3 = ko4 := by decide +kernel
theorem ko_s4 : itL ko4 = ko5 := by decide +kernel
theorem ko_s5 : itL ko5 = ko6 := by decide +kernel
theorem ko_s6 : itL ko6 = ko7 := by decide +kernel
theorem ko_s7 : itL ko7 = ko8 := by decide +kernel
theorem ko_s8 : itL ko8 = ko9 := by decide +kernel
theorem ko_s9 : itL ko9 = ko10 := by decide +kernel
theorem kn_all (f : Nat → Nat) (h : ∀ t, t < 16 → f t = kn0.getD t 0) : ∀ t, t < 16 → dbls f 10 t = kn10.getD t 0 :=
  (dbls_it (dbls_it (dbls_it (dbls_it (dbls_it (dbls_it (dbls_it (dbls_it (dbls_it (dbls_it h kn_s0) kn_s1) kn_s2) kn_s3) kn_s4) kn_s5) kn_s6) kn_s7) kn_s8) kn_s9)
theorem ko_all (f : Nat → Nat) (h : ∀ t, t < 16 → f t = ko0.getD t 0) : ∀ t, t < 16 → dbls f 10 t = ko10.getD t 0 :=
  (dbls_it (dbls_it (dbls_it (dbls_it (dbls_it (dbls_it (dbls_it (dbls_it (dbls_it (dbls_it h ko_s0) ko_s1) ko_s2) ko_s3) ko_s4) ko_s5) ko_s6) ko_s7) ko_s8) ko_s9)
theorem outl_cg {v w v' w' : Nat → Nat} : ∀ i, i ≤ 16 → (∀ t, t < 16 → v t = v' t) → (∀ t, t < 16 → w t = w' t) → outl v w i = outl v' w' i
  | 0, _, _, _ => rfl
  | i + 1, h, h1, h2 => by
    unfold outl
    rw [outl_cg i (by omega) h1 h2, h1 i (by omega), h2 i (by omega)]
abbrev knk : Nat → Nat := fun j => j
abbrev knn : Nat → Nat := upd (upd (fun _ => 0) 3 9) 7 74
theorem kn_start : ∀ t, t < 16 → wrd (allb knk 1 knn) t = kn0.getD t 0 := by decide +kernel
theorem ko_start : ∀ t, t < 16 → wrd (allb (fun _ => 0) 0 (fun _ => 0)) t = ko0.getD t 0 := by decide +kernel
theorem kn_blk : blkl knk 1 knn = outl (fun t => kn10.getD t 0) (fun t => kn0.getD t 0) 16 := outl_cg 16 (by decide) (kn_all _ kn_start) kn_start
theorem ko_blk : blkl (fun _ => 0) 0 (fun _ => 0) = outl (fun t => ko10.getD t 0) (fun t => ko0.getD t 0) 16 := outl_cg 16 (by decide) (ko_all _ ko_start) ko_start
abbrev knA : List Nat := [16, 241, 231, 228, 209, 59, 89, 21]
theorem kn_out : ∀ i, i < 8 → blkf knk 1 knn i = knA.getD i 0 := by
  unfold blkf; rw [kn_blk]; decide +kernel
theorem ko_out : blkf (fun _ => 0) 0 (fun _ => 0) 0 = 118 := by
  unfold blkf; rw [ko_blk]; decide +kernel

/-! ### Slices of bytes -/
theorem Shows.cut {B : Mem} {v : Value} {l l' : List Nat} {i j : Nat} (h : Shows B 1 v l.length (l.map by8)) (h1 : i ≤ j) (h2 : j ≤ l.length) (hl : (l.drop i).take (j - i) = l') : Shows B 1 (slPart 1 v i j) l'.length (l'.map by8) := by
  have := h.part h1 h2
  rw [Nat.mul_one, Nat.mul_one, ← List.map_drop, ← List.map_take, hl] at this
  have e : j - i = l'.length := by rw [← hl]; simp; omega
  rw [e] at this
  exact this
theorem own_bytes {e : TypeId} {v : Value} {l : List Nat} {n : Nat} {m : Mem} (h : OwnS e 1 v n (l.map by8) m) : Shows m 1 v l.length (l.map by8) := by
  have h1 := h.len
  rw [List.length_map, Nat.mul_one] at h1
  rw [h1]; exact h.shows
def zrs (n : Nat) : List Nat := (List.range n).map fun _ => 0
theorem zrs_len (n : Nat) : (zrs n).length = n := by simp [zrs]
theorem zrs_lt (n : Nat) : ∀ x ∈ zrs n, x < 256 := fun x hx => by
  obtain ⟨_, _, rfl⟩ := List.mem_map.1 hx; decide
theorem made_shows (r n : Nat) (e : TypeId) : Shows [⟨r, arr .u8 n (fun _ => 0), e⟩] 1 (.slice (some ⟨r, 0, none⟩) n n) (zrs n).length ((zrs n).map by8) := by
  rw [zrs_len]
  have := shows_new (z := 1) (len := n) (r := r) (arr .u8 n (fun _ => 0)) e (by rw [arr_size, Nat.mul_one])
  have e2 : (arr .u8 n (fun _ => 0)).toList = (zrs n).map by8 := by
    unfold arr zrs
    rw [List.map_map]
    rfl
  rw [e2] at this
  exact this
theorem take_min (l : List Nat) : (l.drop 0).take (min l.length 300 - 0) = l.take 300 := by
  rw [List.drop_zero, Nat.sub_zero]
  by_cases h : l.length ≤ 300
  · rw [Nat.min_eq_left h, List.take_length, List.take_of_length_le h]
  · rw [Nat.min_eq_right (by omega)]

end Go.Proofs.Ytoalabpbohkcjaa

/-
  Walks, written by a program of ours off the loaded functions.
-/
namespace Go.Proofs.Ytoalabpbohkcjaa
open Go Go.RowKit


theorem added_msg {G : Mem} (f : Nat → Nat) (m : List Nat) (v : Value) (l : List Nat) (hf : ∀ j, j < 32 → f j < 256) (hm : ∀ b ∈ m, b < 256) (hv : Shows G 1 v l.length (l.map by8)) (hlb : ∀ b ∈ l, b < 256) (hlen : l.length + 16 ≤ 9223372036854775807) :
    Fn Try.prog G 40 #[stP f m, v] (.tuple #[stP f (m ++ l), ii 0]) := by
  have hb := bL_lt hf
  have h := added_ok (G := G) (w8 (bL f)) (fun j => w8 (bL f) (j + 2)) (acc0 (k3 (w8 (bL f))) m) (heldF m) (rem16 m).length v l hv hlb (Nat.lt_trans (acc0_lt _ _) QQ_lt) (w8_lt hb 0) (w8_lt hb 1) (by rw [rem16_len]; omega) (fun j _ => heldF_lt hm j) (ok_heldF (okR_begun hf) _ m) hlen
  rw [sS_held, acc0_app, rem16_app] at h
  exact h
theorem ended_msg {G : Mem} (f : Nat → Nat) (m : List Nat) (hf : ∀ j, j < 32 → f j < 256) (hm : ∀ b ∈ m, b < 256) : Fn Try.prog G 42 #[stP f m] (.tuple #[.agg (arr .u8 16 (ptg f m)), ii 0]) := by
  have hb := bL_lt hf
  have hok := ok_heldF (okR_begun hf) (k3 (w8 (bL f))) m
  by_cases h0 : (rem16 m).length = 0
  · have h := ended_zero (G := G) (w8 (bL f)) (fun j => w8 (bL f) (j + 2)) (acc0 (k3 (w8 (bL f))) m) (heldF m) (rem16 m).length (w8_lt hb 0) (w8_lt hb 1) (w8_lt hb 2) (w8_lt hb 3) h0 hok
    unfold stP cP
    rw [show acc0 (k3 (w8 (bL f))) m = accE (k3 (w8 (bL f))) m from (if_pos h0).symm] at h ⊢
    exact h
  · have h := ended_some (G := G) (w8 (bL f)) (fun j => w8 (bL f) (j + 2)) (acc0 (k3 (w8 (bL f))) m) (heldF m) (rem16 m).length (w8_lt hb 0) (w8_lt hb 1) (w8_lt hb 2) (w8_lt hb 3) (Nat.lt_trans (acc0_lt _ _) QQ_lt) (fun j _ => heldF_lt hm j) (by omega) (by rw [rem16_len]; omega) hok
    rw [held_list, show pst (k3 (w8 (bL f))) (acc0 (k3 (w8 (bL f))) m) (rem16 m) = accE (k3 (w8 (bL f))) m from (if_neg h0).symm] at h
    exact h

theorem ent40 : enters Try.prog 40 = true := by kernel_rfl
theorem ent42 : enters Try.prog 42 = true := by kernel_rfl

variable {G : Mem}

set_option maxHeartbeats 2000000 in
theorem tag_fn (f : Nat → Nat) (hf : ∀ j, j < 32 → f j < 256) (l : List Nat) (hb : ∀ b ∈ l, b < 256) (hl : l.length ≤ 140737488351232) : Fn Try.prog G 25 #[.agg (arr .u8 32 f), sv l] (.agg (arr .u8 16 (ptg f l))) := by
  have hl2 : l.length + 16 ≤ 9223372036854775807 := by omega
  refine fn1 (n := 23) Try.func25 rfl rfl (by simp) (argE [.agg (arr .u8 32 f), sv l] 0) (argE_ok _) ?_
  refine e_seq ?_
  refine e_plain ?_
  refine e_box 0 rfl rfl fun r1 => ?_
  refine e_alloc 1 zer38 rfl fun r2 => ?_
  refine e_nil ?_
  refine e_seq ?_
  refine e_plainR ⟨[], 1, [24]⟩ ?_
  refine e_loadA (i := 0) und36 rfl siz36 rfl rfl (arr_size _ _ _) rfl ⟨[], trivial⟩ ?_
  refine e_call rfl ent41 (begun_fn f hf) rfl rfl ?_
  refine e_as (stP_nil f) ?_
  refine e_move rfl rfl ?_
  refine e_conv_own 2 und9 und24 und5 rfl hb (by simp only [maxLen]; omega) rfl rfl fun v1_1 oz1_1 ho1_1 => ?_
  refine e_callV oz1_1.toList rfl rfl ent40 (subM_opt (i := 2) rfl) (added_msg (G := oz1_1.toList) f [] v1_1 l hf (by simp) (own_bytes ho1_1) hb hl2) rfl rfl rfl ?_
  refine e_as (show _ = Value.tuple #[stP f l, ii 0] from rfl) ?_
  refine e_move rfl rfl ?_
  refine e_extract rfl rfl rfl ?_
  refine e_extract rfl rfl rfl ?_
  refine e_alloc 3 zer61 rfl fun r4 => ?_
  refine e_storeA (i := 3) siz61 rfl rfl (arrv_size _ _) (cells_one ⟨fun _ => rfl, fun _ => rfl, fun _ => rfl, fun _ => rfl, fun _ => rfl, trivial⟩) rfl cells_sz (.inl rfl) ?_
  refine e_assign rfl rfl ?_
  refine e_nil ?_
  refine e_seq ?_
  refine e_plain ?_
  refine e_loadA (i := 3) und61 rfl siz61 rfl rfl (arrv_size _ _) rfl ⟨[], trivial⟩ ?_
  refine e_call rfl ent42 (ended_msg f l hf hb) rfl rfl ?_
  refine e_move rfl rfl ?_
  refine e_extract rfl rfl rfl ?_
  refine e_extract rfl rfl rfl ?_
  refine e_alloc 4 zer38 rfl fun r5 => ?_
  refine e_storeA (i := 4) siz38 rfl rfl (arr_size _ _ _) arr_one rfl (arr_sz _ _ _ _ _) (.inl rfl) ?_
  refine e_assign rfl rfl ?_
  refine e_nil ?_
  refine e_seq ?_
  refine e_plain ?_
  refine e_loadA (i := 4) und38 rfl siz38 rfl rfl (arr_size _ _ _) rfl ⟨[], trivial⟩ ?_
  refine e_storeA (i := 1) siz38 rfl rfl (arr_size _ _ _) arr_one rfl (arr_sz _ _ _ _ _) (.inl rfl) ?_
  refine e_nil ?_
  refine e_ret ?_
  exact ⟨_, rfl, .cell (i := 1) rfl rfl und38 rfl siz38 (arr_size _ _ _)⟩

end Go.Proofs.Ytoalabpbohkcjaa

/-
  Bytes that are cut in three; a key whose first half is nought.
-/
namespace Go.Proofs.Ytoalabpbohkcjaa
open Go Go.RowKit

def cut3 (i j n x : Nat) : Nat := if x = 0 then 0 else if x = 1 then i else if x = 2 then j else n
theorem cut3_le {i j n x : Nat} (hij : i ≤ j) (hjn : j ≤ n) (hx : x < 3) : cut3 i j n x ≤ cut3 i j n (x + 1) ∧ cut3 i j n (x + 1) ≤ n := by
  have : x = 0 ∨ x = 1 ∨ x = 2 := by omega
  rcases this with rfl | rfl | rfl
  · exact ⟨Nat.zero_le _, Nat.le_trans hij hjn⟩
  · exact ⟨hij, hjn⟩
  · exact ⟨hjn, Nat.le_refl _⟩
theorem take_part (l : List Nat) {a b : Nat} (h : a ≤ b) : l.take a ++ (l.drop a).take (b - a) = l.take b := by
  rw [← List.take_add, show a + (b - a) = b by omega]
theorem conv_from (f : Nat → Nat) (o n : Nat) : Value.string (strOfNums ((List.range n).map fun j => (f (o + j) : Int))) = sv ((List.range n).map fun j => f (o + j)) := by
  have e : ((List.range n).map fun j => (f (o + j) : Int)) = ((List.range n).map fun j => f (o + j)).map fun m : Nat => (m : Int) := by
    rw [List.map_map]
    exact List.map_congr_left fun j _ => by simp
  rw [e, str_nums]
theorem pst_zero (A : Nat) (l : List Nat) : pst 0 A l = 0 := by unfold pst; simp
theorem accs_zero (S : List Nat) : ∀ k, accs 0 0 S k = 0
  | 0 => rfl
  | _ + 1 => pst_zero _ _
theorem accE_zero (m : List Nat) : accE 0 m = 0 := by
  unfold accE
  split
  · exact accs_zero m _
  · exact pst_zero _ _
theorem leN_all0 : ∀ (l : List Nat), (∀ b ∈ l, b = 0) → leN l = 0
  | [], _ => rfl
  | b :: l, h => by
    rw [leN, h b (by simp), leN_all0 l (fun x hx => h x (by simp [hx]))]
theorem leN_two (l : List Nat) (hl : 8 ≤ l.length) : leN (l.take 8) + leN (l.drop 8) * 2 ^ 64 = leN l := by
  have h := leN_app (l.take 8) (l.drop 8)
  rw [List.take_append_drop] at h
  have e : (l.take 8).length = 8 := by simp; omega
  rw [e] at h
  rw [h]
  have : (256 : Nat) ^ 8 = 2 ^ 64 := by decide
  rw [this, Nat.mul_comm (2 ^ 64)]
theorem ptg_zero {z f : Nat → Nat} (h0 : ∀ j, j < 16 → z j = 0) (h1 : ∀ j, 16 ≤ j → j < 32 → z j = f j) (hf : ∀ j, j < 32 → f j < 256) (m : List Nat) {i : Nat} (hi : i < 16) : ptg z m i = f (16 + i) := by
  have hmz : ∀ j, j < 16 → msk z j = 0 := fun j hj => by
    unfold msk
    rw [h0 j hj]
    split
    · simp
    · split <;> simp
  have hmf : ∀ j, 16 ≤ j → j < 32 → msk z j = f j := fun j h2 h3 => by
    unfold msk
    rw [if_neg (by omega), if_neg (by omega), h1 j h2 h3]
  have eR : ∀ q, q < 2 → w8 (bL z) q = 0 := fun q hq => by
    unfold w8
    refine leN_all0 _ fun b hb => ?_
    obtain ⟨j, hj, rfl⟩ := List.getElem_of_mem hb
    have hj8 : j < 8 := by simp at hj; omega
    simp only [List.getElem_take, List.getElem_drop, bL, List.getElem_map, List.getElem_range]
    exact hmz _ (by omega)
  have eK : k3 (w8 (bL z)) = 0 := by unfold k3; rw [eR 0 (by decide), eR 1 (by decide)]
  have eL : (bL z).drop 16 = (List.range 16).map fun j => f (16 + j) := by
    apply List.ext_getElem
    · simp [bL]
    · intro j h2 h3
      have hj : j < 16 := by simpa using h3
      simp only [List.getElem_drop, bL, List.getElem_map, List.getElem_range]
      exact hmf _ (by omega) (by omega)
  have eP : (k3 fun j => w8 (bL z) (j + 2)) = leN ((List.range 16).map fun j => f (16 + j)) := by
    have h2 := leN_two ((List.range 16).map fun j => f (16 + j)) (by simp)
    rw [← h2, ← eL]
    show leN (((bL z).drop 16).take 8) + leN (((bL z).drop (16 + 8)).take 8) * 2 ^ 64 = _
    rw [← List.drop_drop]
    rw [List.take_of_length_le (l := ((bL z).drop 16).drop 8) (by simp [bL_len])]
  unfold ptg
  rw [eK, accE_zero, eP]
  unfold tgn
  have : k3 (wd 0) = 0 := by rw [wd_none]; rfl
  rw [this, Nat.zero_add, leN_get _ (fun b hb => by obtain ⟨j, hj, rfl⟩ := List.mem_map.1 hb; exact hf _ (by have := List.mem_range.1 hj; omega)) i (by simpa using hi)]
  simp
/-- The first half is written over with noughts. -/
def half0 (f : Nat → Nat) : Nat → Nat := fun j => if 0 ≤ j ∧ j < 0 + min (zrs 16).length 16 then (zrs 16).getD (j - 0) 0 else f j
theorem half0_lo (f : Nat → Nat) : ∀ j, j < 16 → half0 f j = 0 := fun j hj => by
  unfold half0
  rw [if_pos (by rw [zrs_len]; omega)]
  simp [zrs, List.getD_eq_getElem?_getD, hj]
theorem half0_hi (f : Nat → Nat) : ∀ j, 16 ≤ j → j < 32 → half0 f j = f j := fun j h1 h2 => by
  unfold half0
  rw [if_neg (by rw [zrs_len]; omega)]
theorem half0_lt {f : Nat → Nat} (hf : ∀ j, j < 32 → f j < 256) : ∀ j, j < 32 → half0 f j < 256 := fun j hj => by
  by_cases h : j < 16
  · rw [half0_lo f j h]; decide
  · rw [half0_hi f j (by omega) hj]; exact hf j hj
theorem ptg_half0 {f : Nat → Nat} (hf : ∀ j, j < 32 → f j < 256) (m : List Nat) : ((List.range 16).map fun j => ptg (half0 f) m (0 + j)) = (List.range 16).map fun j => f (16 + j) :=
  List.map_congr_left fun j hj => by
    rw [Nat.zero_add]
    exact ptg_zero (half0_lo f) (half0_hi f) hf m (List.mem_range.1 hj)

end Go.Proofs.Ytoalabpbohkcjaa

/-
  Sealed texts in plain numbers.
-/
namespace Go.Proofs.Ytoalabpbohkcjaa
open Go Go.RowKit

/-- The key for once. -/
def okey (k nn : Nat → Nat) : Nat → Nat := fun j => blkf k 0 nn j
theorem okey_lt (k nn : Nat → Nat) : ∀ j, j < 32 → okey k nn j < 256 := fun _ _ => blkf_lt _ _ _ _
def pad16 (l : List Nat) : List Nat := l ++ zrs ((16 - l.length % 16) % 16)
theorem pad16_len (l : List Nat) : (pad16 l).length ≤ l.length + 15 := by simp [pad16, zrs_len]; omega
theorem pad16_lt {l : List Nat} (h : ∀ b ∈ l, b < 256) : ∀ b ∈ pad16 l, b < 256 := fun b hb => by
  rcases List.mem_append.1 hb with hb | hb
  · exact h b hb
  · exact zrs_lt _ b hb
def macIn (ad b : List Nat) : List Nat := pad16 ad ++ pad16 b ++ lowl ad.length 8 ++ lowl b.length 8
theorem macIn_len (ad b : List Nat) : (macIn ad b).length ≤ ad.length + b.length + 46 := by
  have h1 := pad16_len ad
  have h2 := pad16_len b
  simp [macIn, lowl_len]; omega
theorem macIn_lt {ad b : List Nat} (h1 : ∀ x ∈ ad, x < 256) (h2 : ∀ x ∈ b, x < 256) : ∀ x ∈ macIn ad b, x < 256 := fun x hx => by
  unfold macIn at hx
  rcases List.mem_append.1 hx with hx | hx
  · rcases List.mem_append.1 hx with hx | hx
    · rcases List.mem_append.1 hx with hx | hx
      · exact pad16_lt h1 x hx
      · exact pad16_lt h2 x hx
    · exact lowl_lt _ _ x hx
  · exact lowl_lt _ _ x hx
/-- The tag of what is beside a text and of the turned text. -/
def tagl (k nn : Nat → Nat) (ad b : List Nat) : List Nat := (List.range 16).map (ptg (okey k nn) (macIn ad b))
theorem tagl_len (k nn : Nat → Nat) (ad b : List Nat) : (tagl k nn ad b).length = 16 := by simp [tagl]
theorem tagl_lt (k nn : Nat → Nat) (ad b : List Nat) : ∀ x ∈ tagl k nn ad b, x < 256 := range_lt fun _ _ => ptg_lt _ _ _
def sealL (k nn : Nat → Nat) (ad tx : List Nat) : List Nat := strl k 1 nn tx 0 ++ tagl k nn ad (strl k 1 nn tx 0)
theorem sealL_len (k nn : Nat → Nat) (ad tx : List Nat) : (sealL k nn ad tx).length = tx.length + 16 := by
  simp [sealL, tagl_len, strl_len]
theorem sealL_lt (k nn : Nat → Nat) (ad tx : List Nat) : ∀ x ∈ sealL k nn ad tx, x < 256 := fun x hx => by
  rcases List.mem_append.1 hx with hx | hx
  · exact strl_lt _ _ _ _ _ x hx
  · exact tagl_lt _ _ _ _ x hx
/-- Does it open? -/
def opensL (k nn : Nat → Nat) (ad b : List Nat) : Prop := tagl k nn ad (b.take (b.length - 16)) = b.drop (b.length - 16)
def openL (k nn : Nat → Nat) (b : List Nat) : List Nat := strl k 1 nn (b.take (b.length - 16)) 0
theorem openL_len (k nn : Nat → Nat) (b : List Nat) : (openL k nn b).length = b.length - 16 := by
  simp [openL, strl_len]
theorem seal_opens (k nn : Nat → Nat) (ad tx : List Nat) : opensL k nn ad (sealL k nn ad tx) := by
  unfold opensL
  rw [sealL_len, show tx.length + 16 - 16 = tx.length by omega]
  unfold sealL
  have hl : (strl k 1 nn tx 0).length = tx.length := strl_len k 1 nn tx 0
  rw [List.take_append_of_le_length (by omega), List.drop_append_of_le_length (by omega), List.take_of_length_le (by omega), List.drop_eq_nil_of_le (by omega)]
  rfl
theorem seal_open (k nn : Nat → Nat) (ad : List Nat) {tx : List Nat} (ht : ∀ x ∈ tx, x < 256) : openL k nn (sealL k nn ad tx) = tx := by
  unfold openL
  rw [sealL_len, show tx.length + 16 - 16 = tx.length by omega]
  unfold sealL
  have hl : (strl k 1 nn tx 0).length = tx.length := strl_len k 1 nn tx 0
  rw [List.take_append_of_le_length (by omega), List.take_of_length_le (by omega)]
  exact str_twice k 1 nn ht
theorem open_seal (k nn : Nat → Nat) {ad b : List Nat} (hb : ∀ x ∈ b, x < 256) (h : opensL k nn ad b) : sealL k nn ad (openL k nn b) = b := by
  unfold sealL openL
  rw [str_twice k 1 nn (fun x hx => hb x (List.mem_of_mem_take hx)), h, List.take_append_drop]

end Go.Proofs.Ytoalabpbohkcjaa

/-
  The key for once, copied.
-/
namespace Go.Proofs.Ytoalabpbohkcjaa
open Go Go.RowKit

theorem okey_copy (k nn : Nat → Nat) : ∀ j, j < 32 → (if 0 + 0 * 1 ≤ j ∧ j < 0 + 0 * 1 + min ((List.range 32).map fun j => blkf k 0 nn (0 + j)).length (32 - 0) then ((List.range 32).map fun j => blkf k 0 nn (0 + j)).getD (j - (0 + 0 * 1)) 0 else 0) = okey k nn j := fun j hj => by
  rw [if_pos (by simp; omega)]
  simp [List.getD_eq_getElem?_getD, hj, okey]
theorem take_minN (l : List Nat) (n : Nat) : (l.drop 0).take (min l.length n - 0) = l.take n := by
  rw [List.drop_zero, Nat.sub_zero]
  by_cases h : l.length ≤ n
  · rw [Nat.min_eq_left h, List.take_length, List.take_of_length_le h]
  · rw [Nat.min_eq_right (by omega)]
theorem nth_getD {l : List Nat} {i : Nat} (h : i < l.length) : (l.map by8)[i]? = some (by8 (l.getD i 0)) := by
  rw [List.getElem?_map, List.getElem?_eq_getElem h, List.getD_eq_getElem?_getD, List.getElem?_eq_getElem h]; rfl
/-- A byte is turned. -/
def flip1 (l : List Nat) (j y : Nat) : List Nat := l.set j ((l.getD j 0 ^^^ y) % 256)
theorem flip1_len (l : List Nat) (j y : Nat) : (flip1 l j y).length = l.length := by simp [flip1]
theorem flip1_lt {l : List Nat} (h : ∀ x ∈ l, x < 256) (j y : Nat) : ∀ x ∈ flip1 l j y, x < 256 := fun x hx => by
  rcases List.mem_or_eq_of_mem_set hx with hx | rfl
  · exact h x hx
  · exact Nat.mod_lt _ (by decide)
theorem flip1_zero {l : List Nat} (h : ∀ x ∈ l, x < 256) {j : Nat} (hj : j < l.length) : flip1 l j 0 = l := by
  unfold flip1
  rw [Nat.xor_zero, List.getD_eq_getElem?_getD, List.getElem?_eq_getElem hj]
  show l.set j (l[j] % 256) = l
  rw [Nat.mod_eq_of_lt (h _ (List.getElem_mem _)), List.set_getElem_self]

end Go.Proofs.Ytoalabpbohkcjaa

/-
  Bytes of a slice are copied into a block.
-/
namespace Go.Proofs.Ytoalabpbohkcjaa
open Go Go.RowKit

theorem arrv_shows (r n : Nat) (F : Nat → Value) (e : TypeId) : Shows [⟨r, arrv n F, e⟩] 1 (.slice (some ⟨r, 0, none⟩) n n) n (arrv n F).toList := shows_new _ _ (by rw [arrv_size, Nat.mul_one])
theorem bstr_eq {l k : List Nat} (hl : ∀ b ∈ l, b < 256) (hk : ∀ b ∈ k, b < 256) : ((bstr l).toList == (bstr k).toList) = decide (l = k) := by
  have e : ∀ r : List Nat, (bstr r).toList = r.map UInt8.ofNat := fun r => by
    rw [ByteArray.toList_eq]
    simp [bstr]
  rw [e, e]
  by_cases hlk : l = k
  · subst hlk; simp
  · rw [decide_eq_false hlk, beq_eq_false_iff_ne]
    intro hh
    apply hlk
    have back : ∀ r : List Nat, (∀ b ∈ r, b < 256) → (r.map UInt8.ofNat).map UInt8.toNat = r := fun r hr => by
      rw [List.map_map]
      conv => rhs; rw [← List.map_id r]
      exact List.map_congr_left fun b hb => by have := hr b hb; simp; omega
    rw [← back l hl, ← back k hk, hh]
theorem arr_shows (r N : Nat) (f : Nat → Nat) (t : TypeId) (o len cap : Nat) (h : o + len ≤ N) (hc : len ≤ cap) : Shows [⟨r, arr .u8 N f, t⟩] 1 (.slice (some ⟨r, o, none⟩) len cap) ((List.range len).map fun j => f (o + j)).length (((List.range len).map fun j => f (o + j)).map by8) := by
  have e : ((List.range len).map fun j => f (o + j)).length = len := by simp
  refine .inr ⟨r, o, cap, arr .u8 N f, t, by rw [e], by rw [e]; exact hc, by simp, by simp, by rw [e, arr_size]; omega, fun j u hj => ?_⟩
  rw [List.getElem?_map, List.getElem?_map] at hj
  by_cases hl : j < len
  · rw [List.getElem?_eq_getElem (by simpa using hl)] at hj
    simp at hj
    rw [arr_get (by omega), ← hj]
  · rw [List.getElem?_eq_none (by simpa using hl)] at hj
    cases hj
theorem own_setB {e : TypeId} {v : Value} {k j b : Nat} {l : List Nat} {m : Mem} (h : OwnS e 1 v k ((l.map by8).set j (by8 b)) m) : OwnS e 1 v k ((l.set j b).map by8) m := by
  rw [List.map_set]; exact h
theorem shows_one {B : Mem} {z n : Nat} {v : Value} {xs : List Value} (h : Shows B z v n xs) : v.cells = #[v] := by
  rcases h with ⟨_, _, oa, c, rfl, _⟩ | ⟨b, o, c, cs, t, rfl, _⟩ <;> rfl
theorem fill3 {Z : Array Value} (hZ : Z.size = 3) {a b c : Value} (ha : a.cells = #[a]) (hb : b.cells = #[b]) (hc : c.cells = #[c]) : Instr.fill (fun i => some (i * 1, 1)) Z [(0, a), (1, b), (2, c)] = some #[a, b, c] := by
  obtain ⟨p, q, r, rfl⟩ : ∃ p q r, Z = #[p, q, r] := by
    rcases Z with ⟨_ | ⟨p, _ | ⟨q, _ | ⟨r, _ | ⟨x, l⟩⟩⟩⟩⟩
    · simp at hZ
    · simp at hZ
    · simp at hZ
    · exact ⟨p, q, r, rfl⟩
    · simp at hZ
  simp [Instr.fill, ha, hb, hc]
section
variable {P : Program} {G : Mem} {R : Reg} {ops : Array Oper} {K : Act → Mem → Prop} {rest : List Oper} {a : Act} {m : Mem} {d : Option Tmp} {ty : TypeId} {pos : String} {aft : Array Edge}
variable {T T' : TypeId} {x y : Operand}
theorem first_shows {B : Mem} {vy : Value} {k n : Nat} {xs : List Value} (hsrc : Shows B 1 vy k xs) (hn : n ≤ k) {w : World} (hR : ∀ q ∈ B, RIn w q) : (Builtin.firstCells 1 n vy).run P w = .ok (xs.take n).toArray w ∧ (Builtin.lenOf vy).run P w = .ok k w := by
  rcases hsrc with ⟨rfl, rfl, oa, cap, rfl, _⟩ | ⟨b, o, cap, c, t, rfl, _, hb, hl, ho, hc⟩
  · have : n = 0 := by omega
    subst this
    refine ⟨?_, by simp [Builtin.lenOf]⟩
    cases oa with
    | none => simp [Builtin.firstCells]
    | some a => simp [Builtin.firstCells, loadCells, loadCellsFrom]
  · refine ⟨?_, by simp [Builtin.lenOf]⟩
    have hin := hR _ hb
    refine run_firstCells_some (P := P) w 1 n ⟨b, o, none⟩ k cap (xs.take n) (by rw [List.length_take, hl]; omega) fun j v hj => ?_
    rw [List.getElem?_take] at hj
    split at hj
    · have h1 := hc j v hj
      have hlt : o + j < c.size := (Array.getElem?_eq_some_iff.1 h1).1
      rw [add_off]
      have := hin.2 (o + j) hlt
      simp only at this
      rw [this]; exact h1
    · cases hj
theorem st_copyS {e : TypeId} {b o N dl cap i k : Nat} {F : Nat → Value} {t : TypeId} {xs : List Value} {B : Mem} {vy : Value} (hT : P.underlying T = some (.slice e)) (hs : (P.info? e).map (·.size) = some 1) (hx : a.eval x = .slice (some ⟨b, o, none⟩) dl cap) (hy : a.eval y = vy)
    (hsrc : Shows B 1 vy k xs) (hB : ∀ q ∈ B, q ∈ G ∨ q ∈ m) (h1 : ∀ u ∈ xs, u.oneCell' = true) (hm : m[i]? = some ⟨b, arrv N F, t⟩) (ho : o + dl ≤ N)
    (h : ∀ lr, List.Perm m (⟨b, arrv N F, t⟩ :: lr) → opsM P G R ops K rest (a.put d (ii (min k dl))) (⟨b, arrv N (putv F o (min k dl) (fun j => xs.getD j undef)), t⟩ :: lr)) : opsM P G R ops K (⟨d, .call ⟨.builtin .copy, #[x, y], #[T, T']⟩, ty, pos, aft, none⟩ :: rest) a m := by
  have hmem : (⟨b, arrv N F, t⟩ : Blk) ∈ m := mem_of_get hm
  obtain ⟨l1, l2, hml⟩ := List.append_of_mem hmem
  have hp : List.Perm m (⟨b, arrv N F, t⟩ :: (l1 ++ l2)) := by rw [hml]; exact List.perm_middle
  obtain ⟨c', hc'⟩ : ∃ c', c' = arrv N (putv F o (min k dl) (fun j => xs.getD j undef)) := ⟨_, rfl⟩
  have hxl : xs.length = k := by have := hsrc.len; omega
  refine .inr ⟨rfl, ?_⟩
  show coreM _ _ _ _ _ _ _ 5
  refine ⟨[⟨b, arrv N F, t⟩], l1 ++ l2, fun v r1 nw => v = ii (min k dl) ∧ r1 = [⟨b, c', t⟩] ∧ nw = [], by simpa using hp, ⟨_, _, _, ⟨rfl, rfl, rfl⟩, by simp, by simp⟩, ?_, ?_, ?_⟩
  · rintro v r1 nw ⟨_, rfl, _⟩; rfl
  · intro w hG hw _
    have hin := hw _ hmem
    refine .inl ⟨_, _, _, w.setRow b c', ?_, ⟨rfl, rfl, rfl⟩, post_row hin (by rw [hc', arrv_size, arrv_size])⟩
    obtain ⟨hf, hlo⟩ := first_shows (P := P) (n := min k dl) hsrc (by omega) (w := w) (fun q hq => by
      rcases hB q hq with h2 | h2
      · exact hG q h2
      · exact (hw q h2).read)
    have e1 : xs.take (min k dl) = (arrv (min k dl) (fun j => xs.getD j undef)).toList := by
      apply List.ext_getElem
      · simp [arrv]; omega
      · intro j h2 h3
        have hj : j < xs.length := by simp at h2; omega
        simp [arrv, List.getD_eq_getElem?_getD, List.getElem?_eq_getElem hj]
    have hst := run_storeCells_in (P := P) b o t (xs.take (min k dl)) 0 (arrv N F) w hin (by simp [arrv_size]; omega) (fun v hv => h1 v (List.mem_of_mem_take hv))
    have hc2 : ((arrv N F).toList.take (o + 0) ++ xs.take (min k dl) ++ (arrv N F).toList.drop (o + 0 + (xs.take (min k dl)).length)).toArray = c' := by
      have hl2 : (xs.take (min k dl)).length = min k dl := by rw [List.length_take]; omega
      rw [hc', hl2, e1, Nat.add_zero, arrv_put N o (min k dl) F _ (by omega)]
    rw [hc2] at hst
    generalize xs.take (min k dl) = vs at hf hst
    cases hi : P.info? e with
    | none => simp [hi] at hs
    | some q =>
      have hsz : q.size = 1 := by simpa [hi] using hs
      have hmin : Nat.min k dl = min k dl := rfl
      simp only [execOp, resolve, invoke, builtin, Sem.run_bind, Sem.run_pure, Result.andThen_ok, List.map_toArray, List.map_cons, List.map_nil, hx, hy]
      simp [Builtin.copy_, run_underlying hT, hlo, sizeOf, typeInfo, hi, hsz, hmin, hf, hst, goInt]
  · rintro v r1 nw ⟨rfl, rfl, rfl⟩ _
    rw [hc']
    simpa using h (l1 ++ l2) hp
end
section
variable {P : Program} {G : Mem} {R : Reg} {ops : Array Oper} {n : Nat} {K : Env → Mm → Prop} {rest : List Oper} {E : Env} {M : Mm} {d : Nat} {ty : TypeId} {pos : String} {aft : Array Edge}
variable {T T' : TypeId} {x y : Operand}
theorem SeenE.mem {B : Mem} (h : SeenE G R M B) {m : Mem} (hM : FitsM M m) : ∀ q ∈ B, q ∈ G ∨ q ∈ m := fun q hq => by
  rcases h q hq with h1 | ⟨i, h1, _⟩
  · exact .inl h1
  · exact .inr (hM.has i q h1)
theorem e_copyS {e : TypeId} {b o N dl cap i k : Nat} {F : Nat → Value} {t : TypeId} {xs : List Value} {B : Mem} {vy : Value} (hT : P.underlying T = some (.slice e)) (hs : (P.info? e).map (·.size) = some 1) (hsrc : Shows B 1 vy k xs) (hB : SeenE G R M B) (h1 : ∀ u ∈ xs, u.oneCell' = true)
    (hx : rd E x = some (.slice (some ⟨b, o, none⟩) dl cap)) (hy : rd E y = some vy) (hm : lkM M i = some ⟨b, arrv N F, t⟩) (ho : o + dl ≤ N) (hd : Nat.blt d n = true)
    (h : OpsE P G R ops n K rest ((d, ii (min k dl)) :: E) ((i, some ⟨b, arrv N (putv F o (min k dl) (fun j => xs.getD j undef)), t⟩) :: M)) : OpsE P G R ops n K (⟨some d, .call ⟨.builtin .copy, #[x, y], #[T, T']⟩, ty, pos, aft, none⟩ :: rest) E M :=
  fun _ _ ha hM => by
    obtain ⟨k', hk⟩ := hM.at hm
    exact st_copyS hT hs (ha.rd hx) (ha.rd hy) hsrc (hB.mem hM) h1 hk ho fun lr hp => h _ _ (ha.put hd _) (hM.same (oz' := some _) hm (by simpa using hp) rfl)
theorem seen_app {A B : Mem} (h1 : SeenE G R M A) (h2 : SeenE G R M B) : SeenE G R M (A ++ B) := fun z hz => by
  rcases List.mem_append.1 hz with h | h
  · exact h1 z h
  · exact h2 z h
theorem seen_hd {x : Blk} {G' : Mem} : SeenE (x :: G') R M [x] := fun z hz => .inl (by simp at hz; simp [hz])
theorem seen_gl {A G' : Mem} : SeenE (A ++ G') R M A := fun _ hz => .inl (List.mem_append_left _ hz)
theorem seen_nil : SeenE G R M [] := fun _ h => (by cases h)
/-- A call that reads what is seen. -/
theorem e_callS {g' : Mem} {fo : Operand} {f : FuncId} {args : Array Operand} {tys : Array TypeId} {vs cap : List Value} {v : Value} (hf : rd E fo = some (.func (.func f) #[] cap.toArray)) (hargs : rdl E args.toList = some vs) (he : enters P f = true) (hg : SeenE G R M g')
    (hF : Fn P g' f (vs ++ cap).toArray v) (hd : Nat.blt d n = true) (hR : callOk R = true) (h : OpsE P G R ops n K rest ((d, v) :: E) M) : OpsE P G R ops n K (⟨some d, .call ⟨.value fo, args, tys⟩, ty, pos, aft, none⟩ :: rest) E M :=
  fun _ _ ha hM => st_callV hR (ha.rd hf) (ha.args hargs) he (fun w hG hm => by
    have := hF w (fun z hz => (hg.seen hM).rin hG hm hz)
    simpa using this) (h _ _ (ha.put hd _) hM)
/-- A store into a slice of one's own. -/
theorem e_stOwn {i k j : Nat} {e : TypeId} {v w : Value} {xs : List Value} {oz : Option Blk} (hown : OwnS e 1 v k xs oz.toList) (hs : (P.info? T).map (·.size) = some 1) (hx : rd E x = some (slAddr v j)) (hy : rd E y = some w) (hw : w.oneCell' = true) (hi : lkM M i = oz) (hj : j < k) (hX : R.X = [])
    (h : ∀ oz' : Option Blk, OwnS e 1 v k (xs.set j w) oz'.toList → OpsE P G R ops n K rest E ((i, oz') :: M)) : OpsE P G R ops n K (⟨none, .store T x y, ty, pos, aft, none⟩ :: rest) E M :=
  fun _ m ha hM => by
    rcases hown with ⟨_, h0, _, _⟩ | ⟨r, cap, c, rfl, hl, hc, hm, hz, hxl, ht⟩
    · omega
    · have hoz : oz = some ⟨r, c, e⟩ := by
        cases oz with
        | none => simp at hl
        | some z => simp at hl; rw [hl]
      subst hoz
      obtain ⟨q, hq⟩ := hM.at hi
      have hjc : j < c.size := by omega
      have hx' : rd E x = some (.pointer (some ⟨r, j, none⟩)) := by
        rw [hx]; simp [slAddr]
      refine st_store1 hs (ha.rd hx') (ha.rd hy) hw hq (.inl hX) hjc ?_
      refine h (some ⟨r, c.setIfInBounds j w, e⟩) (.inr ⟨r, cap, _, rfl, rfl, hc, hm, by simpa using hz, by simpa using hxl, ?_⟩) _ _ ha (hM.store hi hq _)
      rw [Array.toList_setIfInBounds, List.take_set, ht]
theorem e_neStr {l k : List Nat} (hx : rd E x = some (sv l)) (hy : rd E y = some (sv k)) (hd : Nat.blt d n = true) (hl : ∀ b ∈ l, b < 256) (hk : ∀ b ∈ k, b < 256) (h : OpsE P G R ops n K rest ((d, .bool (decide (l ≠ k))) :: E) M) :
    OpsE P G R ops n K (⟨some d, .binOp .neq T x y T', ty, pos, aft, none⟩ :: rest) E M := fun _ _ ha hM => st_bin (fun w => by
      have e1 := bstr_eq hl hk
      rw [ha.rd hx, ha.rd hy]
      have e2 : ((bstr l).toList != (bstr k).toList) = decide (l ≠ k) := by
        rw [bne, e1]
        by_cases h : l = k <;> simp [h]
      simp only [eqGuard, binOp, Op.stringOp]
      rw [← e2]
      rfl) (h _ _ (ha.put hd _) hM)
/-- The same, into bytes. -/
theorem e_copyB {e : TypeId} {b o N dl cap i : Nat} {f : Nat → Nat} {t : TypeId} {l : List Nat} {B : Mem} {vy : Value} (hT : P.underlying T = some (.slice e)) (hs : (P.info? e).map (·.size) = some 1) (hsrc : Shows B 1 vy l.length (l.map by8)) (hB : SeenE G R M B)
    (hx : rd E x = some (.slice (some ⟨b, o, none⟩) dl cap)) (hy : rd E y = some vy) (hm : lkM M i = some ⟨b, arr .u8 N f, t⟩) (ho : o + dl ≤ N) (hd : Nat.blt d n = true)
    (h : OpsE P G R ops n K rest ((d, ii (min l.length dl)) :: E) ((i, some ⟨b, arr .u8 N (fun j => if o ≤ j ∧ j < o + min l.length dl then l.getD (j - o) 0 else f j), t⟩) :: M)) : OpsE P G R ops n K (⟨some d, .call ⟨.builtin .copy, #[x, y], #[T, T']⟩, ty, pos, aft, none⟩ :: rest) E M :=
  e_copyS (F := fun i => .int .u8 (f i : Int)) hT hs hsrc hB (fun u hu => by obtain ⟨n, _, rfl⟩ := List.mem_map.1 hu; rfl) hx hy hm ho hd (by
    have e1 : arrv N (putv (fun i => .int .u8 (f i : Int)) o (min l.length dl) (fun j => (l.map by8).getD j undef)) = arr .u8 N (fun j => if o ≤ j ∧ j < o + min l.length dl then l.getD (j - o) 0 else f j) := by
      rw [arr_arrv]
      refine arrv_congr fun j _ => ?_
      unfold putv
      by_cases hj : o ≤ j ∧ j < o + min l.length dl
      · rw [if_pos hj, if_pos hj]
        have : j - o < l.length := by omega
        simp [List.getD_eq_getElem?_getD, List.getElem?_eq_getElem this]
      · rw [if_neg hj, if_neg hj]
    rw [e1]; exact h)
end
end Go.Proofs.Ytoalabpbohkcjaa

/-
  Walks, written by a program of ours off the loaded functions.
-/
namespace Go.Proofs.Ytoalabpbohkcjaa
open Go Go.RowKit


theorem ent25 : enters Try.prog 25 = true := by kernel_rfl
theorem ent26 : enters Try.prog 26 = true := by kernel_rfl
theorem ent43 : enters Try.prog 43 = true := by kernel_rfl

variable {G : Mem}

set_option maxHeartbeats 400000 in
theorem noughts_fn (n : Nat) (hn : n ≤ 1000000) : Fn Try.prog G 43 #[ii n] (sv (zrs n)) := by
  refine fn1 (n := 6) Try.func43 rfl rfl (by simp) (argE [ii n] 0) (argE_ok _) ?_
  refine e_seq ?_
  refine e_plain ?_
  refine e_assign (v := sv []) rfl rfl ?_
  refine e_nil ?_
  refine e_seq ?_
  refine e_plain ?_
  refine e_move rfl rfl ?_
  refine e_make 0 und24 siz5 byt5 zer5 rfl rfl rfl (by omega) (by omega) rfl fun r1 => ?_
  refine e_conv_strV (made_shows _ _ _) (seen1 0 rfl ⟨[], trivial⟩) und24 und5 und9 rfl rfl rfl ?_
  refine e_assign rfl rfl ?_
  refine e_nil ?_
  refine e_ret ?_
  exact ⟨_, rfl, .tmp rfl⟩

set_option maxHeartbeats 400000 in
theorem fill_fn (l : List Nat) (hl : l.length ≤ 1000000) : Fn Try.prog G 26 #[sv l] (sv (pad16 l)) := by
  refine fn1 (n := 11) Try.func26 rfl rfl (by simp) (argE [sv l] 0) (argE_ok _) ?_
  refine e_seq ?_
  refine e_plain ?_
  refine e_assign (v := sv []) rfl rfl ?_
  refine e_nil ?_
  refine e_seq ?_
  refine e_plain ?_
  refine e_move rfl rfl ?_
  refine e_move rfl rfl ?_
  refine e_lenStr und9 rfl rfl rfl ?_
  refine e_rem_i (q := 16) rfl rfl rfl (by omega) ?_
  refine e_sub_in (p := 16) rfl rfl rfl (by omega) (by omega) ?_
  refine e_rem_i (q := 16) rfl rfl rfl (by omega) ?_
  refine e_call rfl ent43 (noughts_fn ((16 - l.length % 16) % 16) (by omega)) rfl rfl ?_
  refine e_catS rfl rfl rfl (by rw [zrs_len]; omega) ?_
  refine e_as (show _ = sv (pad16 l) from rfl) ?_
  refine e_assign rfl rfl ?_
  refine e_nil ?_
  refine e_ret ?_
  exact ⟨_, rfl, .tmp rfl⟩

set_option maxHeartbeats 2000000 in
theorem tagOf_fn (k nn : Nat → Nat) (ad b : List Nat) (hk : ∀ j, j < 32 → k j < 256) (hn : ∀ j, j < 12 → nn j < 256) (ha : ∀ x ∈ ad, x < 256) (hb : ∀ x ∈ b, x < 256) (hal : ad.length ≤ 10000) (hbl : b.length ≤ 10000) : Fn Try.prog G 17 #[.agg (arr .u8 32 k), .agg (arr .u8 12 nn), sv ad, sv b] (sv (tagl k nn ad b)) := by
  have hpa := pad16_len ad
  have hpb := pad16_len b
  have hml := macIn_len ad b
  refine fn1 (n := 37) Try.func17 rfl rfl (by simp) (argE [.agg (arr .u8 32 k), .agg (arr .u8 12 nn), sv ad, sv b] 0) (argE_ok _) ?_
  refine e_seq ?_
  refine e_plain ?_
  refine e_box 0 rfl rfl fun r1 => ?_
  refine e_box 1 rfl rfl fun r2 => ?_
  refine e_assign (v := sv []) rfl rfl ?_
  refine e_nil ?_
  refine e_seq ?_
  refine e_plain ?_
  refine e_loadA (i := 0) und36 rfl siz36 rfl rfl (arr_size _ _ _) rfl ⟨[], trivial⟩ ?_
  refine e_loadA (i := 1) und23 rfl siz23 rfl rfl (arr_size _ _ _) rfl ⟨[], trivial⟩ ?_
  refine e_call rfl ent24 (blockOf_fn k 0 nn hk hn (by decide)) rfl rfl ?_
  refine e_alloc 2 zer44 rfl fun r3 => ?_
  refine e_storeA (i := 2) siz44 rfl rfl (arr_size _ _ _) arr_one rfl (arr_sz _ _ _ _ _) (.inl rfl) ?_
  refine e_nil ?_
  refine e_seq ?_
  refine e_plain ?_
  refine e_alloc 3 zer36 rfl fun r4 => ?_
  refine e_nil ?_
  refine e_seq ?_
  refine e_draw mixed (by kernel_rfl) ?_
  refine e_sliceA 0 32 und36 siz5 rfl rfl rfl rfl rfl (by omega) (by omega) (by omega) rfl ?_
  refine e_sliceA 0 32 und44 siz5 rfl rfl rfl rfl ⟨_, rfl⟩ (by omega) (by omega) (by omega) rfl ?_
  refine e_copyB (i := 3) und24 siz5 (arr_shows r3 64 (blkf k 0 nn) 44 0 32 64 (by decide) (by decide)) (seen1 2 rfl ⟨[], trivial⟩) rfl rfl rfl (by omega) rfl ?_
  refine e_nil ?_
  refine e_seq ?_
  refine e_draw mixed (by kernel_rfl) ?_
  refine e_loadA (i := 3) und36 rfl siz36 rfl rfl (arr_size _ _ _) rfl ⟨[], trivial⟩ ?_
  refine e_as (congrArg Value.agg (arr_congr (okey_copy k nn))) ?_
  refine e_move rfl rfl ?_
  refine e_call rfl ent26 (fill_fn ad (by omega)) rfl rfl ?_
  refine e_move rfl rfl ?_
  refine e_call rfl ent26 (fill_fn b (by omega)) rfl rfl ?_
  refine e_catS rfl rfl rfl (by omega) ?_
  refine e_move rfl rfl ?_
  refine e_lenStr und9 rfl rfl rfl ?_
  refine e_conv_un und3 und52 rfl rfl rfl (by omega) ?_
  refine e_call rfl ent27 (low_fn ad.length 8 (by omega) (by decide)) rfl rfl ?_
  refine e_catS rfl rfl rfl (by rw [lowl_len, List.length_append]; omega) ?_
  refine e_move rfl rfl ?_
  refine e_lenStr und9 rfl rfl rfl ?_
  refine e_conv_un und3 und52 rfl rfl rfl (by omega) ?_
  refine e_call rfl ent27 (low_fn b.length 8 (by omega) (by decide)) rfl rfl ?_
  refine e_catS rfl rfl rfl (by rw [lowl_len, List.length_append, List.length_append, lowl_len]; omega) ?_
  refine e_as (show _ = sv (macIn ad b) from rfl) ?_
  refine e_call rfl ent25 (tag_fn (okey k nn) (okey_lt k nn) (macIn ad b) (macIn_lt ha hb) (by omega)) rfl rfl ?_
  refine e_alloc 4 zer38 rfl fun r5 => ?_
  refine e_storeA (i := 4) siz38 rfl rfl (arr_size _ _ _) arr_one rfl (arr_sz _ _ _ _ _) (.inl rfl) ?_
  refine e_nil ?_
  refine e_seq ?_
  refine e_plain ?_
  refine e_sliceA 0 16 und38 siz5 rfl rfl rfl rfl rfl (by omega) (by omega) (by omega) rfl ?_
  refine e_conv_str (i := 4) und24 und5 und9 rfl rfl (by omega) rfl rfl ⟨[], trivial⟩ ?_
  refine e_as (conv_all (ptg (okey k nn) (macIn ad b)) 16) ?_
  refine e_assign rfl rfl ?_
  refine e_nil ?_
  refine e_ret ?_
  exact ⟨_, rfl, .tmp rfl⟩

end Go.Proofs.Ytoalabpbohkcjaa

/-
  Walks, written by a program of ours off the loaded functions.
-/
namespace Go.Proofs.Ytoalabpbohkcjaa
open Go Go.RowKit


theorem ent16 : enters Try.prog 16 = true := by kernel_rfl
theorem ent17 : enters Try.prog 17 = true := by kernel_rfl

variable {G : Mem}

set_option maxHeartbeats 400000 in
theorem sealed_big1 (k nn : Nat → Nat) (va vt : Value) (ad : List Nat) (hva : Shows G 1 va ad.length (ad.map by8)) (h : 200 < ad.length) : Fn Try.prog G 8 #[.agg (arr .u8 32 k), .agg (arr .u8 12 nn), va, vt] (.tuple #[nilS, ii 1]) := by
  refine fn2 (n := 38) Try.func8 rfl rfl (by simp) (argE [.agg (arr .u8 32 k), .agg (arr .u8 12 nn), va, vt] 0) (argE_ok _) ?_
  refine e_seq ?_
  refine e_plain ?_
  refine e_box 0 rfl rfl fun r1 => ?_
  refine e_box 1 rfl rfl fun r2 => ?_
  refine e_assign rfl rfl ?_
  refine e_assign rfl rfl ?_
  refine e_nil ?_
  refine e_seq ?_
  refine e_seq ?_
  refine e_plain ?_
  refine e_move rfl rfl ?_
  refine e_lenV hva und24 rfl rfl rfl ?_
  refine e_gt rfl rfl rfl ?_
  refine e_as (congrArg Value.bool (decide_eq_true (by omega))) ?_
  refine e_move rfl rfl ?_
  refine e_no rfl rfl (by decide) rfl ?_
  refine e_no rfl rfl (by decide) rfl ?_
  refine e_no rfl rfl (by decide) rfl ?_
  refine e_pickT rfl rfl rfl rfl ?_
  refine e_nil ?_
  refine e_cond rfl ?_ ?_
  · intro hc0
    refine e_seq ?_
    refine e_plain ?_
    refine e_assign rfl rfl ?_
    refine e_assign rfl rfl ?_
    refine e_nil ?_
    refine e_ret ?_
    exact ⟨_, _, rfl, .tmp rfl, .tmp rfl⟩
  · intro hc0
    cases hc0

set_option maxHeartbeats 400000 in
theorem sealed_big2 (k nn : Nat → Nat) (va vt : Value) (ad tx : List Nat) (hva : Shows G 1 va ad.length (ad.map by8)) (hvt : Shows G 1 vt tx.length (tx.map by8)) (h : ad.length ≤ 200) (h2 : 800 < tx.length) : Fn Try.prog G 8 #[.agg (arr .u8 32 k), .agg (arr .u8 12 nn), va, vt] (.tuple #[nilS, ii 1]) := by
  refine fn2 (n := 38) Try.func8 rfl rfl (by simp) (argE [.agg (arr .u8 32 k), .agg (arr .u8 12 nn), va, vt] 0) (argE_ok _) ?_
  refine e_seq ?_
  refine e_plain ?_
  refine e_box 0 rfl rfl fun r1 => ?_
  refine e_box 1 rfl rfl fun r2 => ?_
  refine e_assign rfl rfl ?_
  refine e_assign rfl rfl ?_
  refine e_nil ?_
  refine e_seq ?_
  refine e_seq ?_
  refine e_plain ?_
  refine e_move rfl rfl ?_
  refine e_lenV hva und24 rfl rfl rfl ?_
  refine e_gt rfl rfl rfl ?_
  refine e_as (congrArg Value.bool (decide_eq_false (by omega))) ?_
  refine e_move rfl rfl ?_
  refine e_yes rfl rfl rfl ?_
  refine e_move rfl rfl ?_
  refine e_yes rfl rfl rfl ?_
  refine e_lenV hvt und24 rfl rfl rfl ?_
  refine e_yes rfl rfl rfl ?_
  refine e_gt rfl rfl rfl ?_
  refine e_as (congrArg Value.bool (decide_eq_true (by omega))) ?_
  refine e_pickF rfl rfl rfl rfl ?_
  refine e_nil ?_
  refine e_cond rfl ?_ ?_
  · intro hc0
    refine e_seq ?_
    refine e_plain ?_
    refine e_assign rfl rfl ?_
    refine e_assign rfl rfl ?_
    refine e_nil ?_
    refine e_ret ?_
    exact ⟨_, _, rfl, .tmp rfl, .tmp rfl⟩
  · intro hc0
    cases hc0

set_option maxHeartbeats 2000000 in
theorem sealed_ok (k nn : Nat → Nat) (va vt : Value) (ad tx : List Nat) (hk : ∀ j, j < 32 → k j < 256) (hn : ∀ j, j < 12 → nn j < 256) (hva : Shows G 1 va ad.length (ad.map by8)) (hvt : Shows G 1 vt tx.length (tx.map by8)) (hab : (∀ b ∈ ad, b < 256)) (h : ad.length ≤ 200) (h2 : tx.length ≤ 800) : Fx Try.prog G [] 8 #[.agg (arr .u8 32 k), .agg (arr .u8 12 nn), va, vt] (fun v l1 nw => l1 = [] ∧ ∃ v', v = .tuple #[v', ii 0] ∧ OwnS 5 1 v' (sealL k nn ad tx).length ((sealL k nn ad tx).map by8) nw) := by
  have hsl := strl_len k 1 nn tx 0
  have hse := sealL_len k nn ad tx
  refine fxN2 (n := 38) Try.func8 rfl rfl (by simp) (argE [.agg (arr .u8 32 k), .agg (arr .u8 12 nn), va, vt] 0) (argE_ok _) ?_
  refine e_seq ?_
  refine e_plain ?_
  refine e_box 0 rfl rfl fun r1 => ?_
  refine e_box 1 rfl rfl fun r2 => ?_
  refine e_assign rfl rfl ?_
  refine e_assign rfl rfl ?_
  refine e_nil ?_
  refine e_seq ?_
  refine e_seq ?_
  refine e_plain ?_
  refine e_move rfl rfl ?_
  refine e_lenV hva und24 rfl rfl rfl ?_
  refine e_gt rfl rfl rfl ?_
  refine e_as (congrArg Value.bool (decide_eq_false (by omega))) ?_
  refine e_move rfl rfl ?_
  refine e_yes rfl rfl rfl ?_
  refine e_move rfl rfl ?_
  refine e_yes rfl rfl rfl ?_
  refine e_lenV hvt und24 rfl rfl rfl ?_
  refine e_yes rfl rfl rfl ?_
  refine e_gt rfl rfl rfl ?_
  refine e_as (congrArg Value.bool (decide_eq_false (by omega))) ?_
  refine e_pickF rfl rfl rfl rfl ?_
  refine e_nil ?_
  refine e_cond rfl ?_ ?_
  · intro hc0
    cases hc0
  · intro hc0
    refine e_skip ?_
    refine e_seq ?_
    refine e_plainR ⟨[], 4, []⟩ ?_
    refine e_loadA (i := 0) und36 rfl siz36 rfl rfl (arr_size _ _ _) rfl ⟨[], trivial⟩ ?_
    refine e_loadA (i := 1) und23 rfl siz23 rfl rfl (arr_size _ _ _) rfl ⟨[], trivial⟩ ?_
    refine e_move rfl rfl ?_
    refine e_callN 2 (fun v => .tuple #[v, ii 0]) rfl rfl ent16 seenG (streamed_ok k 1 nn vt tx hvt hk hn (by decide) (by omega) (by omega)) (by simp only [maxLen]; omega) (by rw [List.length_map, strl_len, Nat.mul_one]) rfl rfl fun v2_1 oz2_1 ho2_1 => ?_
    refine e_move rfl rfl ?_
    refine e_extract rfl rfl rfl ?_
    refine e_extract rfl rfl rfl ?_
    refine e_assign rfl rfl ?_
    refine e_assign rfl rfl ?_
    refine e_nil ?_
    refine e_seq ?_
    refine e_drawR ⟨[], 1, [24]⟩ mixed (by kernel_rfl) ?_
    refine e_move rfl rfl ?_
    refine e_conv_strV (l := (strl k 1 nn tx 0)) (own_bytes ho2_1) (seenM 2 rfl ⟨[], trivial⟩) und24 und5 und9 rfl rfl rfl ?_
    refine e_loadA (i := 0) und36 rfl siz36 rfl rfl (arr_size _ _ _) rfl ⟨[], trivial⟩ ?_
    refine e_loadA (i := 1) und23 rfl siz23 rfl rfl (arr_size _ _ _) rfl ⟨[], trivial⟩ ?_
    refine e_move rfl rfl ?_
    refine e_conv_strV (l := ad) hva seenG und24 und5 und9 rfl rfl rfl ?_
    refine e_move rfl rfl ?_
    refine e_conv_strV (l := (strl k 1 nn tx 0)) (own_bytes ho2_1) (seenM 2 rfl ⟨[], trivial⟩) und24 und5 und9 rfl rfl rfl ?_
    refine e_call rfl ent17 (tagOf_fn k nn ad (strl k 1 nn tx 0) hk hn hab (strl_lt _ _ _ _ _) (by omega) (by omega)) rfl rfl ?_
    refine e_catS rfl rfl rfl (by rw [tagl_len]; omega) ?_
    refine e_as (show _ = sv (sealL k nn ad tx) from rfl) ?_
    refine e_conv_own 3 und9 und24 und5 rfl (sealL_lt k nn ad tx) (by simp only [maxLen]; omega) rfl rfl fun v2_2 oz2_2 ho2_2 => ?_
    refine e_assign rfl rfl ?_
    refine e_assign rfl rfl ?_
    refine e_nil ?_
    refine e_ret ?_
    exact ⟨_, _, _, _, 3, rfl, .tmp rfl, .tmp rfl, ho2_2, rfl⟩

set_option maxHeartbeats 400000 in
theorem unsealed_big1 (k nn : Nat → Nat) (va vt : Value) (ad : List Nat) (hva : Shows G 1 va ad.length (ad.map by8)) (h : 200 < ad.length) : Fn Try.prog G 11 #[.agg (arr .u8 32 k), .agg (arr .u8 12 nn), va, vt] (.tuple #[nilS, ii 1]) := by
  refine fn2 (n := 47) Try.func11 rfl rfl (by simp) (argE [.agg (arr .u8 32 k), .agg (arr .u8 12 nn), va, vt] 0) (argE_ok _) ?_
  refine e_seq ?_
  refine e_plain ?_
  refine e_box 0 rfl rfl fun r1 => ?_
  refine e_box 1 rfl rfl fun r2 => ?_
  refine e_assign rfl rfl ?_
  refine e_assign rfl rfl ?_
  refine e_nil ?_
  refine e_seq ?_
  refine e_seq ?_
  refine e_plain ?_
  refine e_move rfl rfl ?_
  refine e_lenV hva und24 rfl rfl rfl ?_
  refine e_gt rfl rfl rfl ?_
  refine e_as (congrArg Value.bool (decide_eq_true (by omega))) ?_
  refine e_move rfl rfl ?_
  refine e_no rfl rfl (by decide) rfl ?_
  refine e_no rfl rfl (by decide) rfl ?_
  refine e_no rfl rfl (by decide) rfl ?_
  refine e_pickT rfl rfl rfl rfl ?_
  refine e_nil ?_
  refine e_cond rfl ?_ ?_
  · intro hc0
    refine e_seq ?_
    refine e_plain ?_
    refine e_assign rfl rfl ?_
    refine e_assign rfl rfl ?_
    refine e_nil ?_
    refine e_ret ?_
    exact ⟨_, _, rfl, .tmp rfl, .tmp rfl⟩
  · intro hc0
    cases hc0

set_option maxHeartbeats 400000 in
theorem unsealed_big2 (k nn : Nat → Nat) (va vt : Value) (ad tx : List Nat) (hva : Shows G 1 va ad.length (ad.map by8)) (hvt : Shows G 1 vt tx.length (tx.map by8)) (h : ad.length ≤ 200) (h2 : 816 < tx.length) : Fn Try.prog G 11 #[.agg (arr .u8 32 k), .agg (arr .u8 12 nn), va, vt] (.tuple #[nilS, ii 1]) := by
  refine fn2 (n := 47) Try.func11 rfl rfl (by simp) (argE [.agg (arr .u8 32 k), .agg (arr .u8 12 nn), va, vt] 0) (argE_ok _) ?_
  refine e_seq ?_
  refine e_plain ?_
  refine e_box 0 rfl rfl fun r1 => ?_
  refine e_box 1 rfl rfl fun r2 => ?_
  refine e_assign rfl rfl ?_
  refine e_assign rfl rfl ?_
  refine e_nil ?_
  refine e_seq ?_
  refine e_seq ?_
  refine e_plain ?_
  refine e_move rfl rfl ?_
  refine e_lenV hva und24 rfl rfl rfl ?_
  refine e_gt rfl rfl rfl ?_
  refine e_as (congrArg Value.bool (decide_eq_false (by omega))) ?_
  refine e_move rfl rfl ?_
  refine e_yes rfl rfl rfl ?_
  refine e_move rfl rfl ?_
  refine e_yes rfl rfl rfl ?_
  refine e_lenV hvt und24 rfl rfl rfl ?_
  refine e_yes rfl rfl rfl ?_
  refine e_gt rfl rfl rfl ?_
  refine e_as (congrArg Value.bool (decide_eq_true (by omega))) ?_
  refine e_pickF rfl rfl rfl rfl ?_
  refine e_nil ?_
  refine e_cond rfl ?_ ?_
  · intro hc0
    refine e_seq ?_
    refine e_plain ?_
    refine e_assign rfl rfl ?_
    refine e_assign rfl rfl ?_
    refine e_nil ?_
    refine e_ret ?_
    exact ⟨_, _, rfl, .tmp rfl, .tmp rfl⟩
  · intro hc0
    cases hc0

set_option maxHeartbeats 400000 in
theorem unsealed_short (k nn : Nat → Nat) (va vt : Value) (ad tx : List Nat) (hva : Shows G 1 va ad.length (ad.map by8)) (hvt : Shows G 1 vt tx.length (tx.map by8)) (h : ad.length ≤ 200) (h2 : tx.length < 16) : Fn Try.prog G 11 #[.agg (arr .u8 32 k), .agg (arr .u8 12 nn), va, vt] (.tuple #[nilS, ii 4]) := by
  refine fn2 (n := 47) Try.func11 rfl rfl (by simp) (argE [.agg (arr .u8 32 k), .agg (arr .u8 12 nn), va, vt] 0) (argE_ok _) ?_
  refine e_seq ?_
  refine e_plain ?_
  refine e_box 0 rfl rfl fun r1 => ?_
  refine e_box 1 rfl rfl fun r2 => ?_
  refine e_assign rfl rfl ?_
  refine e_assign rfl rfl ?_
  refine e_nil ?_
  refine e_seq ?_
  refine e_seq ?_
  refine e_plain ?_
  refine e_move rfl rfl ?_
  refine e_lenV hva und24 rfl rfl rfl ?_
  refine e_gt rfl rfl rfl ?_
  refine e_as (congrArg Value.bool (decide_eq_false (by omega))) ?_
  refine e_move rfl rfl ?_
  refine e_yes rfl rfl rfl ?_
  refine e_move rfl rfl ?_
  refine e_yes rfl rfl rfl ?_
  refine e_lenV hvt und24 rfl rfl rfl ?_
  refine e_yes rfl rfl rfl ?_
  refine e_gt rfl rfl rfl ?_
  refine e_as (congrArg Value.bool (decide_eq_false (by omega))) ?_
  refine e_pickF rfl rfl rfl rfl ?_
  refine e_nil ?_
  refine e_cond rfl ?_ ?_
  · intro hc0
    cases hc0
  · intro hc0
    refine e_skip ?_
    refine e_seq ?_
    refine e_seq ?_
    refine e_plain ?_
    refine e_move rfl rfl ?_
    refine e_lenV hvt und24 rfl rfl rfl ?_
    refine e_lt rfl rfl rfl ?_
    refine e_as (congrArg Value.bool (decide_eq_true (by omega))) ?_
    refine e_nil ?_
    refine e_cond rfl ?_ ?_
    · intro hc1
      refine e_seq ?_
      refine e_plain ?_
      refine e_assign rfl rfl ?_
      refine e_assign rfl rfl ?_
      refine e_nil ?_
      refine e_ret ?_
      exact ⟨_, _, rfl, .tmp rfl, .tmp rfl⟩
    · intro hc1
      cases hc1

set_option maxHeartbeats 2000000 in
theorem unsealed_auth (k nn : Nat → Nat) (va vt : Value) (ad tx : List Nat) (hk : ∀ j, j < 32 → k j < 256) (hn : ∀ j, j < 12 → nn j < 256) (hva : Shows G 1 va ad.length (ad.map by8)) (hvt : Shows G 1 vt tx.length (tx.map by8)) (hab : (∀ b ∈ ad, b < 256)) (htb : (∀ b ∈ tx, b < 256)) (h : ad.length ≤ 200) (h2 : 16 ≤ tx.length) (h3 : tx.length ≤ 816) (ho : ¬ opensL k nn ad tx) : Fn Try.prog G 11 #[.agg (arr .u8 32 k), .agg (arr .u8 12 nn), va, vt] (.tuple #[nilS, ii 10]) := by
  have hv1 : Shows G 1 (slPart 1 vt 0 (tx.length - 16)) (tx.take (tx.length - 16)).length ((tx.take (tx.length - 16)).map by8) := hvt.cut (by omega) (by omega) (by simp)
  have hv2 : Shows G 1 (slPart 1 vt (tx.length - 16) tx.length) (tx.drop (tx.length - 16)).length ((tx.drop (tx.length - 16)).map by8) := hvt.cut (by omega) (by omega) (by rw [List.take_of_length_le (by simp)])
  refine fn2 (n := 47) Try.func11 rfl rfl (by simp) (argE [.agg (arr .u8 32 k), .agg (arr .u8 12 nn), va, vt] 0) (argE_ok _) ?_
  refine e_seq ?_
  refine e_plain ?_
  refine e_box 0 rfl rfl fun r1 => ?_
  refine e_box 1 rfl rfl fun r2 => ?_
  refine e_assign rfl rfl ?_
  refine e_assign rfl rfl ?_
  refine e_nil ?_
  refine e_seq ?_
  refine e_seq ?_
  refine e_plain ?_
  refine e_move rfl rfl ?_
  refine e_lenV hva und24 rfl rfl rfl ?_
  refine e_gt rfl rfl rfl ?_
  refine e_as (congrArg Value.bool (decide_eq_false (by omega))) ?_
  refine e_move rfl rfl ?_
  refine e_yes rfl rfl rfl ?_
  refine e_move rfl rfl ?_
  refine e_yes rfl rfl rfl ?_
  refine e_lenV hvt und24 rfl rfl rfl ?_
  refine e_yes rfl rfl rfl ?_
  refine e_gt rfl rfl rfl ?_
  refine e_as (congrArg Value.bool (decide_eq_false (by omega))) ?_
  refine e_pickF rfl rfl rfl rfl ?_
  refine e_nil ?_
  refine e_cond rfl ?_ ?_
  · intro hc0
    cases hc0
  · intro hc0
    refine e_skip ?_
    refine e_seq ?_
    refine e_seq ?_
    refine e_plain ?_
    refine e_move rfl rfl ?_
    refine e_lenV hvt und24 rfl rfl rfl ?_
    refine e_lt rfl rfl rfl ?_
    refine e_as (congrArg Value.bool (decide_eq_false (by omega))) ?_
    refine e_nil ?_
    refine e_cond rfl ?_ ?_
    · intro hc1
      cases hc1
    · intro hc1
      refine e_skip ?_
      refine e_seq ?_
      refine e_plain ?_
      refine e_move rfl rfl ?_
      refine e_lenV hvt und24 rfl rfl rfl ?_
      refine e_sub_in (q := 16) rfl rfl rfl (by omega) (by omega) ?_
      refine e_assign rfl rfl ?_
      refine e_nil ?_
      refine e_seq ?_
      refine e_seq ?_
      refine e_draw mixed (by kernel_rfl) ?_
      refine e_loadA (i := 0) und36 rfl siz36 rfl rfl (arr_size _ _ _) rfl ⟨[], trivial⟩ ?_
      refine e_loadA (i := 1) und23 rfl siz23 rfl rfl (arr_size _ _ _) rfl ⟨[], trivial⟩ ?_
      refine e_move rfl rfl ?_
      refine e_conv_strV (l := ad) hva seenG und24 und5 und9 rfl rfl rfl ?_
      refine e_move rfl rfl ?_
      refine e_move rfl rfl ?_
      refine e_sliceV 0 (tx.length - 16) hvt und24 siz5 rfl rfl rfl rfl ⟨_, rfl⟩ (by omega) (by omega) rfl ?_
      refine e_conv_strV (l := (tx.take (tx.length - 16))) hv1 seenG und24 und5 und9 rfl rfl rfl ?_
      refine e_call rfl ent17 (tagOf_fn k nn ad (tx.take (tx.length - 16)) hk hn hab (fun x hx => htb x (List.mem_of_mem_take hx)) (by omega) (by simp; omega)) rfl rfl ?_
      refine e_move rfl rfl ?_
      refine e_move rfl rfl ?_
      refine e_sliceV (tx.length - 16) tx.length hvt und24 siz5 rfl rfl rfl ⟨_, rfl⟩ rfl (by omega) (by omega) rfl ?_
      refine e_conv_strV (l := (tx.drop (tx.length - 16))) hv2 seenG und24 und5 und9 rfl rfl rfl ?_
      refine e_neStr rfl rfl rfl (tagl_lt _ _ _ _) (fun x hx => htb x (List.mem_of_mem_drop hx)) ?_
      refine e_as (congrArg Value.bool (decide_eq_true ho)) ?_
      refine e_nil ?_
      refine e_cond rfl ?_ ?_
      · intro hc2
        refine e_seq ?_
        refine e_plain ?_
        refine e_assign rfl rfl ?_
        refine e_assign rfl rfl ?_
        refine e_nil ?_
        refine e_ret ?_
        exact ⟨_, _, rfl, .tmp rfl, .tmp rfl⟩
      · intro hc2
        cases hc2

set_option maxHeartbeats 2000000 in
theorem unsealed_ok (k nn : Nat → Nat) (va vt : Value) (ad tx : List Nat) (hk : ∀ j, j < 32 → k j < 256) (hn : ∀ j, j < 12 → nn j < 256) (hva : Shows G 1 va ad.length (ad.map by8)) (hvt : Shows G 1 vt tx.length (tx.map by8)) (hab : (∀ b ∈ ad, b < 256)) (htb : (∀ b ∈ tx, b < 256)) (h : ad.length ≤ 200) (h2 : 16 ≤ tx.length) (h3 : tx.length ≤ 816) (ho : opensL k nn ad tx) : Fx Try.prog G [] 11 #[.agg (arr .u8 32 k), .agg (arr .u8 12 nn), va, vt] (fun v l1 nw => l1 = [] ∧ ∃ v', v = .tuple #[v', ii 0] ∧ OwnS 5 1 v' (openL k nn tx).length ((openL k nn tx).map by8) nw) := by
  have hv1 : Shows G 1 (slPart 1 vt 0 (tx.length - 16)) (tx.take (tx.length - 16)).length ((tx.take (tx.length - 16)).map by8) := hvt.cut (by omega) (by omega) (by simp)
  have hv2 : Shows G 1 (slPart 1 vt (tx.length - 16) tx.length) (tx.drop (tx.length - 16)).length ((tx.drop (tx.length - 16)).map by8) := hvt.cut (by omega) (by omega) (by rw [List.take_of_length_le (by simp)])
  have htl : (tx.take (tx.length - 16)).length = tx.length - 16 := by simp
  have hol := openL_len k nn tx
  refine fxN2 (n := 47) Try.func11 rfl rfl (by simp) (argE [.agg (arr .u8 32 k), .agg (arr .u8 12 nn), va, vt] 0) (argE_ok _) ?_
  refine e_seq ?_
  refine e_plain ?_
  refine e_box 0 rfl rfl fun r1 => ?_
  refine e_box 1 rfl rfl fun r2 => ?_
  refine e_assign rfl rfl ?_
  refine e_assign rfl rfl ?_
  refine e_nil ?_
  refine e_seq ?_
  refine e_seq ?_
  refine e_plain ?_
  refine e_move rfl rfl ?_
  refine e_lenV hva und24 rfl rfl rfl ?_
  refine e_gt rfl rfl rfl ?_
  refine e_as (congrArg Value.bool (decide_eq_false (by omega))) ?_
  refine e_move rfl rfl ?_
  refine e_yes rfl rfl rfl ?_
  refine e_move rfl rfl ?_
  refine e_yes rfl rfl rfl ?_
  refine e_lenV hvt und24 rfl rfl rfl ?_
  refine e_yes rfl rfl rfl ?_
  refine e_gt rfl rfl rfl ?_
  refine e_as (congrArg Value.bool (decide_eq_false (by omega))) ?_
  refine e_pickF rfl rfl rfl rfl ?_
  refine e_nil ?_
  refine e_cond rfl ?_ ?_
  · intro hc0
    cases hc0
  · intro hc0
    refine e_skip ?_
    refine e_seq ?_
    refine e_seq ?_
    refine e_plain ?_
    refine e_move rfl rfl ?_
    refine e_lenV hvt und24 rfl rfl rfl ?_
    refine e_lt rfl rfl rfl ?_
    refine e_as (congrArg Value.bool (decide_eq_false (by omega))) ?_
    refine e_nil ?_
    refine e_cond rfl ?_ ?_
    · intro hc1
      cases hc1
    · intro hc1
      refine e_skip ?_
      refine e_seq ?_
      refine e_plain ?_
      refine e_move rfl rfl ?_
      refine e_lenV hvt und24 rfl rfl rfl ?_
      refine e_sub_in (q := 16) rfl rfl rfl (by omega) (by omega) ?_
      refine e_assign rfl rfl ?_
      refine e_nil ?_
      refine e_seq ?_
      refine e_seq ?_
      refine e_draw mixed (by kernel_rfl) ?_
      refine e_loadA (i := 0) und36 rfl siz36 rfl rfl (arr_size _ _ _) rfl ⟨[], trivial⟩ ?_
      refine e_loadA (i := 1) und23 rfl siz23 rfl rfl (arr_size _ _ _) rfl ⟨[], trivial⟩ ?_
      refine e_move rfl rfl ?_
      refine e_conv_strV (l := ad) hva seenG und24 und5 und9 rfl rfl rfl ?_
      refine e_move rfl rfl ?_
      refine e_move rfl rfl ?_
      refine e_sliceV 0 (tx.length - 16) hvt und24 siz5 rfl rfl rfl rfl ⟨_, rfl⟩ (by omega) (by omega) rfl ?_
      refine e_conv_strV (l := (tx.take (tx.length - 16))) hv1 seenG und24 und5 und9 rfl rfl rfl ?_
      refine e_call rfl ent17 (tagOf_fn k nn ad (tx.take (tx.length - 16)) hk hn hab (fun x hx => htb x (List.mem_of_mem_take hx)) (by omega) (by simp; omega)) rfl rfl ?_
      refine e_move rfl rfl ?_
      refine e_move rfl rfl ?_
      refine e_sliceV (tx.length - 16) tx.length hvt und24 siz5 rfl rfl rfl ⟨_, rfl⟩ rfl (by omega) (by omega) rfl ?_
      refine e_conv_strV (l := (tx.drop (tx.length - 16))) hv2 seenG und24 und5 und9 rfl rfl rfl ?_
      refine e_neStr rfl rfl rfl (tagl_lt _ _ _ _) (fun x hx => htb x (List.mem_of_mem_drop hx)) ?_
      refine e_as (congrArg Value.bool (decide_eq_false (fun h => h ho))) ?_
      refine e_nil ?_
      refine e_cond rfl ?_ ?_
      · intro hc2
        cases hc2
      · intro hc2
        refine e_skip ?_
        refine e_seq ?_
        refine e_drawR ⟨[], 4, []⟩ mixed (by kernel_rfl) ?_
        refine e_loadA (i := 0) und36 rfl siz36 rfl rfl (arr_size _ _ _) rfl ⟨[], trivial⟩ ?_
        refine e_loadA (i := 1) und23 rfl siz23 rfl rfl (arr_size _ _ _) rfl ⟨[], trivial⟩ ?_
        refine e_move rfl rfl ?_
        refine e_move rfl rfl ?_
        refine e_sliceV 0 (tx.length - 16) hvt und24 siz5 rfl rfl rfl rfl ⟨_, rfl⟩ (by omega) (by omega) rfl ?_
        refine e_callN 2 (fun v => .tuple #[v, ii 0]) rfl rfl ent16 seenG (streamed_ok k 1 nn _ (tx.take (tx.length - 16)) hv1 hk hn (by decide) (by omega) (by omega)) (by simp only [maxLen]; omega) (by rw [List.length_map, strl_len, Nat.mul_one]) rfl rfl fun v4_1 oz4_1 ho4_1 => ?_
        refine e_extract rfl rfl rfl ?_
        refine e_extract rfl rfl rfl ?_
        refine e_assign rfl rfl ?_
        refine e_assign rfl rfl ?_
        refine e_nil ?_
        refine e_ret ?_
        exact ⟨_, _, _, _, 2, rfl, .tmp rfl, .tmp rfl, (own_fix ho4_1 (by rw [htl, hol]; omega) rfl), rfl⟩

end Go.Proofs.Ytoalabpbohkcjaa
