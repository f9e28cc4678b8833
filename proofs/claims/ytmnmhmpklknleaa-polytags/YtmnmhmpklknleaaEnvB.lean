/-
  A string becomes bytes of one's own.
-/
import Derived.Test.YtmnmhmpklknleaaEnv5
namespace Go.Proofs.Ytmnmhmpklknleaa
open Go Go.RowKit

theorem bytesRow_list {l : List Nat} (hl : ∀ b ∈ l, b < 256) {cap : Nat} (h : l.length ≤ cap) : (bytesRow (bstr l) cap).toList.take l.length = l.map by8 ∧ (bytesRow (bstr l) cap).size = cap := by
  have hz : (bstr l).size = l.length := by simp [bstr, ByteArray.size]
  have e : ((bstr l).data.map (fun b => Value.int .u8 b.toNat)).toList = l.map by8 := by
    unfold bstr
    simp only [Array.toList_map, List.map_map]
    exact List.map_congr_left fun n hn => by
      have := hl n hn
      simp [by8, Nat.mod_eq_of_lt this]
  constructor
  · unfold bytesRow
    rw [Array.toList_append, e, List.take_append_of_le_length (by simp), List.take_of_length_le (by simp)]
  · unfold bytesRow
    have e2 : ((bstr l).data.map (fun b => Value.int .u8 b.toNat)).size = l.length := by rw [← Array.length_toList, e, List.length_map]
    rw [Array.size_append, e2, Array.size_replicate, hz]; omega
section
variable {P : Program} {G : Mem} {R : Reg} {ops : Array Oper} {K : Act → Mem → Prop} {rest : List Oper} {a : Act} {m : Mem} {d : Option Tmp} {ty : TypeId} {pos : String} {aft : Array Edge}
variable {T T' : TypeId} {x y : Operand}
theorem st_conv_own {e : TypeId} {l : List Nat} (hv : kconv R T T' = 4) (hs : P.underlying T = some .string) (ht : P.underlying T' = some (.slice e)) (he : P.underlying e = some (.int .u8)) (hx : a.eval x = sv l) (hl : ∀ b ∈ l, b < 256) (hm : l.length ≤ maxLen)
    (h : ∀ v nw, OwnS e 1 v l.length (l.map by8) nw → FreshM m nw → opsM P G R ops K rest (a.put d v) (m ++ nw)) : opsM P G R ops K (⟨d, .convert T T' x, ty, pos, aft, none⟩ :: rest) a m := by
  have hz : (bstr l).size = l.length := by simp [bstr, ByteArray.size]
  have hc : cls R ⟨d, .convert T T' x, ty, pos, aft, none⟩ = 4 := by simp only [cls, hv]
  refine .inr ⟨rfl, ?_⟩
  rw [hc]
  refine ⟨fun v nw => OwnS e 1 v l.length (l.map by8) nw, ?_, ?_, h⟩
  · obtain ⟨r, hr⟩ := fresh_of m
    exact ⟨.slice (some ⟨r, 0, none⟩) l.length l.length, [⟨r, (l.map by8).toArray, e⟩], .inr ⟨r, l.length, _, rfl, rfl, Nat.le_refl _, hm, by simp, by simp, by rw [Nat.mul_one]; exact List.take_of_length_le (by simp)⟩, by simp, by simpa using hr⟩
  · intro w _ _
    have hr := run_bytes_of_string (P := P) w T T' e (bstr l) hs ht he
    rw [hz] at hr
    have hge := grownCap_ge w l.length 0 e
    obtain ⟨h1, h2⟩ := bytesRow_list hl hge
    have hp := post_marked w (bytesRow (bstr l) (grownCap w l.length 0 e)) e
    refine .inl ⟨_, [], [⟨w.heap.size, bytesRow (bstr l) (grownCap w l.length 0 e), e⟩], _, ?_, ⟨rfl, .inr ⟨_, _, _, rfl, rfl, hge, grownCap_le_maxLen w l.length 0 e hm, ?_, by simp, ?_⟩⟩, hp⟩
    · simp only [execOp, hx]
      rw [show sv l = .string (bstr l) from rfl, Sem.run_bind, hr]
      rfl
    · rw [h2, Nat.mul_one]
    · rw [Nat.mul_one]; exact h1
/-- The run-time marks the place behind bytes that a text was written into. -/
theorem run_mark {w : World} {b o len cap : Nat} {c : Array Value} {t e : TypeId} (hin : In w ⟨b, c, t⟩) (ht : P.underlying T = some (.slice e)) (he : P.underlying e = some (.int .u8)) :
    ∃ w', (convert T T (.slice (some ⟨b, o, none⟩) len cap)).run P w = .ok (.slice (some ⟨b, o, none⟩) len cap) w' ∧ Post [⟨b, c, t⟩] [⟨b, c, t⟩] [] w w' := by
  obtain ⟨q, h1, h2⟩ := hin
  have hlt : b < w.heap.size := (Array.getElem?_eq_some_iff.1 h1).1
  have hsh : w.shape? b = some (t, c.size) := by unfold World.shape?; simp only [h1]
  have hoth : ∀ k, k ≠ b → (w.freeze ⟨b, c.size, none⟩ 1).heap[k]? = w.heap[k]? := fun k hk => by
    unfold World.freeze
    rw [if_neg (by decide)]
    simp only
    rw [Array.getElem?_modify, if_neg (fun e => hk e.symm)]
  have hthis : In (w.freeze ⟨b, c.size, none⟩ 1) ⟨b, c, t⟩ := by
    obtain ⟨lo, hi⟩ := q
    refine ⟨if lo == hi then (c.size, c.size + 1) else (min lo c.size, max hi (c.size + 1)), ?_, ?_⟩
    · unfold World.freeze
      rw [if_neg (by decide)]
      simp only
      rw [Array.getElem?_modify, if_pos rfl, h1]
      rfl
    · by_cases hq : lo = hi
      · subst hq; simp [Thawed]
      · have : c.size ≤ lo := h2.resolve_left hq
        have e2 : (lo == hi) = false := by simp [hq]
        rw [e2]
        exact .inr (by show c.size ≤ min lo c.size; omega)
  refine ⟨w.freeze ⟨b, c.size, none⟩ 1, ?_, ⟨⟨?_, ?_, ?_, ?_, fun k _ hk => hoth k (by simpa using hk)⟩, fun x hx => ?_, by simp [MemIn], by simp, by simp⟩⟩
  · simp [convert, run_underlying ht, run_underlying he, markStringish, hsh]
  · simp [World.freeze]
  · simp [World.freeze]
  · simp [World.freeze]
  · simp [World.freeze]
  · simp at hx; subst hx; exact hthis
theorem st_conv_mark {b o len cap : Nat} {c : Array Value} {t e : TypeId} {lr : Mem} (hv : kconv R T T = 5) (ht : P.underlying T = some (.slice e)) (he : P.underlying e = some (.int .u8)) (hx : a.eval x = .slice (some ⟨b, o, none⟩) len cap)
    (hp : List.Perm m (⟨b, c, t⟩ :: lr)) (h : opsM P G R ops K rest (a.put d (.slice (some ⟨b, o, none⟩) len cap)) (⟨b, c, t⟩ :: lr)) : opsM P G R ops K (⟨d, .convert T T x, ty, pos, aft, none⟩ :: rest) a m := by
  have hc : cls R ⟨d, .convert T T x, ty, pos, aft, none⟩ = 5 := by simp only [cls, hv]
  refine .inr ⟨rfl, ?_⟩
  rw [hc]
  refine ⟨[⟨b, c, t⟩], lr, fun v l1 nw => v = .slice (some ⟨b, o, none⟩) len cap ∧ l1 = [⟨b, c, t⟩] ∧ nw = [], by simpa using hp, ⟨_, _, _, ⟨rfl, rfl, rfl⟩, by simp, by simp⟩, ?_, ?_, ?_⟩
  · rintro v l1 nw ⟨_, rfl, _⟩; rfl
  · intro w _ hm _
    obtain ⟨w', h1, h2⟩ := run_mark (P := P) (T := T) (o := o) (len := len) (cap := cap) (hm ⟨b, c, t⟩ (hp.mem_iff.2 (by simp))) ht he
    refine .inl ⟨_, _, _, w', ?_, ⟨rfl, rfl, rfl⟩, h2⟩
    simp only [execOp, hx]
    rw [Sem.run_bind, h1]
    rfl
  · rintro v l1 nw ⟨rfl, rfl, rfl⟩ _
    simpa using h
end
section
variable {P : Program} {G : Mem} {R : Reg} {ops : Array Oper} {n : Nat} {K : Env → Mm → Prop} {rest : List Oper} {E : Env} {M : Mm} {d : Nat} {ty : TypeId} {pos : String} {aft : Array Edge}
variable {T T' : TypeId} {x y : Operand}
theorem e_conv_own (i : Nat) {e : TypeId} {l : List Nat} (hs : P.underlying T = some .string) (ht : P.underlying T' = some (.slice e)) (he : P.underlying e = some (.int .u8)) (hx : rd E x = some (sv l)) (hl : ∀ b ∈ l, b < 256) (hm : l.length ≤ maxLen) (hd : Nat.blt d n = true) (hv : kconv R T T' = 4)
    (h : ∀ v (oz : Option Blk), OwnS e 1 v l.length (l.map by8) oz.toList → OpsE P G R ops n K rest ((d, v) :: E) ((i, oz) :: M)) : OpsE P G R ops n K (⟨some d, .convert T T' x, ty, pos, aft, none⟩ :: rest) E M :=
  fun _ m ha hM => st_conv_own hv hs ht he (ha.rd hx) hl hm fun v nw ho hf => by
    obtain ⟨oz, rfl⟩ := own_opt ho
    have := hM.fresh i (l0 := []) (lr := m) (by simp) hf
    exact h v oz ho _ _ (ha.put hd _) (by simpa using this)
theorem e_conv_mark (i : Nat) {b o len cap : Nat} {c : Array Value} {t e : TypeId} (ht : P.underlying T = some (.slice e)) (he : P.underlying e = some (.int .u8)) (hx : rd E x = some (.slice (some ⟨b, o, none⟩) len cap)) (hm : lkM M i = some ⟨b, c, t⟩) (hd : Nat.blt d n = true) (hv : kconv R T T = 5)
    (h : OpsE P G R ops n K rest ((d, .slice (some ⟨b, o, none⟩) len cap) :: E) M) : OpsE P G R ops n K (⟨some d, .convert T T x, ty, pos, aft, none⟩ :: rest) E M :=
  fun _ m ha hM => by
    obtain ⟨lr, hp⟩ := hM.perm1 hm
    refine st_conv_mark hv ht he (ha.rd hx) (by simpa using hp) (h _ _ (ha.put hd _) ⟨fun j z hz => ?_, hM.apart⟩)
    have := hp.mem_iff.1 (hM.has j z hz)
    simpa using this
end
end Go.Proofs.Ytmnmhmpklknleaa
