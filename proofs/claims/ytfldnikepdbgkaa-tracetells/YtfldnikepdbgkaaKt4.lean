import Derived.Test.YtfldnikepdbgkaaKt3
import Derived.Test.YtfldnikepdbgkaaRows
namespace Go.Proofs.Ytfldnikepdbgkaa
open Go Go.RowKit
abbrev kdfT (w : Int) (a b : TT) : TT := ⟨6, w, 0, [a, b]⟩
abbrev lockT (k b t : TT) : TT := ⟨7, 0, 0, [k, b, t]⟩
def chainM (l : List TT) : TT := l.foldl (fun c t => kdfT 1 c t) (atomT 0)
def keyM (l : List TT) : TT := kdfT 2 (chainM l.dropLast) (l.getLastD (atomT 0))
def agF (k : Int) : Nat := if k = 3 ∨ k = 4 then 3 else 1
def agO (k : Int) : Nat := if k = 3 ∨ k = 5 then 4 else 2
def agT (k : Int) : TT := ⟨3, ((min (agF k) (agO k) : Nat) : Int), ((max (agF k) (agO k) : Nat) : Int), []⟩
structure WS where
  told : List TT
  mixed : List TT
  used : Nat
def WS.mix (s : WS) (t : TT) : WS := ⟨s.told, s.mixed ++ [t], s.used⟩
def WS.show (sec : Bool) (s : WS) (t : TT) : WS := ⟨s.told ++ [t], if sec then s.mixed ++ [t] else s.mixed, s.used⟩
def lockedT (s : WS) (t : TT) : TT := if 0 < s.mixed.length then lockT (keyM s.mixed) (atomT ((100 + s.told.length : Nat) : Int)) t else t
def WS.tell (s : WS) (t : TT) : WS := ⟨s.told ++ [lockedT s t], s.mixed, s.used⟩
def WS.say (sec : Bool) (side : Nat) (s : WS) (k : Int) : WS :=
  if k = 1 then s.show sec (pubT ((3 + side : Nat) : Int)) else if k = 2 then s.tell (pubT ((1 + side : Nat) : Int))
  else if k = 7 then ⟨s.told, s.mixed ++ [atomT ((10 + s.used : Nat) : Int)], s.used + 1⟩ else s.mix (agT k)
def WS.turn (sec : Bool) (side : Nat) (s : WS) (l : List Int) : WS := l.foldl (fun s k => s.say sec side k) s
def WS.upTo (sec late : Bool) (s : WS) (ts : List (List Int)) : Nat → WS
  | 0 => s
  | i + 1 => ((WS.upTo sec late s ts i).turn sec (whoT late i) (ts.getD i [])).tell (atomT ((20 + i : Nat) : Int))
def earlyT (p0 p1 : List Int) : List TT := (if 1 ∈ p0 then [pubT 3] else []) ++ (if 1 ∈ p1 then [pubT 4] else [])
def toldW (late : Bool) (np : Nat) (p0 p1 : List Int) (ts : List (List Int)) : WS :=
  WS.upTo (decide (0 < np)) late ⟨[], if 0 < np then earlyT p0 p1 else [], 0⟩ ts ts.length
structure WS.Good (s : WS) (n : Nat) : Prop where
  told : ∀ t ∈ s.told, t.form = 0
  mixed : ∀ t ∈ s.mixed, t.form = 0
  tlen : s.told.length ≤ n
  mlen : s.mixed.length ≤ n
  ulen : s.used ≤ n
theorem form_at {i : Int} (h : 0 ≤ i) : (atomT i).form = 0 := by
  rw [form_eq, if_neg (show ¬ ((1 : Int) < 1 ∨ (7 : Int) < 1) by decide), if_neg (by simp [wdt, numB]; omega)]; rfl
theorem form_pu {i : Int} (h : 0 ≤ i) : (pubT i).form = 0 := by
  rw [form_eq, if_neg (show ¬ ((2 : Int) < 1 ∨ (7 : Int) < 2) by decide), if_neg (by simp [wdt, numB]; omega)]; rfl
theorem form_ag (k : Int) : (agT k).form = 0 := by
  unfold agT
  rw [form_eq, if_neg (show ¬ ((3 : Int) < 1 ∨ (7 : Int) < 3) by decide), if_neg (by simp [wdt, numB]; omega)]; rfl
theorem form_kdf {w : Int} (hw : 0 ≤ w) {a b : TT} (ha : a.form = 0) (hb : b.form = 0) : (kdfT w a b).form = 0 := by
  rw [form_eq, if_neg (show ¬ ((6 : Int) < 1 ∨ (7 : Int) < 6) by decide), if_neg (by simp [wdt, numB]; omega)]
  exact fst1_all fun x hx => by
    rcases List.mem_cons.1 hx with rfl | hx
    · exact ha
    · rw [List.mem_singleton.1 hx]; exact hb
theorem form_lock {a b c : TT} (ha : a.form = 0) (hb : b.form = 0) (hc : c.form = 0) : (lockT a b c).form = 0 := by
  rw [form_eq, if_neg (show ¬ ((7 : Int) < 1 ∨ (7 : Int) < 7) by decide), if_neg (by simp [wdt, numB])]
  exact fst1_all fun x hx => by
    simp only [List.mem_cons, List.not_mem_nil, or_false] at hx
    rcases hx with rfl | rfl | rfl
    · exact ha
    · exact hb
    · exact hc
theorem form_chain {l : List TT} (h : ∀ t ∈ l, t.form = 0) : (chainM l).form = 0 := by
  have key : ∀ (l : List TT) (c : TT), c.form = 0 → (∀ t ∈ l, t.form = 0) → (l.foldl (fun c t => kdfT 1 c t) c).form = 0 := by
    intro l
    induction l with
    | nil => intro c hc _; exact hc
    | cons x l ih => intro c hc h; exact ih _ (form_kdf (by decide) hc (h x (by simp))) fun t ht => h t (by simp [ht])
  exact key l _ (form_at (by decide)) h
theorem form_keyM {l : List TT} (h : ∀ t ∈ l, t.form = 0) : (keyM l).form = 0 := by
  refine form_kdf (by decide) (form_chain fun t ht => h t (List.dropLast_subset l ht)) ?_
  cases l with
  | nil => exact form_at (by decide)
  | cons x l => rw [List.getLastD_cons]; exact h _ List.getLastD_mem_cons
theorem chain_snoc (l : List TT) (t : TT) : chainM (l ++ [t]) = kdfT 1 (chainM l) t := by unfold chainM; rw [List.foldl_append]; rfl
theorem form_locked {s : WS} {n : Nat} (hs : s.Good n) {t : TT} (ht : t.form = 0) : (lockedT s t).form = 0 := by
  unfold lockedT
  split
  · exact form_lock (form_keyM hs.mixed) (form_at (by omega)) ht
  · exact ht
theorem all_snoc {p : TT → Prop} {l : List TT} {t : TT} (h : ∀ x ∈ l, p x) (ht : p t) : ∀ x ∈ l ++ [t], p x := fun x hx => by
  rcases List.mem_append.1 hx with hx | hx
  · exact h x hx
  · rw [List.mem_singleton.1 hx]; exact ht
theorem WS.Good.mix {s : WS} {n : Nat} (hs : s.Good n) {t : TT} (ht : t.form = 0) : (s.mix t).Good (n + 1) :=
  ⟨hs.told, all_snoc hs.mixed ht, Nat.le_succ_of_le hs.tlen, by have := hs.mlen; simp only [WS.mix, List.length_append, List.length_singleton]; omega, Nat.le_succ_of_le hs.ulen⟩
theorem WS.Good.show {s : WS} {n : Nat} (hs : s.Good n) (sec : Bool) {t : TT} (ht : t.form = 0) : (s.show sec t).Good (n + 1) := by
  refine ⟨all_snoc hs.told ht, ?_, by have := hs.tlen; simp only [WS.show, List.length_append, List.length_singleton]; omega, ?_, Nat.le_succ_of_le hs.ulen⟩
  · unfold WS.show; cases sec
    · exact hs.mixed
    · exact all_snoc hs.mixed ht
  · have := hs.mlen
    unfold WS.show; cases sec
    · simp only [Bool.false_eq_true, if_false]; omega
    · simp only [if_true, List.length_append, List.length_singleton]; omega
theorem WS.Good.tell {s : WS} {n : Nat} (hs : s.Good n) {t : TT} (ht : t.form = 0) : (s.tell t).Good (n + 1) :=
  ⟨all_snoc hs.told (form_locked hs ht), hs.mixed, by have := hs.tlen; simp only [WS.tell, List.length_append, List.length_singleton]; omega, Nat.le_succ_of_le hs.mlen, Nat.le_succ_of_le hs.ulen⟩
theorem WS.Good.say {s : WS} {n : Nat} (hs : s.Good n) (sec : Bool) (side : Nat) (k : Int) : (s.say sec side k).Good (n + 1) := by
  unfold WS.say
  split
  · exact hs.show sec (form_pu (by omega))
  split
  · exact hs.tell (form_pu (by omega))
  split
  · have := hs.mlen
    have hu := hs.ulen
    exact ⟨hs.told, all_snoc hs.mixed (form_at (by omega)), Nat.le_succ_of_le hs.tlen, by simp only [List.length_append, List.length_singleton]; omega, by simp only; omega⟩
  · exact hs.mix (form_ag k)
theorem WS.Good.up {s : WS} {n m : Nat} (hs : s.Good n) (h : n ≤ m) : s.Good m := ⟨hs.told, hs.mixed, Nat.le_trans hs.tlen h, Nat.le_trans hs.mlen h, Nat.le_trans hs.ulen h⟩
theorem WS.Good.turn {sec : Bool} {side : Nat} : ∀ (l : List Int) {s : WS} {n : Nat}, s.Good n → (s.turn sec side l).Good (n + l.length)
  | [], _, _, hs => hs
  | k :: l, _, _, hs => by
    have := WS.Good.turn (sec := sec) (side := side) l (hs.say sec side k)
    rw [List.length_cons, Nat.add_comm l.length, ← Nat.add_assoc]
    exact this
theorem turn_snoc (sec : Bool) (side : Nat) (s : WS) (l : List Int) (k : Int) : s.turn sec side (l ++ [k]) = (s.turn sec side l).say sec side k := by unfold WS.turn; rw [List.foldl_append]; rfl
theorem turn_next (sec : Bool) (side : Nat) (s : WS) {l : List Int} {j : Nat} (h : j < l.length) : s.turn sec side (l.take (j + 1)) = (s.turn sec side (l.take j)).say sec side (l.getD j 0) := by
  rw [List.take_succ_eq_append_getElem h, turn_snoc, List.getD_eq_getElem?_getD, List.getElem?_eq_getElem h]; rfl
theorem WS.Good.upTo {sec late : Bool} {s : WS} {n : Nat} {ts : List (List Int)} (hs : s.Good n) (h6 : ∀ i, i < ts.length → (ts.getD i []).length ≤ 6) : ∀ i, i ≤ ts.length → (WS.upTo sec late s ts i).Good (n + 7 * i)
  | 0, _ => hs
  | i + 1, h => by
    have h1 := (WS.Good.upTo hs h6 (sec := sec) (late := late) i (by omega)).turn (sec := sec) (side := whoT late i) (ts.getD i [])
    have h2 := h6 i (by omega)
    exact (h1.tell (form_at (by omega))).up (by omega)
def TermD (G : Mem) (t : TT) (v : Value) (nw : Mem) : Prop := ∃ c ys, v = .agg (tC t c) ∧ TL (nw ++ G) t.args c ys
theorem termD_room (e : TypeId) (G : Mem) {t : TT} (h : t.form = 0) (m : Mem) : ∃ v nw, TermD G t v nw ∧ FreshM m nw := by
  obtain ⟨c, ys, nw, h1, h2⟩ := form_room e t h m
  exact ⟨_, nw, ⟨c, ys, rfl, h1.mono fun x hx => List.mem_append_left _ hx⟩, h2⟩
abbrev wC (sec : Bool) (v1 v2 : Value) (used : Nat) : Array Value := cells 4 [pV (.bool sec), pV v1, pV v2, pV (ii used)]
def WireIs (e : TypeId) (G : Mem) (sec : Bool) (s : WS) (c : Array Value) (o1 o2 : Option Blk) : Prop :=
  ∃ v1 v2 xs1 xs2, c = wC sec v1 v2 s.used ∧ OwnS e 4 v1 s.told.length xs1 o1.toList ∧ TO G s.told xs1 ∧ OwnS e 4 v2 s.mixed.length xs2 o2.toList ∧ TO G s.mixed xs2
theorem own_room {e : TypeId} {G : Mem} {l : List TT} (hl : l.length ≤ maxLen) (h : ∀ t ∈ l, t.form = 0) (m : Mem) : ∃ v xs r nf, OwnS e 4 v l.length xs [⟨r, xs.toArray, e⟩] ∧ TO (nf ++ G) l xs ∧ FreshM m (⟨r, xs.toArray, e⟩ :: nf) := by
  obtain ⟨xs, nf, h1, f1⟩ := to_room (fun t ht => form_room e t (h t ht)) m
  obtain ⟨r, hr⟩ := fresh_of (m ++ nf)
  have hx := h1.1
  refine ⟨.slice (some ⟨r, 0, none⟩) l.length l.length, xs, r, nf, .inr ⟨r, l.length, xs.toArray, rfl, rfl, Nat.le_refl _, hl, by simpa using hx, hx, by rw [← hx]; simp⟩, h1.mono fun x hx => List.mem_append_left _ hx, ?_, fun x hx y hy => ?_⟩
  · rw [List.map_cons, List.nodup_cons]
    refine ⟨fun hb => ?_, f1.1⟩
    obtain ⟨y, hy, e1⟩ := List.mem_map.1 hb
    exact hr y (List.mem_append_right _ hy) e1
  · rcases List.mem_cons.1 hx with rfl | hx
    · exact hr y (List.mem_append_left _ hy)
    · exact f1.2 x hx y hy
theorem wire_room (e : TypeId) (G J : Mem) (sec : Bool) {s : WS} {n : Nat} (hs : s.Good n) (hn : n ≤ maxLen) (m : Mem) : ∃ c' o1 o2 nf, WireIs e ((J ++ nf) ++ G) sec s c' o1 o2 ∧ FreshM m (o1.toList ++ (o2.toList ++ nf)) := by
  obtain ⟨v1, xs1, r1, n1, h1, t1, f1⟩ := own_room (e := e) (G := []) (Nat.le_trans hs.tlen hn) hs.told m
  obtain ⟨v2, xs2, r2, n2, h2, t2, f2⟩ := own_room (e := e) (G := []) (Nat.le_trans hs.mlen hn) hs.mixed (m ++ (⟨r1, xs1.toArray, e⟩ :: n1))
  refine ⟨wC sec v1 v2 s.used, some ⟨r1, xs1.toArray, e⟩, some ⟨r2, xs2.toArray, e⟩, n1 ++ n2, ⟨v1, v2, xs1, xs2, rfl, h1, t1.mono fun x hx => ?_, h2, t2.mono fun x hx => ?_⟩, ?_⟩
  · simp only [List.append_nil] at hx; simp [hx]
  · simp only [List.append_nil] at hx; simp [hx]
  have f3 := freshM_app f1 f2
  have hp : List.Perm ((⟨r1, xs1.toArray, e⟩ :: n1) ++ (⟨r2, xs2.toArray, e⟩ :: n2)) ((some (⟨r1, xs1.toArray, e⟩ : Blk)).toList ++ ((some (⟨r2, xs2.toArray, e⟩ : Blk)).toList ++ (n1 ++ n2))) := by
    show List.Perm (⟨r1, xs1.toArray, e⟩ :: (n1 ++ (⟨r2, xs2.toArray, e⟩ :: n2))) (⟨r1, xs1.toArray, e⟩ :: (⟨r2, xs2.toArray, e⟩ :: (n1 ++ n2)))
    exact List.perm_middle.cons _
  exact ⟨(hp.map _).nodup_iff.1 f3.1, fun x hx => f3.2 x (hp.mem_iff.2 hx)⟩
theorem wire_zero {e : TypeId} {G : Mem} (sec : Bool) : WireIs e G sec ⟨[], [], 0⟩ (wC sec nilS nilS 0) none none := ⟨nilS, nilS, [], [], rfl, own_nil _ _, TO.nil, own_nil _ _, TO.nil⟩
theorem say_e {sec : Bool} {side : Nat} {s : WS} {k : Int} (h : k = 1) : s.say sec side k = s.show sec (pubT ((3 + side : Nat) : Int)) := if_pos h
theorem say_s {sec : Bool} {side : Nat} {s : WS} {k : Int} (h1 : k ≠ 1) (h : k = 2) : s.say sec side k = s.tell (pubT ((1 + side : Nat) : Int)) := (if_neg h1).trans (if_pos h)
theorem say_p {sec : Bool} {side : Nat} {s : WS} {k : Int} (h1 : k ≠ 1) (h2 : k ≠ 2) (h : k = 7) : s.say sec side k = ⟨s.told, s.mixed ++ [atomT ((10 + s.used : Nat) : Int)], s.used + 1⟩ := (if_neg h1).trans ((if_neg h2).trans (if_pos h))
theorem say_m {sec : Bool} {side : Nat} {s : WS} {k : Int} (h1 : k ≠ 1) (h2 : k ≠ 2) (h : k ≠ 7) : s.say sec side k = s.mix (agT k) := (if_neg h1).trans ((if_neg h2).trans (if_neg h))
def earlyU (p0 p1 : List Int) (i : Nat) : List TT := (if 0 < i ∧ 1 ∈ p0 then [pubT 3] else []) ++ (if 1 < i ∧ 1 ∈ p1 then [pubT 4] else [])
def pq (p0 p1 : List Int) (i : Nat) : List Int := if i = 0 then p0 else p1
theorem early_yes {p0 p1 : List Int} {i : Nat} (hi : i < 2) (h : decide (1 ∈ pq p0 p1 i) = true) : earlyU p0 p1 (i + 1) = earlyU p0 p1 i ++ [pubT ((3 + i : Nat) : Int)] := by
  have h := of_decide_eq_true h
  have : i = 0 ∨ i = 1 := by omega
  rcases this with rfl | rfl
  · have h : 1 ∈ p0 := h
    simp [earlyU, h]
  · have h : 1 ∈ p1 := h
    simp [earlyU, h]
theorem early_no {p0 p1 : List Int} {i : Nat} (hi : i < 2) (h : decide (1 ∈ pq p0 p1 i) = false) : earlyU p0 p1 (i + 1) = earlyU p0 p1 i := by
  have h := of_decide_eq_false h
  have : i = 0 ∨ i = 1 := by omega
  rcases this with rfl | rfl
  · have h : 1 ∉ p0 := h
    simp [earlyU, h]
  · have h : 1 ∉ p1 := h
    simp [earlyU, h]
theorem early_all (p0 p1 : List Int) : earlyU p0 p1 2 = earlyT p0 p1 := by simp [earlyU, earlyT]
theorem early_len (p0 p1 : List Int) (i : Nat) : (earlyU p0 p1 i).length ≤ 2 := by
  unfold earlyU
  rw [List.length_append]
  split <;> split <;> simp
theorem early_in {p0 p1 : List Int} {i : Nat} {t : TT} (h : t ∈ earlyU p0 p1 i) : t = pubT 3 ∨ t = pubT 4 := by
  unfold earlyU at h
  rcases List.mem_append.1 h with h | h
  · split at h
    · exact .inl (List.mem_singleton.1 h)
    · cases h
  · split at h
    · exact .inr (List.mem_singleton.1 h)
    · cases h
def lfC (l : List TT) : List Value := l.flatMap fun t => (tC t nilS).toList
theorem lfC_snoc (l : List TT) (t : TT) : lfC (l ++ [t]) = lfC l ++ (tC t nilS).toList := by unfold lfC; rw [List.flatMap_append]; simp
theorem lf_to {G : Mem} : ∀ (l : List TT), (∀ t ∈ l, t.args = []) → TO G l (lfC l)
  | [], _ => TO.nil
  | t :: l, h => by
    have h1 : TL G t.args nilS [] := by rw [h t (by simp)]; exact tl_nil
    have := (to_one h1).app (lf_to (G := G) l fun x hx => h x (by simp [hx]))
    exact this
def idxI (p : Int → Bool) : List Int → Int
  | [] => -1
  | y :: l => if p y = true then 0 else if idxI p l < 0 then -1 else idxI p l + 1
theorem idxI_at {p : Int → Bool} : ∀ {L : List Int} {i : Nat}, i < L.length → (∀ j, j < i → p (L.getD j 0) = false) → p (L.getD i 0) = true → idxI p L = i
  | y :: l, 0, _, _, h => by rw [idxI, if_pos (show p y = true from h)]; rfl
  | y :: l, i + 1, hi, h0, h => by
    have e0 : p y = false := h0 0 (by omega)
    have e := idxI_at (p := p) (L := l) (i := i) (by simpa using hi) (fun j hji => h0 (j + 1) (by omega)) h
    rw [idxI, e0, e, if_neg (by decide), if_neg (by omega)]; omega
theorem idxI_none {p : Int → Bool} : ∀ {L : List Int}, (∀ j, j < L.length → p (L.getD j 0) = false) → idxI p L = -1
  | [], _ => rfl
  | y :: l, h => by
    have e0 : p y = false := h 0 (by simp)
    rw [idxI, e0, if_neg (by decide), idxI_none fun j hj => h (j + 1) (by simpa using hj), if_pos (by decide)]
theorem idxI_has (p : Int → Bool) : ∀ L : List Int, decide ((0 : Int) ≤ idxI p L) = L.any p
  | [] => rfl
  | y :: l => by
    have ih := idxI_has p l
    rw [List.any_cons, ← ih, idxI]
    cases e : p y with
    | true => simp
    | false =>
      rw [Bool.false_or, if_neg (by decide)]
      by_cases h : idxI p l < 0
      · rw [if_pos h, decide_eq_false (by omega), decide_eq_false (by omega)]
      · rw [if_neg h, decide_eq_true (by omega), decide_eq_true (by omega)]
theorem any_mem (l : List Int) (k : Int) : (l.any fun x => decide (k = x)) = decide (k ∈ l) := by
  induction l with
  | nil => simp
  | cons y l ih => rw [List.any_cons, ih]; by_cases h : k = y <;> simp [h]
theorem early_args (p0 p1 : List Int) : ∀ t ∈ earlyT p0 p1, t.args = [] := fun t ht => by
  rw [← early_all] at ht
  rcases early_in ht with rfl | rfl <;> rfl
theorem good_zero (n : Nat) : WS.Good ⟨[], [], 0⟩ n := ⟨(fun _ h => by cases h), (fun _ h => by cases h), Nat.zero_le _, Nat.zero_le _, Nat.zero_le _⟩
theorem good_early (p0 p1 : List Int) : WS.Good ⟨[], earlyT p0 p1, 0⟩ 2 := ⟨(fun _ h => by cases h), (fun t ht => by
  rw [← early_all] at ht
  rcases early_in ht with rfl | rfl <;> exact form_pu (by decide)), Nat.zero_le _, by have := early_len p0 p1 2; rw [early_all] at this; exact this, Nat.zero_le _⟩
theorem in2 {a b : Mem} : ∀ z ∈ a ++ b, z ∈ b ++ a := fun z hz => by
  simp only [List.mem_append] at hz ⊢
  exact hz.symm
theorem WireIs.mono {e : TypeId} {G G' : Mem} {sec : Bool} {s : WS} {c : Array Value} {o1 o2 : Option Blk} (h : WireIs e G sec s c o1 o2) (hs : ∀ x ∈ G, x ∈ G') : WireIs e G' sec s c o1 o2 := by
  obtain ⟨v1, v2, xs1, xs2, h0, h1, h2, h3, h4⟩ := h
  exact ⟨v1, v2, xs1, xs2, h0, h1, h2.mono hs, h3, h4.mono hs⟩
theorem own_ids {e : TypeId} {z k k' : Nat} {v : Value} {xs xs' : List Value} {l l' : Mem} (h : OwnS e z v k xs l) (h' : OwnS e z v k' xs' l') : l.map (·.b) = l'.map (·.b) := by
  rcases h with ⟨rfl, _, _, rfl⟩ | ⟨r, cap, c, rfl, rfl, _⟩
  · rcases h' with ⟨_, _, _, rfl⟩ | ⟨_, _, _, h, _⟩
    · rfl
    · cases h
  · rcases h' with ⟨h, _, _, rfl⟩ | ⟨r', cap', c', h, rfl, _⟩
    · cases h
    · cases h; rfl
theorem ids_2 {oa ob o2 jk : Mem} (h : ∀ z ∈ ob, z.b ∈ (o2 ++ jk).map (·.b)) : ∀ z ∈ oa ++ ob, z.b ∈ (oa ++ (o2 ++ jk)).map (·.b) := fun z hz => by
  rw [List.map_append]
  rcases List.mem_append.1 hz with hz | hz
  · exact List.mem_append_left _ (List.mem_map.2 ⟨z, hz, rfl⟩)
  · exact List.mem_append_right _ (h z hz)
theorem ids_1 {oa ob o1 jk : Mem} (h : ∀ z ∈ oa, z.b ∈ (o1 ++ jk).map (·.b)) : ∀ z ∈ oa ++ ob, z.b ∈ (o1 ++ (ob ++ jk)).map (·.b) := fun z hz => by
  rcases List.mem_append.1 hz with hz | hz
  · obtain ⟨y, hy, e⟩ := List.mem_map.1 (h z hz)
    refine List.mem_map.2 ⟨y, ?_, e⟩
    rcases List.mem_append.1 hy with hy | hy
    · exact List.mem_append_left _ hy
    · exact List.mem_append_right _ (List.mem_append_right _ hy)
  · exact List.mem_map.2 ⟨z, List.mem_append_right _ (List.mem_append_left _ hz), rfl⟩
theorem ids_then {oa ob o1 o2 p1 p2 f1 f2 : Mem} (h1 : ∀ z ∈ oa ++ ob, z.b ∈ (o1 ++ (o2 ++ f1)).map (·.b)) (h2 : ∀ z ∈ o1 ++ o2, z.b ∈ (p1 ++ (p2 ++ f2)).map (·.b)) : ∀ z ∈ oa ++ ob, z.b ∈ (p1 ++ (p2 ++ (f1 ++ f2))).map (·.b) := fun z hz => by
  obtain ⟨y, hy, e⟩ := List.mem_map.1 (h1 z hz)
  have key : ∀ q : Blk, q ∈ p1 ++ (p2 ++ f2) ∨ q ∈ f1 → q ∈ p1 ++ (p2 ++ (f1 ++ f2)) := fun q hq => by
    simp only [List.mem_append] at hq ⊢
    rcases hq with (h | h | h) | h
    · exact .inl h
    · exact .inr (.inl h)
    · exact .inr (.inr (.inr h))
    · exact .inr (.inr (.inl h))
  have hy2 : y ∈ o1 ++ o2 ∨ y ∈ f1 := by
    simp only [List.mem_append] at hy ⊢
    rcases hy with h | h | h
    · exact .inl (.inl h)
    · exact .inl (.inr h)
    · exact .inr h
  rcases hy2 with hy2 | hy2
  · obtain ⟨q, hq, e2⟩ := List.mem_map.1 (h2 y hy2)
    exact List.mem_map.2 ⟨q, key q (.inl hq), e2.trans e⟩
  · exact List.mem_map.2 ⟨y, key y (.inr hy2), e⟩
theorem ids_own {e : TypeId} {z k k' : Nat} {v : Value} {xs xs' : List Value} {o o2 ob jk : Mem} (ho : OwnS e z v k xs o) (ho2 : OwnS e z v k' xs' o2) (h : ∀ z ∈ ob, z.b ∈ (o ++ jk).map (·.b)) : ∀ z ∈ ob, z.b ∈ (o2 ++ jk).map (·.b) := by
  rw [List.map_append, ← own_ids ho ho2, ← List.map_append]; exact h
theorem ids_jk {ob o jk p : Mem} (h : ∀ z ∈ ob, z.b ∈ (o ++ jk).map (·.b)) : ∀ z ∈ ob, z.b ∈ (o ++ (p ++ jk)).map (·.b) := fun z hz => by
  obtain ⟨y, hy, e⟩ := List.mem_map.1 (h z hz)
  refine List.mem_map.2 ⟨y, ?_, e⟩
  rcases List.mem_append.1 hy with h | h <;> simp [h]
theorem vq_show {G : Mem} {v0 v1 : Value} {vs : List Value} {p0 p1 : List Int} {ts : List (List Int)} (h : ShowsLI G (v0 :: v1 :: vs) (p0 :: p1 :: ts)) : ∀ a, a < 2 → Shows G 1 (vq v0 v1 a) (pq p0 p1 a).length ((pq p0 p1 a).map iv) := fun a ha => by
  have : a = 0 ∨ a = 1 := by omega
  rcases this with rfl | rfl
  · exact h.2 0 (by simp)
  · exact h.2 1 (by simp)
theorem pf_sizes {late : Bool} {p0 p1 : List Int} {ts : List (List Int)} (h : pfault late p0 p1 ts = 0) : (1 ≤ ts.length ∧ ts.length ≤ 5) ∧ (p0.length ≤ 6 ∧ p1.length ≤ 6) ∧ ∀ i, i < ts.length → (ts.getD i []).length ≤ 6 := by
  unfold pfault at h
  by_cases h0 : ts.length = 0 ∨ 5 < ts.length
  · rw [if_pos h0] at h; cases h
  rw [if_neg h0] at h
  by_cases h1 : first1 (p0 :: p1 :: ts) = 0
  · have hz := first1_zero h1
    refine ⟨by omega, ⟨(hz p0 (by simp)).1, (hz p1 (by simp)).1⟩, fun i hi => ?_⟩
    refine (hz _ (List.mem_cons_of_mem _ (List.mem_cons_of_mem _ ?_))).1
    rw [List.getD_eq_getElem?_getD, List.getElem?_eq_getElem hi]
    exact List.getElem_mem hi
  · rw [if_neg h1] at h; exact absurd h h1
theorem TO.take {G : Mem} {l : List TT} {xs : List Value} (h : TO G l xs) (k : Nat) (hk : k ≤ l.length) : TO G (l.take k) (xs.take (k * 4)) := by
  refine ⟨by rw [List.length_take, List.length_take, h.1]; omega, fun j hj => ?_⟩
  have hj2 : j < k ∧ j < l.length := by rw [List.length_take] at hj; omega
  have e : ((xs.take (k * 4)).drop (j * 4)).take 4 = (xs.drop (j * 4)).take 4 := by
    rw [List.drop_take, List.take_take]; congr 1; omega
  rw [e, List.getElem_take]; exact h.2 j hj2.2
theorem show_take {B : Mem} {z n k : Nat} {v : Value} {xs : List Value} (h : Shows B z v n xs) (hk : k ≤ n) : Shows B z (slPart z v 0 k) k (xs.take (k * z)) := by
  have := h.part (i := 0) (j := k) (Nat.zero_le _) hk
  simpa using this
theorem keyM_at {l : List TT} (h : 0 < l.length) : keyM l = kdfT 2 (chainM (l.take (l.length - 1))) (l[l.length - 1]'(by omega)) := by
  unfold keyM
  have e : l.getLastD (atomT 0) = l[l.length - 1]'(by omega) := by
    rw [List.getLastD_eq_getLast?, List.getLast?_eq_getElem?, List.getElem?_eq_getElem (show l.length - 1 < l.length by omega)]; rfl
  rw [e, List.dropLast_eq_take]
theorem in3 {a b c : Mem} : ∀ z ∈ a ++ (b ++ c), z ∈ (b ++ a) ++ c := fun z hz => by
  simp only [List.mem_append] at hz ⊢
  rcases hz with h | h | h <;> simp [h]
theorem key_end {l q : List TT} {i : Nat} (h : 0 < l.length) (hq : q = l.take (l.length - 1)) (hi : i = l.length - 1) : keyM l = kdfT 2 (chainM (q.take i)) (l[l.length - 1]'(by omega)) := by
  rw [keyM_at h, hq, hi, List.take_take, Nat.min_self]
theorem chain_next {l : List TT} {i : Nat} (h : i < l.length) : chainM (l.take (i + 1)) = kdfT 1 (chainM (l.take i)) l[i] := by
  rw [List.take_succ_eq_append_getElem h, chain_snoc]
theorem toldW_good {late : Bool} {np : Nat} {p0 p1 : List Int} {ts : List (List Int)} (h5 : ts.length ≤ 5) (h6 : ∀ i, i < ts.length → (ts.getD i []).length ≤ 6) : (toldW late np p0 p1 ts).Good 37 := by
  have h0 : WS.Good ⟨[], if 0 < np then earlyT p0 p1 else [], 0⟩ 2 := by
    by_cases h : 0 < np
    · rw [if_pos h]; exact good_early p0 p1
    · rw [if_neg h]; exact good_zero 2
  exact (h0.upTo h6 ts.length (Nat.le_refl _)).up (by omega)
def ToldD (late : Bool) (np : Nat) (p0 p1 : List Int) (ts : List (List Int)) (v : Value) (nw : Mem) : Prop := ∃ w xs, v = .tuple #[w, ii 0] ∧ TL nw (toldW late np p0 p1 ts).told w xs
theorem told_room (e : TypeId) {late : Bool} {np : Nat} {p0 p1 : List Int} {ts : List (List Int)} (h5 : ts.length ≤ 5) (h6 : ∀ i, i < ts.length → (ts.getD i []).length ≤ 6) (m : Mem) : ∃ v nw, (∃ xs, TL nw (toldW late np p0 p1 ts).told v xs) ∧ FreshM m nw := by
  have hg := toldW_good (late := late) (np := np) (p0 := p0) (p1 := p1) h5 h6
  obtain ⟨c, ys, nw, h1, h2⟩ := tl_room e (l := (toldW late np p0 p1 ts).told) (by have := hg.tlen; simp only [maxLen]; omega) (fun t ht => form_room e t (hg.told t ht)) m
  exact ⟨c, nw, ⟨ys, h1⟩, h2⟩
theorem toldD_room (e : TypeId) {late : Bool} {np : Nat} {p0 p1 : List Int} {ts : List (List Int)} (h5 : ts.length ≤ 5) (h6 : ∀ i, i < ts.length → (ts.getD i []).length ≤ 6) (m : Mem) : ∃ v nw, ToldD late np p0 p1 ts v nw ∧ FreshM m nw := by
  obtain ⟨v, nw, ⟨xs, h1⟩, h2⟩ := told_room e h5 h6 m
  exact ⟨_, nw, ⟨v, xs, rfl, h1⟩, h2⟩
theorem upTo_step {e : TypeId} {G : Mem} {sec late : Bool} {s : WS} {ts : List (List Int)} {i j : Nat} {c : Array Value} {o1 o2 : Option Blk} (hz : j = (ts.getD i []).length) (h : WireIs e G sec (((WS.upTo sec late s ts i).turn sec (whoT late i) ((ts.getD i []).take j)).tell (atomT ((20 + i : Nat) : Int))) c o1 o2) : WireIs e G sec (WS.upTo sec late s ts (i + 1)) c o1 o2 := by
  rw [hz, List.take_length] at h; exact h
theorem tW_end {e : TypeId} {fz : Mem} {late : Bool} {np : Nat} {p0 p1 : List Int} {ts : List (List Int)} {i : Nat} {w1 : Value} {z1 : List Value} {oa : Option Blk} (hi : i = ts.length) (g1 : OwnS e 4 w1 (WS.upTo (decide (0 < np)) late ⟨[], if 0 < np then earlyT p0 p1 else [], 0⟩ ts i).told.length z1 oa.toList)
    (g2 : TO fz (WS.upTo (decide (0 < np)) late ⟨[], if 0 < np then earlyT p0 p1 else [], 0⟩ ts i).told z1) (hl : (WS.upTo (decide (0 < np)) late ⟨[], if 0 < np then earlyT p0 p1 else [], 0⟩ ts i).told.length ≤ maxLen) : ∃ xs, TL (fz ++ oa.toList) (toldW late np p0 p1 ts).told w1 xs := by
  subst hi; exact ⟨z1, (TO.tl g2 g1 hl).mono in2⟩
theorem dec_pos (n : Nat) : decide ((0 : Int) < (n : Int)) = decide (0 < n) := by
  by_cases h : 0 < n
  · rw [decide_eq_true h, decide_eq_true (by omega)]
  · rw [decide_eq_false h, decide_eq_false (by omega)]
end Go.Proofs.Ytfldnikepdbgkaa
namespace Go.Proofs.Ytfldnikepdbgkaa
open Go Go.RowKit
def chU (l : List TT) (i : Nat) : TT := if i < l.length then chainM (l.take i) else keyM l
def wU (l : List TT) (i : Nat) : Nat := if i + 1 = l.length then 2 else 1
theorem chU_zero {l : List TT} (h : 0 < l.length) : chU l 0 = atomT 0 := by unfold chU; rw [if_pos h]; rfl
theorem chU_next {l : List TT} {i : Nat} (h : i < l.length) : chU l (i + 1) = kdfT ((wU l i : Nat) : Int) (chU l i) l[i] := by
  unfold chU wU
  rw [if_pos h]
  by_cases h1 : i + 1 = l.length
  · rw [if_neg (by omega), if_pos h1, key_end (q := l.take (l.length - 1)) (i := l.length - 1) (by omega) rfl rfl]
    have e : i = l.length - 1 := by omega
    subst e
    rw [List.take_take, Nat.min_self]; rfl
  · rw [if_pos (by omega), if_neg h1, chain_next h]; rfl
theorem chU_end {l : List TT} {i : Nat} (h : i = l.length) : chU l i = keyM l := by unfold chU; rw [if_neg (by omega)]
theorem inM {a b c : Mem} : ∀ z ∈ a ++ c, z ∈ (a ++ b) ++ c := fun z hz => by
  simp only [List.mem_append] at hz ⊢
  rcases hz with h | h
  · exact .inl (.inl h)
  · exact .inr h
theorem s0_leaf (np : Nat) (p0 p1 : List Int) : ∀ t ∈ (if 0 < np then earlyT p0 p1 else []), t.args = [] := fun t ht => by
  by_cases h : 0 < np
  · rw [if_pos h] at ht; exact early_args p0 p1 t ht
  · rw [if_neg h] at ht; cases ht
def OutIs (e : TypeId) (G : Mem) (l : List TT) (c : Array Value) (o : Option Blk) : Prop := ∃ v xs, c = #[v] ∧ OwnS e 4 v l.length xs o.toList ∧ TO G l xs
theorem OutIs.mono {e : TypeId} {G G' : Mem} {l : List TT} {c : Array Value} {o : Option Blk} (h : OutIs e G l c o) (hs : ∀ x ∈ G, x ∈ G') : OutIs e G' l c o := by
  obtain ⟨v, xs, h0, h1, h2⟩ := h
  exact ⟨v, xs, h0, h1, h2.mono hs⟩
theorem out_zero {e : TypeId} {G : Mem} : OutIs e G [] #[nilS] none := ⟨nilS, [], rfl, own_nil _ _, TO.nil⟩
theorem out_room (e : TypeId) (G J : Mem) {l : List TT} (hf : ∀ t ∈ l, t.form = 0) (hn : l.length ≤ maxLen) (m : Mem) : ∃ c' o1 o2 nf, (OutIs e ((J ++ nf) ++ G) l c' o1 ∧ o2 = none) ∧ FreshM m (o1.toList ++ ((o2 : Option Blk).toList ++ nf)) := by
  obtain ⟨v1, xs1, r1, n1, h1, t1, f1⟩ := own_room (e := e) (G := []) hn hf m
  refine ⟨#[v1], some ⟨r1, xs1.toArray, e⟩, none, n1, ⟨⟨v1, xs1, rfl, h1, t1.mono fun x hx => ?_⟩, rfl⟩, f1⟩
  simp only [List.append_nil] at hx; simp [hx]
def onesT (l : List Int) (w : Nat) : List TT := (l.filter fun k => decide (k = 1)).map fun _ => pubT ((3 + w : Nat) : Int)
theorem ones_yes {l : List Int} {j w : Nat} (hj : j < l.length) (h : l.getD j 0 = 1) : onesT (l.take (j + 1)) w = onesT (l.take j) w ++ [pubT ((3 + w : Nat) : Int)] := by
  have e : l.getD j 0 = l[j] := by rw [List.getD_eq_getElem?_getD, List.getElem?_eq_getElem hj]; rfl
  unfold onesT
  rw [List.take_succ_eq_append_getElem hj, List.filter_append, List.map_append, List.filter_cons, if_pos (by rw [← e, h]; decide)]; rfl
theorem ones_no {l : List Int} {j w : Nat} (hj : j < l.length) (h : l.getD j 0 ≠ 1) : onesT (l.take (j + 1)) w = onesT (l.take j) w := by
  have e : l.getD j 0 = l[j] := by rw [List.getD_eq_getElem?_getD, List.getElem?_eq_getElem hj]; rfl
  unfold onesT
  rw [List.take_succ_eq_append_getElem hj, List.filter_append, List.map_append, List.filter_cons, if_neg (by rw [← e]; simpa using h)]; simp
def preT (np : Nat) (p0 p1 : List Int) (a b : Nat) : List TT := if 0 < np then ((List.range a).flatMap fun w => onesT (pq p0 p1 w) w) ++ onesT ((pq p0 p1 a).take b) a else []
theorem preT_zero (np : Nat) (p0 p1 : List Int) : preT np p0 p1 0 0 = [] := by unfold preT onesT; simp
theorem preT_row (np : Nat) (p0 p1 : List Int) {a b : Nat} (h : b = (pq p0 p1 a).length) : preT np p0 p1 (a + 1) 0 = preT np p0 p1 a b := by
  unfold preT
  by_cases hp : 0 < np
  · rw [if_pos hp, if_pos hp, h, List.take_length, List.range_succ, List.flatMap_append]
    simp [onesT]
  · rw [if_neg hp, if_neg hp]
theorem preT_yes {np : Nat} {p0 p1 : List Int} {a b : Nat} (hb : b < (pq p0 p1 a).length) (h : (decide ((pq p0 p1 a).getD b 0 = 1) && decide (0 < np)) = true) : preT np p0 p1 a (b + 1) = preT np p0 p1 a b ++ [pubT ((3 + a : Nat) : Int)] := by
  rw [Bool.and_eq_true, decide_eq_true_eq, decide_eq_true_eq] at h
  unfold preT
  rw [if_pos h.2, if_pos h.2, ones_yes hb h.1, List.append_assoc]
theorem preT_no {np : Nat} {p0 p1 : List Int} {a b : Nat} (hb : b < (pq p0 p1 a).length) (h : (decide ((pq p0 p1 a).getD b 0 = 1) && decide (0 < np)) = false) : preT np p0 p1 a (b + 1) = preT np p0 p1 a b := by
  unfold preT
  by_cases hp : 0 < np
  · rw [decide_eq_true hp, Bool.and_true, decide_eq_false_iff_not] at h
    rw [if_pos hp, if_pos hp, ones_no hb h]
  · rw [if_neg hp, if_neg hp]
theorem ones_len (l : List Int) (w : Nat) : (onesT l w).length ≤ l.length := by unfold onesT; rw [List.length_map]; exact List.length_filter_le _ _
theorem preT_len {np : Nat} {p0 p1 : List Int} (h0 : p0.length ≤ 6) (h1 : p1.length ≤ 6) {a b : Nat} (ha : a ≤ 2) : (preT np p0 p1 a b).length ≤ 18 := by
  have h6 : ∀ w, (pq p0 p1 w).length ≤ 6 := fun w => by unfold pq; split <;> assumption
  have hq : ∀ w, (onesT (pq p0 p1 w) w).length ≤ 6 := fun w => Nat.le_trans (ones_len _ _) (h6 w)
  have hb : (onesT ((pq p0 p1 a).take b) a).length ≤ 6 := Nat.le_trans (ones_len _ _) (Nat.le_trans (by rw [List.length_take]; exact Nat.min_le_right _ _) (h6 a))
  have q0 := hq 0
  have q1 := hq 1
  unfold preT
  split
  · rw [List.length_append]
    have : a = 0 ∨ a = 1 ∨ a = 2 := by omega
    rcases this with rfl | rfl | rfl <;> simp [List.range_succ] at hb q0 q1 ⊢ <;> omega
  · simp
theorem ones_early {l : List Int} {w : Nat} (h : (l.filter fun k => decide (k = 1)).length ≤ 1) : onesT l w = if 1 ∈ l then [pubT ((3 + w : Nat) : Int)] else [] := by
  unfold onesT
  by_cases h1 : (1 : Int) ∈ l
  · rw [if_pos h1]
    have hm : (1 : Int) ∈ l.filter fun k => decide (k = 1) := List.mem_filter.2 ⟨h1, by decide⟩
    match e : l.filter (fun k => decide (k = 1)) with
    | [] => rw [e] at hm; cases hm
    | [x] => rfl
    | x :: y :: r => rw [e] at h; simp at h
  · rw [if_neg h1]
    have : l.filter (fun k => decide (k = 1)) = [] := List.filter_eq_nil_iff.2 fun k hk => by
      have : k ≠ 1 := fun e => h1 (e ▸ hk)
      simpa using this
    rw [this]; rfl
theorem preT_early {np : Nat} {p0 p1 : List Int} (h0 : (p0.filter fun k => decide (k = 1)).length ≤ 1) (h1 : (p1.filter fun k => decide (k = 1)).length ≤ 1) : preT np p0 p1 2 0 = if 0 < np then earlyT p0 p1 else [] := by
  unfold preT
  split
  · have e : ((List.range 2).flatMap fun w => onesT (pq p0 p1 w) w) = onesT p0 0 ++ onesT p1 1 := by simp [List.range_succ, pq]
    rw [e, ones_early h0, ones_early h1]
    simp [onesT, earlyT]
  · rfl
theorem once_one {l : List Int} {w : Nat} (hok : ∀ j, j < l.length → ∃ es, okPre (es ++ ((l.map Int.toNat).map (fun x => (w, x))).take j) (w, (l.getD j 0).toNat) = true) : (l.filter fun k => decide (k = 1)).length ≤ 1 := by
  refine Classical.byContradiction fun hc => ?_
  have key : ∀ l : List Int, 2 ≤ (l.filter fun k => decide (k = 1)).length → ∃ i j, i < j ∧ j < l.length ∧ l.getD i 0 = 1 ∧ l.getD j 0 = 1 := by
    intro l
    induction l with
    | nil => intro h; simp at h
    | cons x l ih =>
      intro h
      rw [List.filter_cons] at h
      by_cases hx : x = 1
      · rw [if_pos (by simpa using hx), List.length_cons] at h
        have hm : ∃ y, y ∈ l.filter fun k => decide (k = 1) := List.exists_mem_of_length_pos (by omega)
        obtain ⟨y, hy⟩ := hm
        obtain ⟨h1, h2⟩ := List.mem_filter.1 hy
        obtain ⟨j, hj, e⟩ := List.mem_iff_getElem.1 h1
        refine ⟨0, j + 1, by omega, by simpa using hj, by simpa using hx, ?_⟩
        have e3 : (x :: l).getD (j + 1) 0 = l[j] := by simp [List.getD_eq_getElem?_getD, hj]
        rw [e3, e]; simpa using h2
      · rw [if_neg (by simpa using hx)] at h
        obtain ⟨i, j, h1, h2, h3, h4⟩ := ih h
        exact ⟨i + 1, j + 1, by omega, by simpa using h2, by simpa using h3, by simpa using h4⟩
  obtain ⟨i, j, hij, hj, e1, e2⟩ := key l (by omega)
  obtain ⟨es, h⟩ := hok j hj
  rw [e2, show (1 : Int).toNat = 1 from rfl, okPre_tok, Bool.and_eq_true] at h
  have hh : hap (((l.map Int.toNat).map (fun x => (w, x))).take j) w ((1 : Nat) : Int) = true := by
    refine hap_hit (i := i) (by simp; omega) ?_
    have hi : i < l.length := by omega
    have e3 : l.getD i 0 = l[i] := by rw [List.getD_eq_getElem?_getD, List.getElem?_eq_getElem hi]; rfl
    have e4 : l[i] = 1 := e3 ▸ e1
    simp [hit, e4]
  have h2 := h.2
  have h3 : hap (es ++ ((l.map Int.toNat).map (fun x => (w, x))).take j) w ((1 : Nat) : Int) = true := by
    unfold hap at hh ⊢
    rw [List.any_append, hh, Bool.or_true]
  rw [h3] at h2
  cases h2
theorem pf_once {late : Bool} {p0 p1 : List Int} {ts : List (List Int)} (h : pfault late p0 p1 ts = 0) : (p0.filter fun k => decide (k = 1)).length ≤ 1 ∧ (p1.filter fun k => decide (k = 1)).length ≤ 1 := by
  unfold pfault at h
  by_cases h0 : ts.length = 0 ∨ 5 < ts.length
  · rw [if_pos h0] at h; cases h
  rw [if_neg h0] at h
  by_cases h1 : first1 (p0 :: p1 :: ts) = 0
  · rw [if_pos h1, fin3] at h
    have hA : allOk (evL late (p0.map Int.toNat) (p1.map Int.toNat) (ts.map fun t => t.map Int.toNat)) = true := by
      cases e : allOk (evL late (p0.map Int.toNat) (p1.map Int.toNat) (ts.map fun t => t.map Int.toNat)) with
      | true => rfl
      | false => rw [e] at h; cases h
    rw [allOk, List.all_eq_true] at hA
    have at_ : ∀ (a : Nat) (l : List Int), a < 2 → (evL late (p0.map Int.toNat) (p1.map Int.toNat) (ts.map fun t => t.map Int.toNat)).getD a [] = (l.map Int.toNat).map (fun x => (a, x)) → (l.filter fun k => decide (k = 1)).length ≤ 1 := fun a l ha hl => by
      refine once_one (w := a) fun j hj => ?_
      have h2 := hA a (by rw [List.mem_range]; simp [evL]; omega)
      rw [List.all_eq_true] at h2
      have h3 := h2 j (by rw [List.mem_range, hl]; simpa using hj)
      rw [okAt, if_pos ha, uptoE, hl] at h3
      have e : ((l.map Int.toNat).map (fun x => (a, x))).getD j (0, 0) = (a, (l.getD j 0).toNat) := by simp [List.getD_eq_getElem?_getD, hj]
      rw [e] at h3
      exact ⟨_, h3⟩
    exact ⟨at_ 0 p0 (by decide) rfl, at_ 1 p1 (by decide) rfl⟩
  · rw [if_neg h1] at h; exact absurd h h1
theorem lfC_len (l : List TT) : (lfC l).length = l.length * 4 := by
  induction l with
  | nil => rfl
  | cons t l ih =>
    have : (lfC (t :: l)).length = 4 + (lfC l).length := by unfold lfC; rw [List.flatMap_cons, List.length_append]; rfl
    rw [this, ih, List.length_cons]; omega
theorem agF_at {k : Int} (h3 : 3 ≤ k) (h6 : k ≤ 6) : (([0, 0, 0, 3, 3, 1, 1].map fun n : Nat => ii n).toArray.toList)[k.toNat]? = some (ii (agF k)) := by
  have : k = 3 ∨ k = 4 ∨ k = 5 ∨ k = 6 := by omega
  rcases this with rfl | rfl | rfl | rfl <;> rfl
theorem agO_at {k : Int} (h3 : 3 ≤ k) (h6 : k ≤ 6) : (([0, 0, 0, 4, 2, 4, 2].map fun n : Nat => ii n).toArray.toList)[k.toNat]? = some (ii (agO k)) := by
  have : k = 3 ∨ k = 4 ∨ k = 5 ∨ k = 6 := by omega
  rcases this with rfl | rfl | rfl | rfl <;> rfl
theorem pf_toks {late : Bool} {p0 p1 : List Int} {ts : List (List Int)} (h : pfault late p0 p1 ts = 0) {i j : Nat} (hi : i < ts.length) (hj : j < (ts.getD i []).length) : 1 ≤ (ts.getD i []).getD j 0 ∧ (ts.getD i []).getD j 0 ≤ 7 := by
  unfold pfault at h
  by_cases h0 : ts.length = 0 ∨ 5 < ts.length
  · rw [if_pos h0] at h; cases h
  rw [if_neg h0] at h
  by_cases h1 : first1 (p0 :: p1 :: ts) = 0
  · have hm : ts.getD i [] ∈ ts := by
      rw [List.getD_eq_getElem?_getD, List.getElem?_eq_getElem hi]; exact List.getElem_mem hi
    have hw := (first1_zero h1 _ (List.mem_cons_of_mem _ (List.mem_cons_of_mem _ hm))).2
    generalize ts.getD i [] = l at hj hw ⊢
    rw [List.any_eq_false] at hw
    have := hw (l[j]) (List.getElem_mem hj)
    have e : l.getD j 0 = l[j] := by rw [List.getD_eq_getElem?_getD, List.getElem?_eq_getElem hj]; rfl
    rw [e]
    unfold wrong at this
    simp only [Bool.or_eq_true, decide_eq_true_eq, not_or] at this
    omega
  · rw [if_neg h1] at h; exact absurd h h1
theorem leaf_say {sec : Bool} {side : Nat} {s : WS} {k : Int} (h : ∀ t ∈ s.mixed, t.args = []) : ∀ t ∈ (s.say sec side k).mixed, t.args = [] := by
  have sn : ∀ x : TT, x.args = [] → ∀ t ∈ s.mixed ++ [x], t.args = [] := fun x hx t ht => by
    rcases List.mem_append.1 ht with ht | ht
    · exact h t ht
    · rw [List.mem_singleton.1 ht]; exact hx
  by_cases h1 : k = 1
  · rw [say_e h1]; cases sec
    · exact h
    · exact sn _ rfl
  by_cases h2 : k = 2
  · rw [say_s h1 h2]; exact h
  by_cases h7 : k = 7
  · rw [say_p h1 h2 h7]; exact sn _ rfl
  · rw [say_m h1 h2 h7]; exact sn _ rfl
theorem leaf_turn {sec : Bool} {side : Nat} : ∀ (l : List Int) {s : WS}, (∀ t ∈ s.mixed, t.args = []) → ∀ t ∈ (s.turn sec side l).mixed, t.args = []
  | [], _, h => h
  | _ :: l, _, h => leaf_turn l (leaf_say h)
theorem leaf_upTo {sec late : Bool} {s : WS} {ts : List (List Int)} (h : ∀ t ∈ s.mixed, t.args = []) : ∀ i, ∀ t ∈ (WS.upTo sec late s ts i).mixed, t.args = []
  | 0 => h
  | i + 1 => leaf_turn (s := WS.upTo sec late s ts i) _ (leaf_upTo h i)
theorem upTo_mix {sec late : Bool} {s : WS} {ts : List (List Int)} {i j : Nat} (hz : j = (ts.getD i []).length) : (WS.upTo sec late s ts (i + 1)).mixed = ((WS.upTo sec late s ts i).turn sec (whoT late i) ((ts.getD i []).take j)).mixed := by rw [hz, List.take_length]; rfl
theorem upTo_use {sec late : Bool} {s : WS} {ts : List (List Int)} {i j : Nat} (hz : j = (ts.getD i []).length) : (WS.upTo sec late s ts (i + 1)).used = ((WS.upTo sec late s ts i).turn sec (whoT late i) ((ts.getD i []).take j)).used := by rw [hz, List.take_length]; rfl
theorem out_step {e : TypeId} {G : Mem} {sec late : Bool} {s : WS} {ts : List (List Int)} {i j : Nat} {c : Array Value} {o : Option Blk} (hz : j = (ts.getD i []).length) (h : OutIs e G (((WS.upTo sec late s ts i).turn sec (whoT late i) ((ts.getD i []).take j)).tell (atomT ((20 + i : Nat) : Int))).told c o) : OutIs e G (WS.upTo sec late s ts (i + 1)).told c o := by
  rw [hz, List.take_length] at h; exact h
section
variable {G : Mem} {M : Mm} {i j k : Nat}
theorem off3_cons {x : Blk} {A : Mem} (q : Nat) (h : lkM M q = some x) (hq : q ≠ i ∧ q ≠ j ∧ q ≠ k) (hA : ∀ z ∈ A, z ∈ G ∨ ∃ q, (q ≠ i ∧ q ≠ j ∧ q ≠ k) ∧ lkM M q = some z) : ∀ z ∈ x :: A, z ∈ G ∨ ∃ q, (q ≠ i ∧ q ≠ j ∧ q ≠ k) ∧ lkM M q = some z := fun z hz => by
  rcases List.mem_cons.1 hz with rfl | hz
  · exact .inr ⟨q, hq, h⟩
  · exact hA z hz
theorem off3_opt {o : Option Blk} {A : Mem} (q : Nat) (h : lkM M q = o) (hq : q ≠ i ∧ q ≠ j ∧ q ≠ k) (hA : ∀ z ∈ A, z ∈ G ∨ ∃ q, (q ≠ i ∧ q ≠ j ∧ q ≠ k) ∧ lkM M q = some z) : ∀ z ∈ o.toList ++ A, z ∈ G ∨ ∃ q, (q ≠ i ∧ q ≠ j ∧ q ≠ k) ∧ lkM M q = some z := fun z hz => by
  rcases List.mem_append.1 hz with hz | hz
  · exact .inr ⟨q, hq, h.trans (by simpa using hz)⟩
  · exact hA z hz
end
end Go.Proofs.Ytfldnikepdbgkaa
namespace Go.Proofs.Ytfldnikepdbgkaa
open Go Go.RowKit
section
variable {P : Program} {G : Mem} {R : Reg} {ops : Array Oper} {K : Act → Mem → Prop} {rest : List Oper} {a : Act} {m : Mem} {d : Option Tmp} {ty T T' : TypeId} {pos : String} {aft : Array Edge} {x y : Operand}
end
section
variable {P : Program} {G : Mem} {R : Reg} {ops : Array Oper} {n : Nat} {K : Env → Mm → Prop} {rest : List Oper} {E : Env} {M : Mm} {d : Nat} {ty T T' : TypeId} {pos : String} {aft : Array Edge} {x y : Operand}
end
end Go.Proofs.Ytfldnikepdbgkaa
/-
  Facts on this program's types, in tables.
-/
namespace Go.Proofs.Ytfldnikepdbgkaa
open Go Go.RowKit
def lkT {α : Type} : List (Nat × α) → Nat → Option α
  | [], _ => none
  | (k, a) :: l, t => bif Nat.beq k t then some a else lkT l t
theorem lkT_map {α : Type} {f : Nat → Option α} : ∀ {L : List (Nat × α)} {t : Nat} {d : α}, L.map (fun p => f p.1) = L.map (fun p => some p.2) → lkT L t = some d → f t = some d
  | [], _, _, _, h => by cases h
  | (k, a) :: L, t, d, h, hk => by
    rw [List.map_cons, List.map_cons, List.cons.injEq] at h
    unfold lkT at hk
    cases hb : Nat.beq k t with
    | true => rw [hb] at hk; rw [← Nat.eq_of_beq_eq_true hb, h.1]; exact hk
    | false => rw [hb] at hk; exact lkT_map h.2 hk
theorem mixed : Try.prog.follows .mixedOrders = true := by kernel_rfl
def tbu : List (Nat × TypeDesc) := [(3, (.int .i64)), (4, (.bool)), (22, (.slice 3)), (23, (.array 2 22)), (24, (.slice 22)), (26, (.struct #[.mk "Base" 9 0 false "" "" 0, .mk "Late" 4 1 false "" "" 16, .mk "Psks" 22 2 false "" "" 24, .mk "Pre" 23 3 false "" "" 48, .mk "Turns" 24 5 false "" "" 96])), (27, (.slice 39)), (39, (.struct #[.mk "Kind" 3 0 false "" "" 0, .mk "Id" 3 1 false "" "" 8, .mk "Other" 3 2 false "" "" 16, .mk "Args" 27 3 false "" "" 24])), (40, (.func #[3] #[39] false)), (50, (.struct #[.mk "secured" 4 0 false "" "signet/trace" 0, .mk "told" 27 1 false "" "signet/trace" 8, .mk "mixed" 27 2 false "" "signet/trace" 32, .mk "used" 3 3 false "" "signet/trace" 56])), (52, (.slice 55)), (55, (.struct #[.mk "who" 3 0 false "" "signet/signetref" 0, .mk "token" 3 1 false "" "signet/signetref" 8])), (62, (.slice 27)), (68, (.func #[39] #[4] false)), (69, (.array 3 4)), (70, (.array 2 69)), (71, (.array 8 4)), (73, (.struct #[.mk "keys" 70 0 false "" "signet/pattern" 0, .mk "been" 71 6 false "" "signet/pattern" 6])), (93, (.array 2 3))]
theorem tbu_ok : tbu.map (fun p => (fun t => Try.prog.underlying t) p.1) = tbu.map (fun p => some p.2) := by kernel_rfl
set_option maxRecDepth 100000 in
theorem Tu {T : TypeId} {d : TypeDesc} (h : lkT tbu T = some d) : Try.prog.underlying T = some d := lkT_map (L := tbu) (f := fun t => Try.prog.underlying t) tbu_ok h
theorem Uu (T : TypeId) {d : TypeDesc} (h : lkT tbu T = some d := by rfl) : Try.prog.underlying T = some d := Tu h
def tbz : List (Nat × Nat) := [(3, 1), (4, 1), (22, 1), (23, 2), (24, 1), (26, 6), (27, 1), (39, 4), (40, 1), (50, 4), (55, 2), (68, 1), (69, 3), (70, 6), (71, 8), (93, 2)]
theorem tbz_ok : tbz.map (fun p => (fun t => (Try.prog.info? t).map (·.size)) p.1) = tbz.map (fun p => some p.2) := by kernel_rfl
set_option maxRecDepth 100000 in
theorem Tz {T : TypeId} {d : Nat} (h : lkT tbz T = some d) : (Try.prog.info? T).map (·.size) = some d := lkT_map (L := tbz) (f := fun t => (Try.prog.info? t).map (·.size)) tbz_ok h
theorem Uz (T : TypeId) {d : Nat} (h : lkT tbz T = some d := by rfl) : (Try.prog.info? T).map (·.size) = some d := Tz h
def tby : List (Nat × Nat) := [(3, 8), (22, 24), (39, 48), (55, 16)]
theorem tby_ok : tby.map (fun p => (fun t => (Try.prog.info? t).map (·.bytes)) p.1) = tby.map (fun p => some p.2) := by kernel_rfl
set_option maxRecDepth 100000 in
theorem Ty {T : TypeId} {d : Nat} (h : lkT tby T = some d) : (Try.prog.info? T).map (·.bytes) = some d := lkT_map (L := tby) (f := fun t => (Try.prog.info? t).map (·.bytes)) tby_ok h
theorem Uy (T : TypeId) {d : Nat} (h : lkT tby T = some d := by rfl) : (Try.prog.info? T).map (·.bytes) = some d := Ty h
def tbb : List (Nat × Value) := [(3, (.int .i64 0)), (22, (.slice none 0 0)), (27, (.slice none 0 0)), (39, (.agg (cells 4 [pV (.int .i64 0), pV (.int .i64 0), pV (.int .i64 0), pV (.slice none 0 0)]))), (40, .nilFunc), (50, (.agg (cells 4 [pV (.bool false), pV (.slice none 0 0), pV (.slice none 0 0), pV (.int .i64 0)]))), (55, (.agg (arr .i64 2 fun _ => 0))), (68, .nilFunc), (73, (.agg (arrv 14 fun _ => .bool false))), (93, (.agg (arr .i64 2 fun _ => 0)))]
theorem tbb_ok : tbb.map (fun p => (fun t => (Try.prog.info? t).bind (·.zero)) p.1) = tbb.map (fun p => some p.2) := by kernel_rfl
set_option maxRecDepth 100000 in
theorem Tb {T : TypeId} {d : Value} (h : lkT tbb T = some d) : (Try.prog.info? T).bind (·.zero) = some d := lkT_map (L := tbb) (f := fun t => (Try.prog.info? t).bind (·.zero)) tbb_ok h
theorem Ub (T : TypeId) {d : Value} (h : lkT tbb T = some d := by rfl) : (Try.prog.info? T).bind (·.zero) = some d := Tb h
def tbn : List Nat := [5, 6, 7, 10, 11, 12, 13, 14, 15, 16, 17, 18, 19, 20, 21, 22, 23, 24, 26, 27, 28, 29, 30, 31, 32, 33, 34, 35, 36, 37, 38, 39, 40, 41, 42, 49, 50, 51, 52, 53, 54, 55, 56, 57, 58, 59, 60, 61, 62, 63, 64, 65, 66, 67, 68, 70, 71, 72, 73, 74, 75, 76, 77, 78, 79, 80, 81]
theorem tbn_ok : tbn.all (fun f => enters Try.prog f) = true := by kernel_rfl
theorem Un (f : FuncId) (h : tbn.contains f = true := by rfl) : enters Try.prog f = true := List.all_eq_true.1 tbn_ok f (List.contains_iff_mem.1 h)
end Go.Proofs.Ytfldnikepdbgkaa
/-
  Rules with short names.
-/
namespace Go.Proofs.Ytfldnikepdbgkaa
open Go Go.RowKit
variable {G : Mem} {R : Reg} {ops : Array Oper} {n : Nat} {K : Env → Mm → Prop} {Q : Exit → Env → Mm → Prop} {rest : List Oper} {E : Env} {M : Mm} {d : Nat} {ty : TypeId} {pos : String} {aft : Array Edge} {T : TypeId} {T' : TypeId} {x : Operand} {y : Operand}
theorem Qs {c : Code} {c' : Code} : (SatE Try.prog G c n (thenE (SatE Try.prog G c' n Q) Q) E M) → SatE Try.prog G (.seq c c') n Q E M := fun h => e_seq h
theorem Qp {id : Nat} : (OpsE Try.prog G noReg ops n (Q .normal) ops.toList E M) → SatE Try.prog G (.region id ops false) n Q E M := fun h => e_plain h
theorem Qn : (K E M) → OpsE Try.prog G R ops n K [] E M := fun h => e_nil h
theorem Qk : (Q .normal E M) → SatE Try.prog G .skip n Q E M := fun h => e_skip h
theorem Qb {id : Nat} {c : Code} : (SatE Try.prog G c n (inBlockE id Q) E M) → SatE Try.prog G (.block id c) n Q E M := fun h => e_block h
theorem Qe {id : Nat} : (Q (.exit id) E M) → SatE Try.prog G (.exit id) n Q E M := fun h => e_exit h
theorem Qr : (Q .ret E M) → SatE Try.prog G .ret n Q E M := fun h => e_ret h
theorem Qm {v : Value} (hx : rd E x = some v := by rfl) (hd : Nat.blt d n = true := by rfl) : (OpsE Try.prog G R ops n K rest ((d, v) :: E) M) → OpsE Try.prog G R ops n K (⟨some d, .move x, ty, pos, aft, none⟩ :: rest) E M := fun h => e_move hx hd h
theorem Qa {v : Value} (hx : rd E x = some v := by rfl) (hd : Nat.blt d n = true := by rfl) : (OpsE Try.prog G R ops n K rest ((d, v) :: E) M) → OpsE Try.prog G R ops n K (⟨some d, .assign x, ty, pos, aft, none⟩ :: rest) E M := fun h => e_assign hx hd h
theorem Qx {i : Nat} {vs : Array Value} {v : Value} (hx : rd E x = some (.tuple vs) := by rfl) (hv : vs[i]? = some v := by rfl) (hd : Nat.blt d n = true := by rfl) : (OpsE Try.prog G R ops n K rest ((d, v) :: E) M) → OpsE Try.prog G R ops n K (⟨some d, .extract x i, ty, pos, aft, none⟩ :: rest) E M := fun h => e_extract hx hv hd h
theorem Qy {dd : Option Tmp} {op : Op} {g : Nat} {s : Nat} {want : Bool} {b : Bool} (hg : (ops[g]?).bind (·.dst) = some s := by rfl) (hb : lk E s = some (.bool b) := by rfl) (hw : b = want := by rfl) : (OpsE Try.prog G R ops n K (⟨dd, op, ty, pos, aft, none⟩ :: rest) E M) → OpsE Try.prog G R ops n K (⟨dd, op, ty, pos, aft, some (g, want)⟩ :: rest) E M := fun h => e_yes hg hb hw h
theorem Qo {op : Op} {g : Nat} {s : Nat} {want : Bool} {b : Bool} (hg : (ops[g]?).bind (·.dst) = some s := by rfl) (hb : lk E s = some (.bool b) := by rfl) (hw : b ≠ want := by decide) (hd : Nat.blt d n = true := by rfl) : (OpsE Try.prog G R ops n K rest ((d, undef) :: E) M) → OpsE Try.prog G R ops n K (⟨some d, op, ty, pos, aft, some (g, want)⟩ :: rest) E M := fun h => e_no hg hb hw hd h
theorem Qw {op : Op} {g : Nat} {s : Nat} {want : Bool} (hg : (ops[g]?).bind (·.dst) = some s := by rfl) (hb : lk E s = some undef := by rfl) (hd : Nat.blt d n = true := by rfl) : (OpsE Try.prog G R ops n K rest ((d, undef) :: E) M) → OpsE Try.prog G R ops n K (⟨some d, op, ty, pos, aft, some (g, want)⟩ :: rest) E M := fun h => e_no2 hg hb hd h
theorem QT {p : Operand} {q : Operand} {r : Operand} {t : Bool} {v : Value} (hc : rd E p = some (.bool t) := by rfl) (ht : t = true := by rfl) (hv : rd E q = some v := by rfl) (hd : Nat.blt d n = true := by rfl) : (OpsE Try.prog G R ops n K rest ((d, v) :: E) M) → OpsE Try.prog G R ops n K (⟨some d, .pick p q r, ty, pos, aft, none⟩ :: rest) E M := fun h => e_pickT hc ht hv hd h
theorem QF {p : Operand} {q : Operand} {r : Operand} {t : Bool} {v : Value} (hc : rd E p = some (.bool t) := by rfl) (ht : t = false := by rfl) (hv : rd E r = some v := by rfl) (hd : Nat.blt d n = true := by rfl) : (OpsE Try.prog G R ops n K rest ((d, v) :: E) M) → OpsE Try.prog G R ops n K (⟨some d, .pick p q r, ty, pos, aft, none⟩ :: rest) E M := fun h => e_pickF hc ht hv hd h
theorem Qg {id : Nat} (hm : Try.prog.follows .mixedOrders = true := by exact mixed) (hok : orderOk noReg ops (List.range ops.size) = true := by kernel_rfl) : (OpsE Try.prog G noReg ops n (Q .normal) ops.toList E M) → SatE Try.prog G (.region id ops true) n Q E M := fun h => e_draw hm hok h
theorem QR {id : Nat} (R : Reg) : (OpsE Try.prog G R ops n (Q .normal) ops.toList E M) → SatE Try.prog G (.region id ops false) n Q E M := fun h => e_plainR R h
theorem Qq {id : Nat} (R : Reg) (hm : Try.prog.follows .mixedOrders = true := by exact mixed) (hok : orderOk R ops (List.range ops.size) = true := by kernel_rfl) : (OpsE Try.prog G R ops n (Q .normal) ops.toList E M) → SatE Try.prog G (.region id ops true) n Q E M := fun h => e_drawR R hm hok h
theorem Ql {k : IntKind} {p : Int} {q : Int} (hx : rd E x = some (.int k p) := by rfl) (hy : rd E y = some (.int k q) := by rfl) (hd : Nat.blt d n = true := by rfl) : (OpsE Try.prog G R ops n K rest ((d, .bool (decide (p < q))) :: E) M) → OpsE Try.prog G R ops n K (⟨some d, .binOp .lss T x y T', ty, pos, aft, none⟩ :: rest) E M := fun h => e_lt hx hy hd h
theorem QG {k : IntKind} {p : Int} {q : Int} (hx : rd E x = some (.int k p) := by rfl) (hy : rd E y = some (.int k q) := by rfl) (hd : Nat.blt d n = true := by rfl) : (OpsE Try.prog G R ops n K rest ((d, .bool (decide (q < p))) :: E) M) → OpsE Try.prog G R ops n K (⟨some d, .binOp .gtr T x y T', ty, pos, aft, none⟩ :: rest) E M := fun h => e_gt hx hy hd h
theorem QE {k : IntKind} {p : Int} {q : Int} (hx : rd E x = some (.int k p) := by rfl) (hy : rd E y = some (.int k q) := by rfl) (hd : Nat.blt d n = true := by rfl) : (OpsE Try.prog G R ops n K rest ((d, .bool (decide (q ≤ p))) :: E) M) → OpsE Try.prog G R ops n K (⟨some d, .binOp .geq T x y T', ty, pos, aft, none⟩ :: rest) E M := fun h => e_ge hx hy hd h
theorem Qc {k : IntKind} {p : Int} {q : Int} (hx : rd E x = some (.int k p) := by rfl) (hy : rd E y = some (.int k q) := by rfl) (hd : Nat.blt d n = true := by rfl) : (OpsE Try.prog G R ops n K rest ((d, .bool (decide (p = q))) :: E) M) → OpsE Try.prog G R ops n K (⟨some d, .binOp .eql T x y T', ty, pos, aft, none⟩ :: rest) E M := fun h => e_eq hx hy hd h
theorem QN {k : IntKind} {p : Int} {q : Int} (hx : rd E x = some (.int k p) := by rfl) (hy : rd E y = some (.int k q) := by rfl) (hd : Nat.blt d n = true := by rfl) : (OpsE Try.prog G R ops n K rest ((d, .bool (decide (p ≠ q))) :: E) M) → OpsE Try.prog G R ops n K (⟨some d, .binOp .neq T x y T', ty, pos, aft, none⟩ :: rest) E M := fun h => e_ne hx hy hd h
theorem Q0 {b : Bool} (hx : rd E x = some (.bool b) := by rfl) (hd : Nat.blt d n = true := by rfl) : (OpsE Try.prog G R ops n K rest ((d, .bool (!b)) :: E) M) → OpsE Try.prog G R ops n K (⟨some d, .unOp .not T x, ty, pos, aft, none⟩ :: rest) E M := fun h => e_not hx hd h
theorem QD {b : Nat} {l : Nat} {c : Array Value} {t : TypeId} {td : TypeDesc} (i : Nat) (hT : Try.prog.underlying T = some td := by exact Tu rfl) (hn : rowLike td = true := by rfl) (hs : (Try.prog.info? T).map (·.size) = some l := by exact Tz rfl) (hx : rd E x = some (.pointer (some ⟨b, 0, none⟩)) := by rfl) (hm : lkM M i = some ⟨b, c, t⟩ := by rfl) (hl : c.size = l := by exact (arrv_size _ _)) (hd : Nat.blt d n = true := by rfl) (hX : ∃ js, okXL M i js R := by exact ⟨[], trivial⟩) : (OpsE Try.prog G R ops n K rest ((d, .agg c) :: E) M) → OpsE Try.prog G R ops n K (⟨some d, .load T x, ty, pos, aft, none⟩ :: rest) E M := fun h => e_loadA (i := i) hT hn hs hx hm hl hd hX h
theorem Q1 {b : Nat} {o : Nat} {c : Array Value} {t : TypeId} {v : Value} {td : TypeDesc} (i : Nat) (hT : Try.prog.underlying T = some td := by exact Tu rfl) (hn : rowLike td = false := by rfl) (hx : rd E x = some (.pointer (some ⟨b, o, none⟩)) := by rfl) (hm : lkM M i = some ⟨b, c, t⟩ := by rfl) (hc : c[o]? = some v := by exact (arr_get (by omega))) (hd : Nat.blt d n = true := by rfl) (hX : ∃ js, okXL M i js R := by exact ⟨[], trivial⟩) : (OpsE Try.prog G R ops n K rest ((d, v) :: E) M) → OpsE Try.prog G R ops n K (⟨some d, .load T x, ty, pos, aft, none⟩ :: rest) E M := fun h => e_load1 (i := i) hT hn hx hm hc hd hX h
theorem Qt {b : Nat} {l : Nat} {c : Array Value} {c' : Array Value} {t : TypeId} (i : Nat) (hs : (Try.prog.info? T).map (·.size) = some l := by exact Tz rfl) (hx : rd E x = some (.pointer (some ⟨b, 0, none⟩)) := by rfl) (hy : rd E y = some (.agg c') := by rfl) (hl : c'.size = l := by exact (arr_size _ _ _)) (hv : ∀ v ∈ c', v.oneCell' = true := by exact arr_one) (hm : lkM M i = some ⟨b, c, t⟩ := by rfl) (ho : c'.size = c.size := by exact (arr_sz _ _ _ _ _)) (hX : R.X = [] ∨ b ∈ R.X := by exact (.inl rfl)) (hY : R.Y = none := by rfl) : (OpsE Try.prog G R ops n K rest E ((i, some ⟨b, c', t⟩) :: M)) → OpsE Try.prog G R ops n K (⟨none, .store T x y, ty, pos, aft, none⟩ :: rest) E M := fun h => e_storeA (i := i) hs hx hy hl hv hm ho hX h
theorem Qf {b : Nat} {o : Nat} {f : Nat} {sz : Nat} {fs : Array Field} {fd : Field} (o' : Nat) (hT : Try.prog.underlying T = some (.struct fs) := by exact Tu rfl) (hf : fs[f]? = some fd := by rfl) (hs : (Try.prog.info? fd.type).map (·.size) = some (sz + 1) := by exact Tz rfl) (hx : rd E x = some (.pointer (some ⟨b, o, none⟩)) := by rfl) (ho : o + fd.offset = o' := by rfl) (hd : Nat.blt d n = true := by rfl) : (OpsE Try.prog G R ops n K rest ((d, .pointer (some ⟨b, o', none⟩)) :: E) M) → OpsE Try.prog G R ops n K (⟨some d, .fieldAddr T x f, ty, pos, aft, none⟩ :: rest) E M := fun h => e_fld o' hT hf hs hx ho hd h
theorem Qi {b : Nat} {j : Nat} {l : Nat} {k : IntKind} {e : TypeId} (hT : Try.prog.underlying T = some (.array l e) := by exact Tu rfl) (hs : (Try.prog.info? e).map (·.size) = some 1 := by exact Tz rfl) (hx : rd E x = some (.pointer (some ⟨b, 0, none⟩)) := by rfl) (hy : rd E y = some (.int k (j : Int)) := by rfl) (hj : j < l := by omega) (hd : Nat.blt d n = true := by rfl) : (OpsE Try.prog G R ops n K rest ((d, .pointer (some ⟨b, j, none⟩)) :: E) M) → OpsE Try.prog G R ops n K (⟨some d, .indexAddr T x y, ty, pos, aft, none⟩ :: rest) E M := fun h => e_index0 hT hs hx hy hj hd h
theorem Qj {b : Nat} {l : Nat} {k : IntKind} {e : TypeId} (j : Nat) (hT : Try.prog.underlying T = some (.array l e) := by exact Tu rfl) (hs : (Try.prog.info? e).map (·.size) = some 1 := by exact Tz rfl) (hx : rd E x = some (.pointer (some ⟨b, 0, none⟩)) := by rfl) (hy : rd E y = some (.int k (j : Int)) := by rfl) (hj : j < l := by omega) (hd : Nat.blt d n = true := by rfl) : (OpsE Try.prog G R ops n K rest ((d, .pointer (some ⟨b, j, none⟩)) :: E) M) → OpsE Try.prog G R ops n K (⟨some d, .indexAddr T x y, ty, pos, aft, none⟩ :: rest) E M := fun h => e_index0 (j := j) hT hs hx hy hj hd h
theorem QA {b : Nat} {o : Nat} {l : Nat} {z : Nat} {k : IntKind} {e : TypeId} (o' : Nat) (j : Nat) (hT : Try.prog.underlying T = some (.array l e) := by exact Tu rfl) (hs : (Try.prog.info? e).map (·.size) = some (z + 1) := by exact Tz rfl) (hx : rd E x = some (.pointer (some ⟨b, o, none⟩)) := by rfl) (hy : rd E y = some (.int k (j : Int)) := by rfl) (hj : j < l := by omega) (ho : o + j * (z + 1) = o' := by omega) (hd : Nat.blt d n = true := by rfl) : (OpsE Try.prog G R ops n K rest ((d, .pointer (some ⟨b, o', none⟩)) :: E) M) → OpsE Try.prog G R ops n K (⟨some d, .indexAddr T x y, ty, pos, aft, none⟩ :: rest) E M := fun h => e_at (j := j) o' hT hs hx hy hj ho hd h
theorem QB {b : Nat} {o : Nat} {j : Nat} {l : Nat} {z : Nat} {k : IntKind} {e : TypeId} (o' : Nat) (hT : Try.prog.underlying T = some (.array l e) := by exact Tu rfl) (hs : (Try.prog.info? e).map (·.size) = some (z + 1) := by exact Tz rfl) (hx : rd E x = some (.pointer (some ⟨b, o, none⟩)) := by rfl) (hy : rd E y = some (.int k (j : Int)) := by rfl) (hj : j < l := by omega) (ho : o + j * (z + 1) = o' := by omega) (hd : Nat.blt d n = true := by rfl) : (OpsE Try.prog G R ops n K rest ((d, .pointer (some ⟨b, o', none⟩)) :: E) M) → OpsE Try.prog G R ops n K (⟨some d, .indexAddr T x y, ty, pos, aft, none⟩ :: rest) E M := fun h => e_at o' hT hs hx hy hj ho hd h
theorem Qh {v : Value} (i : Nat) (hx : rd E x = some v := by rfl) (hd : Nat.blt d n = true := by rfl) : (∀ r, OpsE Try.prog G R ops n K rest ((d, ptr r) :: E) ((i, some ⟨r, v.cells, T⟩) :: M)) → OpsE Try.prog G R ops n K (⟨some d, .box T x, ty, pos, aft, none⟩ :: rest) E M := fun h => e_box i hx hd h
theorem QH {z : Value} (i : Nat) (hz : (Try.prog.info? T).bind (·.zero) = some z := by exact Tb rfl) (hd : Nat.blt d n = true := by rfl) : (∀ r, OpsE Try.prog G R ops n K rest ((d, ptr r) :: E) ((i, some ⟨r, z.cells, T⟩) :: M)) → OpsE Try.prog G R ops n K (⟨some d, .alloc T, ty, pos, aft, none⟩ :: rest) E M := fun h => e_alloc i hz hd h
theorem QV {b : Nat} {o : Nat} {N : Nat} {v : Value} {ps : List Part} {t : TypeId} {td : TypeDesc} (k : Nat) (i : Nat) (hT : Try.prog.underlying T = some td := by exact Tu rfl) (hn : rowLike td = false := by rfl) (hx : rd E x = some (.pointer (some ⟨b, o, none⟩)) := by rfl) (hm : lkM M i = some ⟨b, cells N ps, t⟩ := by rfl) (hk : catAt ps k = some (o, pV v) := by rfl) (hN : o < N := by decide) (hd : Nat.blt d n = true := by rfl) (hX : ∃ js, okXL M i js R := by exact ⟨[], trivial⟩) : (OpsE Try.prog G R ops n K rest ((d, v) :: E) M) → OpsE Try.prog G R ops n K (⟨some d, .load T x, ty, pos, aft, none⟩ :: rest) E M := fun h => e_ldV1 (i := i) k hT hn hx hm hk hN hd hX h
theorem Q2 {p : Nat} (q : Nat) (hx : rd E x = some (ii p) := by rfl) (hy : rd E y = some (ii q) := by rfl) (hd : Nat.blt d n = true := by rfl) (hb : p + q < 9223372036854775808 := by omega) : (OpsE Try.prog G R ops n K rest ((d, ii (p + q)) :: E) M) → OpsE Try.prog G R ops n K (⟨some d, .binOp .add T x y T', ty, pos, aft, none⟩ :: rest) E M := fun h => e_add_i (q := q) hx hy hd hb h
theorem Q4 {p : Nat} (q : Nat) (hx : rd E x = some (ii p) := by rfl) (hy : rd E y = some (ii q) := by rfl) (hd : Nat.blt d n = true := by rfl) (hq : 0 < q := by omega) : (OpsE Try.prog G R ops n K rest ((d, ii (p % q)) :: E) M) → OpsE Try.prog G R ops n K (⟨some d, .binOp .rem T x y T', ty, pos, aft, none⟩ :: rest) E M := fun h => e_rem_i (q := q) hx hy hd hq h
theorem QY {fn : Go.Fn} {fs : Array Operand} {cs : Array Operand} {vf : List Value} {vc : List Value} (h1 : rdl E fs.toList = some vf := by rfl) (h2 : rdl E cs.toList = some vc := by rfl) (hd : Nat.blt d n = true := by rfl) : (OpsE Try.prog G R ops n K rest ((d, .func fn vf.toArray vc.toArray) :: E) M) → OpsE Try.prog G R ops n K (⟨some d, .makeFunc fn fs cs, ty, pos, aft, none⟩ :: rest) E M := fun h => e_func h1 h2 hd h
theorem QC {e : TypeId} {v : Value} {B : Mem} {z : Nat} {k : Nat} {xs : List Value} (hv : Shows B z v k xs) (hT : Try.prog.underlying T = some (.slice e) := by exact Tu rfl) (hx : rd E x = some v := by rfl) (hd : Nat.blt d n = true := by rfl) (hR : callOk R = true := by rfl) : (OpsE Try.prog G R ops n K rest ((d, ii k) :: E) M) → OpsE Try.prog G R ops n K (⟨some d, .call ⟨.builtin .len, #[x], #[T]⟩, ty, pos, aft, none⟩ :: rest) E M := fun h => e_lenV hv hT hx hd hR h
theorem QS {l : List Oper} {s : Nat} {v : Value} {v' : Value} (hv : v = v' := by exact (congrArg (slAddr _) (Nat.mul_one _))) : (OpsE Try.prog G R ops n K l ((s, v') :: E) M) → OpsE Try.prog G R ops n K l ((s, v) :: E) M := fun h => e_as hv h
theorem Qat {l : List Oper} {s : Nat} {v : Value} {v' : Value} (hv : v = v' := by exact (congrArg Value.bool (decide_eq_true (by omega)))) : (OpsE Try.prog G R ops n K l ((s, v') :: E) M) → OpsE Try.prog G R ops n K l ((s, v) :: E) M := fun h => e_as hv h
theorem Qaf {l : List Oper} {s : Nat} {v : Value} {v' : Value} (hv : v = v' := by exact (congrArg Value.bool (decide_eq_false (by omega)))) : (OpsE Try.prog G R ops n K l ((s, v') :: E) M) → OpsE Try.prog G R ops n K l ((s, v) :: E) M := fun h => e_as hv h
theorem Qar {l : List Oper} {s : Nat} {v : Value} {v' : Value} (hv : v = v' := by exact (congrArg Value.bool (decide_eq_true rfl))) : (OpsE Try.prog G R ops n K l ((s, v') :: E) M) → OpsE Try.prog G R ops n K l ((s, v) :: E) M := fun h => e_as hv h
theorem Qct {c : Operand} {p : Code} {q : Code} (hc : rd E c = some (.bool true) := by rfl) : (SatE Try.prog G p n Q E M) → SatE Try.prog G (.cond c p q) n Q E M := fun h => e_condT hc h
theorem Qcf {c : Operand} {p : Code} {q : Code} (hc : rd E c = some (.bool false) := by rfl) : (SatE Try.prog G q n Q E M) → SatE Try.prog G (.cond c p q) n Q E M := fun h => e_condF hc h
theorem QzK {c : Code} (Ek : Env) (Mk : Mm) (I : Nat → Env → Mm → Prop) {E0 : Env} {M0 : Mm} {k : Nat} (h0 : I k E0 M0) (hs : sub (catE E0 Ek) E) (hl : subL (catL M0 Mk) M) (round : ∀ k E M, I k E M → SatE Try.prog G c n (thenE (fun E' M' => ∃ k' E'' M'', k' < k ∧ sub (catE E'' Ek) E' ∧ subL (catL M'' Mk) M' ∧ I k' E'' M'') Q) (catE E Ek) (catL M Mk)) : SatE Try.prog G (.loop c) n Q E M := e_loopK Ek Mk I E0 M0 k hs hl h0 round
theorem QzL {I : Nat → Env → Mm → Prop} {k k' : Nat} {Ek : Env} {Mk : Mm} {E' : Env} {M' : Mm} {E'' : Env} {M'' : Mm} (h : I k' E'' M'') (hs : sub (catE E'' Ek) E') (hl : subL (catL M'' Mk) M') (hk : k' < k) : ∃ k' E'' M'', k' < k ∧ sub (catE E'' Ek) E' ∧ subL (catL M'' Mk) M' ∧ I k' E'' M'' := ⟨_, _, _, hk, hs, hl, h⟩
theorem Qf1 {f : FuncId} {fn : Func} {c : Code} {vs : List Value} {v : Value} (hf : Try.prog.funcs[f]? = some fn) (h : SatE Try.prog G c n (End1 Try.prog fn v) (argE vs 0) []) (hb : fn.body = some c := by rfl) (hn : fn.ntmps = n := by rfl) (ha : vs.toArray.size ≤ n := by simp) : Fn Try.prog G f vs.toArray v := fn1 hf hb hn ha (argE vs 0) (argE_ok vs) h
theorem Qf2 {f : FuncId} {fn : Func} {c : Code} {vs : List Value} {v v' : Value} (hf : Try.prog.funcs[f]? = some fn) (h : SatE Try.prog G c n (End2 Try.prog fn v v') (argE vs 0) []) (hb : fn.body = some c := by rfl) (hn : fn.ntmps = n := by rfl) (ha : vs.toArray.size ≤ n := by simp) : Fn Try.prog G f vs.toArray (.tuple #[v, v']) := fn2 hf hb hn ha (argE vs 0) (argE_ok vs) h
theorem QfN {f : FuncId} {fn : Func} {c : Code} {vs : List Value} {e : TypeId} {z k : Nat} {xs : List Value} (hf : Try.prog.funcs[f]? = some fn) (h : SatE Try.prog G c n (EndN Try.prog e z k xs fn) (argE vs 0) []) (hb : fn.body = some c := by rfl) (hn : fn.ntmps = n := by rfl) (ha : vs.toArray.size ≤ n := by simp) : Fx Try.prog G [] f vs.toArray (fun v l1 nw => l1 = [] ∧ ∃ v', v = v' ∧ OwnS e z v' k xs nw) := fxN hf hb hn ha (argE vs 0) (argE_ok vs) h
abbrev Sh (G : Mem) (v : Value) (l : List Nat) : Prop := Shows G 1 v l.length (l.map by8)
abbrev By (l : List Nat) : Prop := ∀ b ∈ l, b < 256
abbrev L8 (n : Nat) (f : Nat → Nat) : Prop := ∀ j, j < n → f j < 256
end Go.Proofs.Ytfldnikepdbgkaa
namespace Go.Proofs.Ytfldnikepdbgkaa
open Go Go.RowKit
theorem pls39 (w : World) : (((#[.mk "Kind" 3 0 false "" "" 0, .mk "Id" 3 1 false "" "" 8, .mk "Other" 3 2 false "" "" 16, .mk "Args" 27 3 false "" "" 24] : Array Field).mapM fun f => do pure (f.offset, ← sizeOf f.type) : Sem (Array (Nat × Nat)))).run Try.prog w = .ok #[(0, 1), (1, 1), (2, 1), (3, 1)] w := places_run (l := [(0, 1), (1, 1), (2, 1), (3, 1)]) (by kernel_rfl) w
theorem pls50 (w : World) : (((#[.mk "secured" 4 0 false "" "signet/trace" 0, .mk "told" 27 1 false "" "signet/trace" 8, .mk "mixed" 27 2 false "" "signet/trace" 32, .mk "used" 3 3 false "" "signet/trace" 56] : Array Field).mapM fun f => do pure (f.offset, ← sizeOf f.type) : Sem (Array (Nat × Nat)))).run Try.prog w = .ok #[(0, 1), (1, 1), (2, 1), (3, 1)] w := places_run (l := [(0, 1), (1, 1), (2, 1), (3, 1)]) (by kernel_rfl) w
theorem pls55 (w : World) : (((#[.mk "who" 3 0 false "" "signet/signetref" 0, .mk "token" 3 1 false "" "signet/signetref" 8] : Array Field).mapM fun f => do pure (f.offset, ← sizeOf f.type) : Sem (Array (Nat × Nat)))).run Try.prog w = .ok #[(0, 1), (1, 1)] w := places_run (l := [(0, 1), (1, 1)]) (by kernel_rfl) w
end Go.Proofs.Ytfldnikepdbgkaa
namespace Go.Proofs.Ytfldnikepdbgkaa
open Go Go.RowKit
end Go.Proofs.Ytfldnikepdbgkaa
namespace Go.Proofs.Ytfldnikepdbgkaa
open Go Go.RowKit
variable {G : Mem}
set_option maxHeartbeats 400000 in
theorem datom_fn (i : Int) : Fn Try.prog G 14 #[iv i] (.agg (tC (atomT i) nilS)) := by
  refine Qf1 Try.func14 ?_
  refine Qs<|Qp<|(QH 0) fun r1=>Qn<|Qs<|Qp<|(Qm) ?_
  refine e_buildS (tC (atomT i) nilS) (Ub 39 rfl) (Uu 39 rfl) pls39 rfl (by kernel_rfl) rfl ?_
  refine e_storeA (i := 0) (Uz 39) rfl rfl (arrv_size _ _) (cells_one ⟨fun _ => rfl, fun _ => rfl, fun _ => rfl, fun _ => rfl, trivial⟩) rfl cells_sz (.inl rfl) ?_
  refine Qn<|Qr ?_
  exact ⟨_, rfl, .cell (i := 0) rfl rfl (Uu 39) rfl (Uz 39) (arrv_size _ _)⟩
set_option maxHeartbeats 400000 in
theorem dpub_fn (i : Int) : Fn Try.prog G 16 #[iv i] (.agg (tC (pubT i) nilS)) := by
  refine Qf1 Try.func16 ?_
  refine Qs<|Qp<|(QH 0) fun r1=>Qn<|Qs<|Qp<|(Qm) ?_
  refine e_buildS (tC (pubT i) nilS) (Ub 39 rfl) (Uu 39 rfl) pls39 rfl (by kernel_rfl) rfl ?_
  refine e_storeA (i := 0) (Uz 39) rfl rfl (arrv_size _ _) (cells_one ⟨fun _ => rfl, fun _ => rfl, fun _ => rfl, fun _ => rfl, trivial⟩) rfl cells_sz (.inl rfl) ?_
  refine Qn<|Qr ?_
  exact ⟨_, rfl, .cell (i := 0) rfl rfl (Uu 39) rfl (Uz 39) (arrv_size _ _)⟩
end Go.Proofs.Ytfldnikepdbgkaa
namespace Go.Proofs.Ytfldnikepdbgkaa
open Go Go.RowKit
variable {G : Mem}
set_option maxHeartbeats 8000000 in
theorem dchain_fn (rm : Nat) (Bk : Mem) (l : List TT) (v : Value) (xs : List Value) (hv : Shows Bk 4 v l.length xs) (hT : TO G l xs) (h0 : 0 < l.length) (hn : l.length ≤ 1000) (hf : ∀ t ∈ l, t.form = 0) : Fx Try.prog ((⟨rm, #[v], 27⟩ : Blk) :: (Bk ++ G)) [] 13 #[ii 2, ptr rm] (fun v l1 nw => l1 = [] ∧ TermD G (keyM l) v nw) := by
  have hvg : Shows ((⟨rm, #[v], 27⟩ : Blk) :: (Bk ++ G)) 4 v l.length xs := hv.mono (fun z hz => List.mem_cons_of_mem _ (List.mem_append_left G hz))
  have hco := shows_oneC hv
  refine fxD (n := 29) Try.func13 rfl rfl (by simp) (argE [ii 2, ptr rm] 0) (argE_ok _) ?_
  refine Qs<|Qp<|(QH 0) fun r1=>Qn<|Qs<|Qp ?_
  refine e_call rfl (Un 14) (datom_fn 0) rfl rfl ?_
  refine (QH 1) fun r2=>?_
  refine e_storeA (i := 1) (Uz 39) rfl rfl (arrv_size _ _) (cells_one ⟨fun _ => rfl, fun _ => rfl, fun _ => rfl, fun _ => rfl, trivial⟩) rfl cells_sz (.inl rfl) ?_
  refine Qn<|Qs<|Qs<|Qp ?_
  refine e_load1g (i := 0) (Uu 27) rfl rfl rfl (show _ = some _ from rfl) rfl ?_
  refine (QC hvg)<|(Qm)<|Qn<|Qb ?_
  refine e_loopB [(0, _), (1, _), (3, _), (4, _), (9, _), (10, _)] [(0, _)] (fun kk E m fz => ∃ (i : Nat) (c : Value) (ys : List Value), kk = l.length - i ∧ E = [(11, ii i)] ∧ m = [(1, (some ⟨r2, tC (chU l i) c, 39⟩))] ∧ (i ≤ l.length) ∧ (TL (fz ++ G) (chU l i).args c ys) ∧ ((chU l i).form = 0)) (k := l.length - 0) (E0 := [(11, ii 0)]) (M0 := [(1, (some ⟨r2, tC (chU l 0) nilS, 39⟩))]) (fz := []) ⟨0, nilS, [], rfl, rfl, rfl, by omega, (by rw [chU_zero h0]; exact tl_nil), (by rw [chU_zero h0]; exact form_at (by decide))⟩ ⟨rfl, rfl, rfl, rfl, rfl, rfl, rfl, trivial⟩ ⟨(by rw [chU_zero h0] <;> rfl), rfl, trivial⟩ (by repeat (first | exact bag_nil | exact bag_lab _ | apply bag_skip rfl)) ?_
  rintro kk E m fz ⟨i, c, ys, rfl, rfl, rfl, hf0_0, hf0_1, hf0_2⟩
  simp only [catE, catL]
  refine Qs<|Qp<|(Ql)<|Qn<|Qs ?_
  refine e_cond rfl ?_ ?_
  · intro hc0
    have hc0 : i < l.length := by have := of_decide_eq_true hc0; omega
    obtain ⟨c1, ys1, hcs1, hl1⟩ := hT.at (show i < l.length by omega)
    have hin1 := List.getElem_mem (show i < l.length by omega)
    have hcl := shows_oneC hl1.2.1
    refine Qk<|Qs<|Qb<|Qs<|Qp<|(Qm) ?_
    refine e_atV hvg (Uu 27) (Uz 39) rfl rfl (by omega) rfl ?_
    refine e_loadVS hvg seenG (Uu 39) rfl (Uz 39) rfl (by decide) (by have := hv.len; omega) hcs1 rfl ?_
    refine e_as (show _ = Value.agg (tC l[i] c1) from rfl) ?_
    refine (QH 2) fun r3=>(Qa) ?_
    refine e_storeA (i := 2) (Uz 39) rfl rfl (arrv_size _ _) (cells_one ⟨fun _ => rfl, fun _ => rfl, fun _ => rfl, fun _ => shows_oneC hl1.2.1, trivial⟩) rfl cells_sz (.inl rfl) ?_
    refine Qn<|Qs<|Qp<|(Qa)<|Qn<|Qs<|Qs<|Qp<|(Qm) ?_
    refine e_load1g (i := 0) (Uu 27) rfl rfl rfl (show _ = some _ from rfl) rfl ?_
    refine (QC hvg) ?_
    refine e_sub_in (q := 1) rfl rfl rfl (by omega) (by omega) ?_
    refine (Qc)<|Qn ?_
    refine s_join [(0, _), (1, _), (3, _), (4, _), (5, _), (6, _), (9, _), (10, _), (11, _), (12, _), (13, _), (14, _), (15, _), (16, _), (17, _), (18, _), (19, _), (20, _)] [(7, ii (wU l i))] (catL [(0, some _), (1, (some ⟨r2, tC (chU l i) c, 39⟩)), (2, some _)] (lab 1000 fz)) ⟨rfl, rfl, rfl, rfl, rfl, rfl, rfl, rfl, rfl, rfl, rfl, rfl, rfl, rfl, rfl, rfl, rfl, rfl, trivial⟩ (subL_cat ⟨rfl, rfl, rfl, trivial⟩ (bag_sub (by repeat (first | exact bag_nil | exact bag_lab _ | apply bag_skip rfl)))) ?_ ?_
    · skip
      refine e_cond rfl ?_ ?_
      · intro hc1
        refine Qp<|(Qm)<|(Qa)<|Qn ?_
        exact ⟨⟨rfl, rfl, rfl, rfl, rfl, rfl, rfl, rfl, rfl, rfl, rfl, rfl, rfl, rfl, rfl, rfl, rfl, rfl, trivial⟩, ⟨(by unfold wU; first | (rw [if_pos (by have := of_decide_eq_true hc1; omega)] <;> rfl) | (rw [if_neg (by have := of_decide_eq_false hc1; omega)] <;> rfl)), trivial⟩, (subL_cat ⟨rfl, rfl, rfl, trivial⟩ (bag_sub (by repeat (first | exact bag_nil | exact bag_lab _ | apply bag_skip rfl))))⟩
      · intro hc1
        refine Qk ?_
        exact ⟨⟨rfl, rfl, rfl, rfl, rfl, rfl, rfl, rfl, rfl, rfl, rfl, rfl, rfl, rfl, rfl, rfl, rfl, rfl, trivial⟩, ⟨(by unfold wU; first | (rw [if_pos (by have := of_decide_eq_true hc1; omega)] <;> rfl) | (rw [if_neg (by have := of_decide_eq_false hc1; omega)] <;> rfl)), trivial⟩, (subL_cat ⟨rfl, rfl, rfl, trivial⟩ (bag_sub (by repeat (first | exact bag_nil | exact bag_lab _ | apply bag_skip rfl))))⟩
    · simp only [catE, catL]
      refine Qp<|(Qm)<|(QD 1)<|(QD 2) ?_
      refine e_buildSl 3 ((tC (chU l i) c).toList ++ (tC l[i] c1).toList).toArray (Uu 27 rfl) (Uz 39 rfl) (Ub 39 rfl) (by decide) (by decide) rfl (fill_tC2 (by kernel_rfl)) rfl fun r4 => ?_
      refine e_buildS (tC (kdfT ((wU l i : Nat) : Int) (chU l i) l[i]) (.slice (some ⟨r4, 0, none⟩) 2 2)) (Ub 39 rfl) (Uu 39 rfl) pls39 rfl (by kernel_rfl) rfl ?_
      refine e_as (congrArg (fun t => Value.agg (tC t (.slice (some ⟨r4, 0, none⟩) 2 2))) (chU_next (l := l) (i := i) (by omega)).symm) ?_
      refine e_freeze 3 [(0, _), (1, _), (2, _)] rfl rfl (by repeat (first | exact bag_nil | exact bag_lab _ | apply bag_skip rfl)) ⟨rfl, rfl, rfl, trivial⟩ rfl rfl ?_
      simp only [catL]
      refine e_storeA (i := 1) (Uz 39) rfl rfl (arrv_size _ _) (cells_one ⟨fun _ => rfl, fun _ => rfl, fun _ => rfl, fun _ => rfl, trivial⟩) rfl cells_sz (.inl rfl) ?_
      refine Qn<|Qp<|(Q2 1)<|(Qm)<|Qn ?_
      refine e_round (E'' := [(11, ii (i + 1))]) (M'' := [(1, (some ⟨r2, tC (chU l (i + 1)) _, 39⟩))]) (fz' := (fz ++ (some (⟨r4, ((tC (chU l i) c).toList ++ (tC l[i] c1).toList).toArray, 39⟩ : Blk)).toList)) ⟨i + 1, _, _, rfl, rfl, rfl, by omega, (by rw [chU_next (by omega)]; exact tl_blk (n := 2) (l := [_, _]) ((to_one (hf0_1.mono (fun z hz => by simp only [List.mem_append] at hz ⊢; rcases hz with h | h <;> simp [h]))).app (to_one (hl1.mono (fun z hz => List.mem_append_right _ hz)))) rfl (List.mem_append_left _ (List.mem_append_right _ (List.mem_singleton.2 rfl))) (by decide)), (by rw [chU_next (by omega)]; exact form_kdf (by omega) hf0_2 (hf _ hin1))⟩ ⟨rfl, rfl, rfl, rfl, rfl, rfl, rfl, trivial⟩ ⟨rfl, rfl, trivial⟩ (by repeat (first | exact bag_nil | exact bag_lab _ | apply bag_skip rfl)) (by omega)
  · intro hc0
    have hc0 := of_decide_eq_false hc0
    have hz0 : i = l.length := by omega
    refine Qe<|Qs<|Qp<|(QD 1) ?_
    refine e_storeA (i := 0) (Uz 39) rfl rfl (arrv_size _ _) (cells_one ⟨fun _ => rfl, fun _ => rfl, fun _ => rfl, fun _ => shows_oneC hf0_1.2.1, trivial⟩) rfl cells_sz (.inl rfl) ?_
    refine Qn<|Qr ?_
    exact ⟨_, _, fz, rfl, .cell (i := 0) rfl rfl (Uu 39) rfl (Uz 39) (arrv_size _ _), (by rw [← chU_end hz0]; exact ⟨_, _, rfl, hf0_1⟩), (by repeat (first | exact bag_nil | exact bag_lab _ | apply bag_skip rfl))⟩
end Go.Proofs.Ytfldnikepdbgkaa
namespace Go.Proofs.Ytfldnikepdbgkaa
open Go Go.RowKit
variable {G : Mem}
set_option maxHeartbeats 8000000 in
theorem dtell_fn (rm rc ro : Nat) (Bk : Mem) (mx : List TT) (vm : Value) (xm : List Value) (hm : Shows Bk 4 vm mx.length xm) (hmT : TO G mx xm) (hmf : ∀ t ∈ mx, t.form = 0) (hmn : mx.length ≤ 1000) (told : List TT) (vo : Value) (xo : List Value) (oa : Option Blk) (ho : OwnS 39 4 vo told.length xo oa.toList) (hoT : TO G told xo) (hon : told.length ≤ 1000) (t : TT) (c : Value) (ys : List Value) (hT : TL G t.args c ys) (hnd : (((⟨ro, #[vo], 27⟩ : Blk) :: (oa.toList ++ (none : Option Blk).toList) : Mem).map (·.b)).Nodup) : Fx Try.prog ((⟨rm, #[vm], 27⟩ : Blk) :: (⟨rc, #[(Value.func (.func 13) #[] #[ptr rm])], 40⟩ : Blk) :: (Bk ++ G)) ((⟨ro, #[vo], 27⟩ : Blk) :: (oa.toList ++ (none : Option Blk).toList)) 15 #[.agg (tC t c), ptr rm, ptr rc, ptr ro] (Three ro 27 oa none (fun c' o1 o2 fz => OutIs 39 (fz ++ G) (told ++ [(lockedT ⟨told, mx, 0⟩ t)]) c' o1 ∧ o2 = none)) := by
  have hco := shows_oneC hT.2.1
  have hmg : Shows ((⟨rm, #[vm], 27⟩ : Blk) :: (⟨rc, #[(Value.func (.func 13) #[] #[ptr rm])], 40⟩ : Blk) :: (Bk ++ G)) 4 vm mx.length xm := hm.mono (fun z hz => List.mem_cons_of_mem _ (List.mem_cons_of_mem _ (List.mem_append_left G hz)))
  have hcm := shows_oneC hm
  refine fxW3 (n := 23) Try.func15 rfl rfl (by simp) (argE [.agg (tC t c), ptr rm, ptr rc, ptr ro] 0) (argE_ok _) hnd ?_
  refine Qs<|Qp<|(Qh 3) fun r4=>Qn<|Qs<|Qs<|Qp ?_
  refine e_load1g (i := 0) (Uu 27) rfl rfl rfl (show _ = some _ from rfl) rfl ?_
  refine (QC hmg)<|(QG)<|Qn ?_
  refine e_cond rfl ?_ ?_
  · intro hc0
    have h58 : 0 < mx.length := by have := of_decide_eq_true hc0; omega
    have e9 : (lockedT ⟨told, mx, 0⟩ t) = lockT (keyM mx) (atomT ((100 + told.length : Nat) : Int)) t := if_pos h58
    refine e_order ⟨[], 4, [], none, none⟩ [0, 2, 6, 1, 3, 4, 5, 7, 8, 9] mixed (by kernel_rfl) ?_
    refine e_load1g (i := 1) (Uu 40) rfl rfl rfl (show _ = some _ from rfl) rfl ?_
    refine e_load1 (i := 0) (Uu 27) rfl rfl rfl (show _ = some _ from rfl) rfl ⟨[], trivial⟩ ?_
    refine (QD 3) ?_
    refine e_callD [(0, _), (1, _), (2, _), (3, _)] (by repeat (first | exact bag_nil | exact bag_lab _ | apply bag_skip rfl)) ⟨rfl, rfl, rfl, rfl, trivial⟩ rfl rfl rfl (Un 13) (seen_sub (fun z hz => (List.mem_cons.1 hz).elim (fun h => h ▸ List.mem_cons_self ..) (fun h => List.mem_cons_of_mem _ (List.mem_cons_of_mem _ h)))) (dchain_fn (G := G) rm Bk mx vm xm hm hmT h58 hmn hmf) (termD_room 39 _ (form_keyM hmf)) rfl rfl fun v2_1 nw2_1 hD2_1 => ?_
    simp only [catL]
    obtain ⟨ck, yk, rfl, hk⟩ := hD2_1
    have hcq := shows_oneC hk.2.1
    refine (QC ho.shows) ?_
    refine e_add_i (p := 100) rfl rfl rfl (by omega) ?_
    refine e_call rfl (Un 14) (datom_fn ((100 + told.length : Nat) : Int)) rfl rfl ?_
    refine e_buildSl 4 ((tC (keyM mx) ck).toList ++ (tC (atomT ((100 + told.length : Nat) : Int)) nilS).toList ++ (tC t c).toList).toArray (Uu 27 rfl) (Uz 39 rfl) (Ub 39 rfl) (by decide) (by decide) rfl (fill_tC3 (by kernel_rfl)) rfl fun r5 => ?_
    refine e_buildS (tC (lockT (keyM mx) (atomT ((100 + told.length : Nat) : Int)) t) (.slice (some ⟨r5, 0, none⟩) 3 3)) (Ub 39 rfl) (Uu 39 rfl) pls39 rfl (by kernel_rfl) rfl ?_
    refine e_freeze 4 [(0, _), (1, _), (2, _), (3, _)] rfl rfl (by repeat (first | exact bag_nil | exact bag_lab _ | apply bag_skip rfl)) ⟨rfl, rfl, rfl, rfl, trivial⟩ rfl rfl ?_
    simp only [catL]
    refine e_storeA (i := 3) (Uz 39) rfl rfl (arrv_size _ _) (cells_one ⟨fun _ => rfl, fun _ => rfl, fun _ => rfl, fun _ => rfl, trivial⟩) rfl cells_sz (.inl rfl) ?_
    refine Qn ?_
    have hlk := tl_blk (G := (([] ++ nw2_1) ++ (some (⟨r5, ((tC (keyM mx) ck).toList ++ (tC (atomT ((100 + told.length : Nat) : Int)) nilS).toList ++ (tC t c).toList).toArray, 39⟩ : Blk)).toList) ++ G) (n := 3) (l := [keyM mx, atomT ((100 + told.length : Nat) : Int), t]) (r := r5) (ty := 39) ((to_one (hk.mono (fun z hz => by simp only [List.mem_append] at hz ⊢; rcases hz with h | h <;> simp [h]))).app (to_one tl_nil) |>.app (to_one (hT.mono (fun z hz => List.mem_append_right _ hz)))) rfl (List.mem_append_left _ (List.mem_append_right _ (List.mem_singleton.2 rfl))) (by decide)
    refine (Qq ⟨[], 1, [], none, (some (3, ro))⟩) ?_
    refine e_load1 (i := 0) (Uu 27) rfl rfl rfl (show _ = some _ from rfl) rfl ⟨[], trivial⟩ ?_
    refine (QD 3)<|(QC ho.shows) ?_
    refine e_buildSl 5 #[iv 0, iv 0, iv 0, nilS] (Uu 27 rfl) (Uz 39 rfl) (Ub 39 rfl) (by decide) (by decide) rfl (by kernel_rfl) rfl fun r6 => ?_
    refine e_appendJ 1 [(0, _), (2, _), (3, _), (5, _)] ho (shows_new _ _ (by rfl)) rfl (seen1 5 rfl ⟨[], trivial⟩) (by repeat (first | exact bag_nil | exact bag_lab _ | apply bag_skip rfl)) (fun _ => ⟨rfl, rfl, rfl, rfl, trivial⟩) rfl rfl (Uu 27) (Uz 39) (Uy 39) (Ub 39) (by rfl) rfl rfl (by decide) (by simp only [maxLen]; omega) (by omega) rfl fun vq ozq jkq hoq hjq => ?_
    simp only [catL]
    refine e_atV hoq.shows (Uu 27) (Uz 39) rfl rfl (by omega) rfl ?_
    refine e_stOwnS (i := 1) hoq (Uz 39) rfl rfl (arrv_size _ _) (by first | exact (cells_one ⟨fun _ => rfl, fun _ => rfl, fun _ => rfl, fun _ => rfl, trivial⟩) | exact (cells_one ⟨fun _ => rfl, fun _ => rfl, fun _ => rfl, fun _ => shows_oneC hT.2.1, trivial⟩)) rfl (by omega) rfl (fun oz2_3 ho2_3 => ?_) (y_off 0 rfl (by decide) rfl (by decide))
    refine e_store1 (i := 0) (Uz 27) rfl rfl (shows_oneC (OwnS.shows (own_fill hoT.1 rfl ho2_3))) rfl rfl (hid_var rfl rfl) ?_ (y_var rfl rfl)
    refine Qn ?_
    have hown9 := own_app (L := told) (lockedT ⟨told, mx, 0⟩ t) (own_fill hoT.1 rfl ho2_3)
    exact ⟨rfl, _, _, _, ((([] ++ nw2_1) ++ (some (⟨r5, ((tC (keyM mx) ck).toList ++ (tC (atomT ((100 + told.length : Nat) : Int)) nilS).toList ++ (tC t c).toList).toArray, 39⟩ : Blk)).toList) ++ jkq), ⟨⟨_, _, rfl, hown9, (by first | (rw [e9]; exact (hoT.mono (fun z hz => List.mem_append_right _ hz)).app (to_one (hlk.mono inM))) | (rw [e9]; exact (hoT.app (to_one hT)).mono (fun z hz => List.mem_append_right _ hz)))⟩, rfl⟩, rfl, rfl, rfl, (by repeat (first | exact bag_nil | exact bag_lab _ | apply bag_skip rfl)), (by first | exact ids_1 (ids_own hoq hown9 hjq) | exact ids_1 (ids_jk (ids_own hoq hown9 hjq)))⟩
  · intro hc0
    have e9 : (lockedT ⟨told, mx, 0⟩ t) = t := if_neg (show ¬ 0 < mx.length by have := of_decide_eq_false hc0; omega)
    refine Qk<|(Qq ⟨[], 1, [], none, (some (3, ro))⟩) ?_
    refine e_load1 (i := 0) (Uu 27) rfl rfl rfl (show _ = some _ from rfl) rfl ⟨[], trivial⟩ ?_
    refine (QD 3)<|(QC ho.shows) ?_
    refine e_buildSl 4 #[iv 0, iv 0, iv 0, nilS] (Uu 27 rfl) (Uz 39 rfl) (Ub 39 rfl) (by decide) (by decide) rfl (by kernel_rfl) rfl fun r5 => ?_
    refine e_appendJ 1 [(0, _), (2, _), (3, _), (4, _)] ho (shows_new _ _ (by rfl)) rfl (seen1 4 rfl ⟨[], trivial⟩) (by repeat (first | exact bag_nil | exact bag_lab _ | apply bag_skip rfl)) (fun _ => ⟨rfl, rfl, rfl, rfl, trivial⟩) rfl rfl (Uu 27) (Uz 39) (Uy 39) (Ub 39) (by rfl) rfl rfl (by decide) (by simp only [maxLen]; omega) (by omega) rfl fun vq ozq jkq hoq hjq => ?_
    simp only [catL]
    refine e_atV hoq.shows (Uu 27) (Uz 39) rfl rfl (by omega) rfl ?_
    refine e_stOwnS (i := 1) hoq (Uz 39) rfl rfl (arrv_size _ _) (by first | exact (cells_one ⟨fun _ => rfl, fun _ => rfl, fun _ => rfl, fun _ => rfl, trivial⟩) | exact (cells_one ⟨fun _ => rfl, fun _ => rfl, fun _ => rfl, fun _ => shows_oneC hT.2.1, trivial⟩)) rfl (by omega) rfl (fun oz2_2 ho2_2 => ?_) (y_off 0 rfl (by decide) rfl (by decide))
    refine e_store1 (i := 0) (Uz 27) rfl rfl (shows_oneC (OwnS.shows (own_fill hoT.1 rfl ho2_2))) rfl rfl (hid_var rfl rfl) ?_ (y_var rfl rfl)
    refine Qn ?_
    have hown9 := own_app (L := told) (lockedT ⟨told, mx, 0⟩ t) (own_fill hoT.1 rfl ho2_2)
    exact ⟨rfl, _, _, _, ([] ++ jkq), ⟨⟨_, _, rfl, hown9, (by first | (rw [e9]; exact (hoT.mono (fun z hz => List.mem_append_right _ hz)).app (to_one (hlk.mono inM))) | (rw [e9]; exact (hoT.app (to_one hT)).mono (fun z hz => List.mem_append_right _ hz)))⟩, rfl⟩, rfl, rfl, rfl, (by repeat (first | exact bag_nil | exact bag_lab _ | apply bag_skip rfl)), (by first | exact ids_1 (ids_own hoq hown9 hjq) | exact ids_1 (ids_jk (ids_own hoq hown9 hjq)))⟩
end Go.Proofs.Ytfldnikepdbgkaa
namespace Go.Proofs.Ytfldnikepdbgkaa
open Go Go.RowKit
variable {G : Mem}
set_option maxHeartbeats 2000000 in
theorem firstOf_fn (v : Value) (vs : List Value) (ls : List (List Int)) (hv : Shows G 1 v vs.length vs) (hL : ShowsLI G vs ls) (hn : vs.length ≤ 1000000) : Fn Try.prog G 31 #[v] (ii (first1 ls)) := by
  have hvl := hL.1
  refine Qf1 Try.func31 ?_
  refine Qs<|Qp<|(Qa)<|Qn<|Qs<|Qs<|Qp<|(Qm)<|(QC hv)<|(Qm)<|Qn<|Qb ?_
  refine QzK [(7, _), (8, _)] [] (fun kk E m => ∃ (i : Nat), kk = vs.length - i ∧ E = [(9, ii i)] ∧ m = [] ∧ (i ≤ vs.length) ∧ (∀ q, q < i → (ls.getD q []).length ≤ 6 ∧ (ls.getD q []).any wrong = false)) ⟨0, rfl, rfl, rfl, by omega, fun _ h => absurd h (Nat.not_lt_zero _)⟩ ⟨rfl, rfl, rfl, trivial⟩ trivial ?_
  rintro kk E m ⟨i, rfl, rfl, rfl, hf0_0, hf0_1⟩
  simp only [catE, catL]
  refine Qs<|Qp<|(Ql)<|Qn<|Qs ?_
  refine e_cond rfl ?_ ?_
  · intro hc0
    have hc0 : i < vs.length := by have := of_decide_eq_true hc0; omega
    refine Qk<|Qs<|Qb<|Qs<|Qp ?_
    refine e_atV hv (Uu 24) (Uz 22) rfl rfl (by omega) rfl ?_
    refine (QS) ?_
    refine e_loadV hv seenG (Uu 22) rfl rfl (get_getD (by omega)) rfl ?_
    refine (Qa)<|Qn<|Qs<|Qs<|Qp<|(Qm)<|(QC (hL.2 i (by omega)))<|(QG)<|Qn ?_
    refine e_cond rfl ?_ ?_
    · intro hc1
      have hc1 := of_decide_eq_true hc1
      rw [first1_at (by omega) hf0_1, first1, if_pos (by omega)]
      refine Qs<|Qp<|(Qa)<|Qn<|Qr ?_
      first | rw [first1_none (fun q hq => hf0_1 q (by omega))] | skip
      exact ⟨_, rfl, .tmp rfl⟩
    · intro hc1
      have hc1 := of_decide_eq_false hc1
      refine Qk<|Qs<|Qp<|(Qm)<|(QC (hL.2 i (by omega)))<|(Qm)<|Qn<|Qb ?_
      refine QzK [(7, _), (8, _), (9, _), (16, _), (17, _)] [] (fun kk E m => ∃ (j : Nat), kk = (ls.getD i []).length - j ∧ E = [(18, ii j)] ∧ m = [] ∧ (j ≤ (ls.getD i []).length) ∧ (∀ p, p < j → wrong ((ls.getD i []).getD p 0) = false)) ⟨0, rfl, rfl, rfl, by omega, fun _ h => absurd h (Nat.not_lt_zero _)⟩ ⟨rfl, rfl, rfl, rfl, rfl, rfl, trivial⟩ trivial ?_
      rintro kk E m ⟨j, rfl, rfl, rfl, hf1_0, hf1_1⟩
      simp only [catE, catL]
      refine Qs<|Qp<|(Ql)<|Qn<|Qs ?_
      refine e_cond rfl ?_ ?_
      · intro hc2
        have hc2 : j < (ls.getD i []).length := by have := of_decide_eq_true hc2; omega
        refine Qk<|Qs<|Qb<|Qs<|Qp ?_
        refine e_atV (hL.2 i (by omega)) (Uu 22) (Uz 3) rfl rfl (by omega) rfl ?_
        refine (QS) ?_
        refine e_loadV (hL.2 i (by omega)) seenG (Uu 3) rfl rfl (iv_at (by omega)) rfl ?_
        refine (Qa)<|Qn<|Qs<|Qp ?_
        refine e_join [(6, _), (7, _), (8, _), (9, _), (16, _), (17, _), (18, _), (19, _), (20, _), (21, _)] [(27, .bool (wrong ((ls.getD i []).getD j 0)))] [] ⟨rfl, rfl, rfl, rfl, rfl, rfl, rfl, rfl, rfl, rfl, trivial⟩ trivial ?_ ?_
        · skip
          refine (Qm)<|(Ql)<|(Qm) ?_
          refine e_case (b := decide ((ls.getD i []).getD j 0 < 1)) (fun hb0 => ?_) (fun hb0 => ?_)
          · skip
            refine (Qo)<|(Qo)<|(QT)<|Qn ?_
            exact ⟨⟨rfl, rfl, rfl, rfl, rfl, rfl, rfl, rfl, rfl, rfl, trivial⟩, ⟨bool_fin (by rw [wrong, hb0] <;> rfl), trivial⟩, trivial⟩
          · skip
            refine (Qy)<|(Qm)<|(Qy)<|(QG)<|(QF)<|Qn ?_
            exact ⟨⟨rfl, rfl, rfl, rfl, rfl, rfl, rfl, rfl, rfl, rfl, trivial⟩, ⟨bool_fin (by rw [wrong, hb0] <;> rfl), trivial⟩, trivial⟩
        · simp only [catE]
          refine e_cond rfl ?_ ?_
          · intro hc3
            rw [first1_at (by omega) hf0_1, first1, if_neg (by omega), any_at (by omega) hc3, if_pos rfl]
            refine Qs<|Qp<|(Qa)<|Qn<|Qr ?_
            first | rw [first1_none (fun q hq => hf0_1 q (by omega))] | skip
            exact ⟨_, rfl, .tmp rfl⟩
          · intro hc3
            have hcf := hc3
            refine Qk<|Qp<|(Q2 1)<|(Qm)<|Qn ?_
            refine QzL ⟨j + 1, rfl, rfl, rfl, by omega, fun p h => by by_cases e : p = j; (subst e; exact hcf); exact hf1_1 p (by omega)⟩ ⟨rfl, rfl, rfl, rfl, rfl, rfl, trivial⟩ trivial ?_
            omega
      · intro hc2
        have hc2 := of_decide_eq_false hc2
        have hz1 : j = (ls.getD i []).length := by omega
        refine Qe<|Qp<|(Q2 1)<|(Qm)<|Qn ?_
        refine QzL ⟨i + 1, rfl, rfl, rfl, by omega, fun q h => by by_cases e : q = i; (subst e; exact ⟨by omega, any_none (fun p hp => hf1_1 p (by omega))⟩); exact hf0_1 q (by omega)⟩ ⟨rfl, rfl, rfl, trivial⟩ trivial ?_
        omega
  · intro hc0
    have hc0 := of_decide_eq_false hc0
    have hz0 : i = vs.length := by omega
    refine Qe<|Qs<|Qp<|(Qa)<|Qn<|Qr ?_
    first | rw [first1_none (fun q hq => hf0_1 q (by omega))] | skip
    exact ⟨_, rfl, .tmp rfl⟩
end Go.Proofs.Ytfldnikepdbgkaa
namespace Go.Proofs.Ytfldnikepdbgkaa
open Go Go.RowKit
variable {G : Mem}
set_option maxHeartbeats 400000 in
theorem fault_none (base : List Nat) (late : Bool) (vp v0 v1 vt : Value) (tvs : List Value) (hvt : Shows G 1 vt tvs.length tvs) (h : tvs.length = 0) : Fn Try.prog G 12 #[.agg (cells 6 [pV (sv base), pV (.bool late), pV vp, pV v0, pV v1, pV vt])] (ii 1) := by
  refine Qf1 Try.func12 ?_
  refine Qs<|Qp<|(Qh 0) fun r1=>(Qa)<|Qn<|Qs<|Qs<|Qp<|(Qf 5)<|(QV 5 0)<|(QC hvt)<|(Qc)<|(Qat)<|(Qm)<|(Qo)<|(Qo)<|(Qo)<|(Qo)<|(QT)<|Qn<|(Qct)<|Qs<|Qp<|(Qa)<|Qn<|Qr ?_
  exact ⟨_, rfl, .tmp rfl⟩
set_option maxHeartbeats 400000 in
theorem fault_many (base : List Nat) (late : Bool) (vp v0 v1 vt : Value) (tvs : List Value) (hvt : Shows G 1 vt tvs.length tvs) (h : 5 < tvs.length) : Fn Try.prog G 12 #[.agg (cells 6 [pV (sv base), pV (.bool late), pV vp, pV v0, pV v1, pV vt])] (ii 1) := by
  refine Qf1 Try.func12 ?_
  refine Qs<|Qp<|(Qh 0) fun r1=>(Qa)<|Qn<|Qs<|Qs<|Qp<|(Qf 5)<|(QV 5 0)<|(QC hvt)<|(Qc)<|(Qaf)<|(Qm)<|(Qy)<|(Qf 5)<|(Qy)<|(QV 5 0)<|(Qy)<|(QC hvt)<|(Qy)<|(QG)<|(Qat)<|(QF)<|Qn<|(Qct)<|Qs<|Qp<|(Qa)<|Qn<|Qr ?_
  exact ⟨_, rfl, .tmp rfl⟩
set_option maxHeartbeats 2000000 in
theorem fault_first (base : List Nat) (late : Bool) (vp v0 v1 vt : Value) (tvs : List Value) (p0 p1 : List Int) (ts : List (List Int)) (f : Nat) (hvt : Shows G 1 vt tvs.length tvs) (hLI : ShowsLI G (v0 :: v1 :: tvs) (p0 :: p1 :: ts)) (hn1 : 1 ≤ tvs.length) (hn5 : tvs.length ≤ 5) (hf : first1 (p0 :: p1 :: ts) = f) (hf0 : f ≠ 0) : Fn Try.prog G 12 #[.agg (cells 6 [pV (sv base), pV (.bool late), pV vp, pV v0, pV v1, pV vt])] (ii f) := by
  have hT := li_tail (li_tail hLI)
  have hv0 : Shows G 1 v0 p0.length (p0.map iv) := hLI.2 0 (by simp)
  have hv1 : Shows G 1 v1 p1.length (p1.map iv) := hLI.2 1 (by simp)
  refine Qf1 Try.func12 ?_
  refine Qs<|Qp<|(Qh 0) fun r1=>(Qa)<|Qn<|Qs<|Qs<|Qp<|(Qf 5)<|(QV 5 0)<|(QC hvt)<|(Qc)<|(Qaf)<|(Qm)<|(Qy)<|(Qf 5)<|(Qy)<|(QV 5 0)<|(Qy)<|(QC hvt)<|(Qy)<|(QG)<|(Qaf)<|(QF)<|Qn<|(Qcf)<|Qk<|Qs<|Qp<|(Qa)<|Qn<|Qs<|Qs<|Qp<|(Qf 3)<|(QA 3 0)<|(QV 3 0)<|(Qf 3)<|(QA 4 1)<|(QV 4 0) ?_
  refine e_buildSl 1 #[v0, v1] (Uu 24 rfl) (Uz 22 rfl) (Ub 22 rfl) (by decide) (by decide) rfl (fill_ones [v0, v1] 0 _ (by intro v hv; simp only [List.mem_cons, List.not_mem_nil, or_false] at hv; rcases hv with rfl | rfl; exact shows_one hv0; exact shows_one hv1) (by simp)) rfl fun r2 => ?_
  refine (Qf 5)<|(QV 5 0) ?_
  refine e_append 1 own_two hvt rfl seenG (Uu 24) (Uz 22) (Uy 22) (Ub 22) (by rfl) rfl rfl (li_one hT) (by simp only [maxLen]; omega) (by omega) rfl fun v2_1 oz2_1 ho2_1 => ?_
  refine e_callS rfl rfl (Un 31) (seen_app (seenM 1 rfl ⟨[], trivial⟩) seenG) (firstOf_fn (G := oz2_1.toList ++ G) _ (v0 :: v1 :: tvs) (p0 :: p1 :: ts) (Shows.mono (OwnS.shows (own_fix ho2_1 (show _ = (v0 :: v1 :: tvs).length by simp; omega) rfl)) (fun x h => List.mem_append_left _ h)) (li_mono hLI (fun x h => List.mem_append_right _ h)) (by simp; omega)) rfl rfl ?_
  refine e_as (congrArg ii hf) ?_
  refine (Qa)<|Qn<|Qs<|Qp<|(Qm)<|(QN)<|(Qat)<|Qn<|(Qct)<|Qs<|Qp<|(Qm)<|(Qa)<|Qn<|Qr ?_
  exact ⟨_, rfl, .tmp rfl⟩
end Go.Proofs.Ytfldnikepdbgkaa
namespace Go.Proofs.Ytfldnikepdbgkaa
open Go Go.RowKit
variable {G : Mem}
set_option maxHeartbeats 400000 in
theorem happened_fn (v : Value) (l : List Ev) (who tok : Int) (hv : Shows G 2 v l.length (l.flatMap evC)) (hl : l.length ≤ 1000000) : Fn Try.prog G 32 #[v, .int .i64 who, .int .i64 tok] (.bool (hap l who tok)) := by
  refine Qf1 Try.func32 ?_
  refine Qs<|Qp<|(Qa)<|Qn<|Qs<|Qs<|Qp<|(Qm)<|(QC hv)<|(Qm)<|Qn<|Qb ?_
  refine QzK [(1, _), (2, _), (9, _), (10, _)] [] (fun kk E m => ∃ (i : Nat), kk = l.length - i ∧ E = [(11, ii i)] ∧ m = [] ∧ (i ≤ l.length) ∧ (∀ j (hj : j < l.length), j < i → hit who tok l[j] = false)) ⟨0, rfl, rfl, rfl, by omega, fun _ _ h => absurd h (Nat.not_lt_zero _)⟩ ⟨rfl, rfl, rfl, rfl, rfl, trivial⟩ trivial ?_
  rintro kk E m ⟨i, rfl, rfl, rfl, hf0_0, hf0_1⟩
  simp only [catE, catL]
  refine Qs<|Qp<|(Ql)<|Qn<|Qs ?_
  refine e_cond rfl ?_ ?_
  · intro hc0
    have hc0 : i < l.length := by have := of_decide_eq_true hc0; omega
    refine Qk<|Qs<|Qb<|Qs<|Qp ?_
    refine e_atV hv (Uu 52) (Uz 55) rfl rfl (by omega) rfl ?_
    refine e_loadVS hv seenG (Uu 55) rfl (Uz 55) rfl (by decide) (by rw [ev_len]; omega) (ev_at (by omega)) rfl ?_
    refine e_as (congrArg Value.agg (evC_arr l[i])) ?_
    refine (QH 0) fun r1=>(Qt 0)<|Qn<|Qs<|Qp ?_
    refine e_join [(1, _), (2, _), (8, _), (9, _), (10, _), (11, _), (12, _), (13, _), (14, _)] [(28, .bool (hit who tok l[i]))] [(0, some _)] ⟨rfl, rfl, rfl, rfl, rfl, rfl, rfl, rfl, rfl, trivial⟩ ⟨rfl, trivial⟩ ?_ ?_
    · skip
      refine (Qf 1)<|(Q1 0)<|(Qm)<|(Qc)<|(Qm) ?_
      refine e_case (b := decide ((l[i].2 : Int) = tok)) (fun hb0 => ?_) (fun hb0 => ?_)
      · skip
        refine (Qy)<|(Qm)<|(Qy)<|(Ql)<|(Qy)<|(Qm) ?_
        refine e_case (b := decide (who < 0)) (fun hb1 => ?_) (fun hb1 => ?_)
        · skip
          refine (Qo)<|(Qo)<|(Qo)<|(Qo)<|(Qy)<|(QT)<|(QT)<|Qn ?_
          exact ⟨⟨rfl, rfl, rfl, rfl, rfl, rfl, rfl, rfl, rfl, trivial⟩, ⟨bool_fin (by simp [hit, hb0, hb1]), trivial⟩, ⟨rfl, trivial⟩⟩
        · skip
          refine (Qy)<|(Qf 0)<|(Qy)<|(Q1 0) ?_
          refine e_as (show _ = ii l[i].1 from rfl) ?_
          refine (Qy)<|(Qm)<|(Qy)<|(Qc)<|(Qy)<|(QF)<|(QT)<|Qn ?_
          exact ⟨⟨rfl, rfl, rfl, rfl, rfl, rfl, rfl, rfl, rfl, trivial⟩, ⟨bool_fin (by simp [hit, hb0, hb1]), trivial⟩, ⟨rfl, trivial⟩⟩
      · skip
        refine (Qo)<|(Qo)<|(Qo)<|(Qw)<|(Qw)<|(Qw)<|(Qw)<|(Qo)<|(QF)<|Qn ?_
        exact ⟨⟨rfl, rfl, rfl, rfl, rfl, rfl, rfl, rfl, rfl, trivial⟩, ⟨bool_fin (by simp [hit, hb0]), trivial⟩, ⟨rfl, trivial⟩⟩
    · simp only [catE]
      refine e_cond rfl ?_ ?_
      · intro hc1
        rw [hap_hit (by omega) hc1]
        refine Qs<|Qp<|(Qa)<|Qn<|Qr ?_
        first | rw [hap_none (fun j hj => hf0_1 j hj (by omega))] | skip
        exact ⟨_, rfl, .tmp rfl⟩
      · intro hc1
        have hcf := hc1
        refine Qk<|Qp<|(Q2 1)<|(Qm)<|Qn ?_
        refine QzL ⟨i + 1, rfl, rfl, rfl, by omega, fun j hj h => by by_cases e : j = i; (subst e; exact hcf); exact hf0_1 j hj (by omega)⟩ ⟨rfl, rfl, rfl, rfl, rfl, trivial⟩ trivial ?_
        omega
  · intro hc0
    have hc0 := of_decide_eq_false hc0
    have hz0 : i = l.length := by omega
    refine Qe<|Qs<|Qp<|(Qa)<|Qn<|Qr ?_
    first | rw [hap_none (fun j hj => hf0_1 j hj (by omega))] | skip
    exact ⟨_, rfl, .tmp rfl⟩
end Go.Proofs.Ytfldnikepdbgkaa
namespace Go.Proofs.Ytfldnikepdbgkaa
open Go Go.RowKit
variable {G : Mem}
set_option maxHeartbeats 400000 in
theorem anyOf_fn (r : Nat) (v : Value) (l : List Ev) (t : Int) (hv : Shows G 2 v l.length (l.flatMap evC)) (hl : l.length ≤ 1000000) : Fn Try.prog ((⟨r, v.cells, 52⟩ : Blk) :: G) 57 #[.int .i64 t, ptr r] (.bool (hap l (-1) t)) := by
  refine Qf1 Try.func57 ?_
  refine Qs<|Qp<|(Qa)<|Qn<|Qs<|Qp ?_
  refine e_load1g (i := 0) (Uu 52) rfl rfl rfl (cell_one (shows_one hv)) rfl ?_
  refine (Qm) ?_
  refine e_call rfl (Un 32) (happened_fn v l (-1) t (hv.mono (fun x h => List.mem_cons_of_mem _ h)) hl) rfl rfl ?_
  refine (Qa)<|Qn<|Qr ?_
  exact ⟨_, rfl, .tmp rfl⟩
set_option maxHeartbeats 2000000 in
theorem mayLock_fn (v : Value) (l : List Ev) (who : Int) (hv : Shows G 2 v l.length (l.flatMap evC)) (hl : l.length ≤ 1000000) : Fn Try.prog G 33 #[v, .int .i64 who] (.bool (mlock l who)) := by
  refine Qf1 Try.func33 ?_
  refine Qs<|Qp<|(Qh 0) fun r1=>(Qa)<|Qn<|Qs<|Qp<|(QY)<|(Qa)<|Qn<|Qs<|Qs<|Qp ?_
  refine e_join [(0, _), (1, _), (2, _), (4, _), (5, _), (8, _)] [(16, .bool (hap l (-1) 7 && !(hap l who 1)))] [(0, some _)] ⟨rfl, rfl, rfl, rfl, rfl, rfl, trivial⟩ ⟨rfl, trivial⟩ ?_ ?_
  · skip
    refine (Qm) ?_
    refine e_callS rfl rfl (Un 57) (seen_cons 0 rfl) (anyOf_fn r1 v l 7 hv hl) rfl rfl ?_
    refine (Qm) ?_
    refine e_case (b := hap l (-1) 7) (fun hb0 => ?_) (fun hb0 => ?_)
    · skip
      refine (Qy) ?_
      refine e_load1 (i := 0) (Uu 52) rfl rfl rfl (cell_one (shows_one hv)) rfl ⟨[], trivial⟩ ?_
      refine (Qy)<|(Qm)<|(Qy) ?_
      refine e_call rfl (Un 32) (happened_fn v l who 1 hv hl) rfl rfl ?_
      refine (Qy)<|(Q0)<|(QT)<|Qn ?_
      exact ⟨⟨rfl, rfl, rfl, rfl, rfl, rfl, trivial⟩, ⟨bool_fin (by simp [hb0]), trivial⟩, ⟨rfl, trivial⟩⟩
    · skip
      refine (Qo)<|(Qo)<|(Qo)<|(Qo)<|(QF)<|Qn ?_
      exact ⟨⟨rfl, rfl, rfl, rfl, rfl, rfl, trivial⟩, ⟨bool_fin (by simp [hb0]), trivial⟩, ⟨rfl, trivial⟩⟩
  · simp only [catE]
    refine e_cond rfl ?_ ?_
    · intro hc0
      rw [show mlock l who = false by rw [mlock, hc0]; rfl]
      refine Qs<|Qp<|(Qa)<|Qn<|Qr ?_
      exact ⟨_, rfl, .tmp rfl⟩
    · intro hc0
      have hm : mlock l who = ((!(hap l (-1) (mown who)) || hap l (-1) 3) && (!(hap l (-1) 6) || hap l (-1) (mfre who))) := by rw [mlock, hc0]; rfl
      rw [hm]
      refine Qk<|Qs<|Qp<|(Qa)<|(Qa)<|Qn<|Qs<|Qs<|Qp<|(Qm)<|(Qc)<|Qn ?_
      refine s_join [(0, _), (1, _), (2, _), (4, _), (5, _), (8, _), (16, _), (17, _), (18, _)] [(6, ii (mown who)), (7, ii (mfre who))] [(0, some _)] ⟨rfl, rfl, rfl, rfl, rfl, rfl, rfl, rfl, rfl, trivial⟩ ⟨rfl, trivial⟩ ?_ ?_
      · skip
        refine e_cond rfl ?_ ?_
        · intro hc1
          have hc1 := of_decide_eq_true hc1
          refine Qp<|(Qa)<|(Qa)<|Qn ?_
          exact ⟨⟨rfl, rfl, rfl, rfl, rfl, rfl, rfl, rfl, rfl, trivial⟩, ⟨(by first | rw [mown, if_pos (by assumption)]; rfl | rw [mown, if_neg (by assumption)]; rfl), (by first | rw [mfre, if_pos (by assumption)]; rfl | rw [mfre, if_neg (by assumption)]; rfl), trivial⟩, ⟨rfl, trivial⟩⟩
        · intro hc1
          have hc1 := of_decide_eq_false hc1
          refine Qk ?_
          exact ⟨⟨rfl, rfl, rfl, rfl, rfl, rfl, rfl, rfl, rfl, trivial⟩, ⟨(by first | rw [mown, if_pos (by assumption)]; rfl | rw [mown, if_neg (by assumption)]; rfl), (by first | rw [mfre, if_pos (by assumption)]; rfl | rw [mfre, if_neg (by assumption)]; rfl), trivial⟩, ⟨rfl, trivial⟩⟩
      · simp only [catE]
        refine Qs<|Qp ?_
        refine e_join [(0, _), (1, _), (2, _), (5, _), (6, _), (7, _), (8, _), (16, _), (17, _), (18, _)] [(4, .bool ((!(hap l (-1) (mown who)) || hap l (-1) 3) && (!(hap l (-1) 6) || hap l (-1) (mfre who))))] [(0, some _)] ⟨rfl, rfl, rfl, rfl, rfl, rfl, rfl, rfl, rfl, rfl, trivial⟩ ⟨rfl, trivial⟩ ?_ ?_
        · skip
          refine (Qm)<|(Qm) ?_
          refine e_callS rfl rfl (Un 57) (seen_cons 0 rfl) (anyOf_fn r1 v l (mown who) hv hl) rfl rfl ?_
          refine (Q0)<|(Qm) ?_
          refine e_case (b := !(hap l (-1) (mown who))) (fun hb1 => ?_) (fun hb1 => ?_)
          · skip
            refine (Qo)<|(Qo)<|(QT)<|(Qm)<|(Qy)<|(Qm)<|(Qy) ?_
            refine e_callS rfl rfl (Un 57) (seen_cons 0 rfl) (anyOf_fn r1 v l 6 hv hl) rfl rfl ?_
            refine (Qy)<|(Q0)<|(Qy)<|(Qm) ?_
            refine e_case (b := !(hap l (-1) 6)) (fun hb2 => ?_) (fun hb2 => ?_)
            · skip
              refine (Qo)<|(Qo)<|(Qo)<|(Qy)<|(QT)<|(QT)<|(Qa)<|Qn ?_
              exact ⟨⟨rfl, rfl, rfl, rfl, rfl, rfl, rfl, rfl, rfl, rfl, trivial⟩, ⟨bool_fin (by simp [hb1, hb2]), trivial⟩, ⟨rfl, trivial⟩⟩
            · skip
              refine (Qy)<|(Qm)<|(Qy)<|(Qm)<|(Qy) ?_
              refine e_callS rfl rfl (Un 57) (seen_cons 0 rfl) (anyOf_fn r1 v l (mfre who) hv hl) rfl rfl ?_
              refine (Qy)<|(QF)<|(QT)<|(Qa)<|Qn ?_
              exact ⟨⟨rfl, rfl, rfl, rfl, rfl, rfl, rfl, rfl, rfl, rfl, trivial⟩, ⟨bool_fin (by simp [hb1, hb2]), trivial⟩, ⟨rfl, trivial⟩⟩
          · skip
            refine (Qy)<|(Qm)<|(Qy) ?_
            refine e_callS rfl rfl (Un 57) (seen_cons 0 rfl) (anyOf_fn r1 v l 3 hv hl) rfl rfl ?_
            refine (QF)<|(Qm) ?_
            refine e_case (b := hap l (-1) 3) (fun hb3 => ?_) (fun hb3 => ?_)
            · skip
              refine (Qy)<|(Qm)<|(Qy) ?_
              refine e_callS rfl rfl (Un 57) (seen_cons 0 rfl) (anyOf_fn r1 v l 6 hv hl) rfl rfl ?_
              refine (Qy)<|(Q0)<|(Qy)<|(Qm) ?_
              refine e_case (b := !(hap l (-1) 6)) (fun hb4 => ?_) (fun hb4 => ?_)
              · skip
                refine (Qo)<|(Qo)<|(Qo)<|(Qy)<|(QT)<|(QT)<|(Qa)<|Qn ?_
                exact ⟨⟨rfl, rfl, rfl, rfl, rfl, rfl, rfl, rfl, rfl, rfl, trivial⟩, ⟨bool_fin (by simp [hb1, hb3, hb4]), trivial⟩, ⟨rfl, trivial⟩⟩
              · skip
                refine (Qy)<|(Qm)<|(Qy)<|(Qm)<|(Qy) ?_
                refine e_callS rfl rfl (Un 57) (seen_cons 0 rfl) (anyOf_fn r1 v l (mfre who) hv hl) rfl rfl ?_
                refine (Qy)<|(QF)<|(QT)<|(Qa)<|Qn ?_
                exact ⟨⟨rfl, rfl, rfl, rfl, rfl, rfl, rfl, rfl, rfl, rfl, trivial⟩, ⟨bool_fin (by simp [hb1, hb3, hb4]), trivial⟩, ⟨rfl, trivial⟩⟩
            · skip
              refine (Qo)<|(Qo)<|(Qo)<|(Qo)<|(Qw)<|(Qw)<|(Qw)<|(Qo)<|(QF)<|(Qa)<|Qn ?_
              exact ⟨⟨rfl, rfl, rfl, rfl, rfl, rfl, rfl, rfl, rfl, rfl, trivial⟩, ⟨bool_fin (by simp [hb1, hb3]), trivial⟩, ⟨rfl, trivial⟩⟩
        · simp only [catE]
          refine Qr ?_
          exact ⟨_, rfl, .tmp rfl⟩
end Go.Proofs.Ytfldnikepdbgkaa
