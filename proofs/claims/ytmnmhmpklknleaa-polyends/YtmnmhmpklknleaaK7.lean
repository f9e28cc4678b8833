import Derived.Test.YtmnmhmpklknleaaK6
import Derived.Test.YtmnmhmpklknleaaK1
import Derived.ProofKit
import Derived.OpenShut
import Derived.Test.YtmnmhmpklknleaaK2
import Derived.Carry
import Derived.SizedLaws
import Derived.Test.YtmnmhmpklknleaaK3
import Derived.Test.YtmnmhmpklknleaaK5

/-
  Walks, written by a program of ours off the loaded functions.
-/
namespace Go.Proofs.Ytmnmhmpklknleaa
open Go Go.RowKit


theorem dbegin_msg {G : Mem} (f : Nat → Nat) (hf : ∀ j, j < 32 → f j < 256) : Fn Try.prog G 9 #[.agg (arr .u8 32 f)] (stP f []) := by
  rw [← stP_nil f]; exact dbegin_fn f hf
theorem dcheck_msg {G : Mem} (f : Nat → Nat) (m : List Nat) (hf : ∀ j, j < 32 → f j < 256) : Fn Try.prog G 10 #[stP f m] (ii 0) := by
  have hb := bL_lt hf
  have hok := ok_heldF (okR_begun hf) (k3 (w8 (bL f))) m
  have h := dcheck_fn (G := G) (w8 (bL f)) (fun j => w8 (bL f) (j + 2)) (wd (acc0 (k3 (w8 (bL f))) m)) (heldF m) (rem16 m).length (wd_lt _ 0) (wd_lt _ 1) (wd_lt _ 2) (w8_lt hb 0) (w8_lt hb 1)
  rw [if_pos hok] at h
  exact h
theorem dcheck_none {G : Mem} : Fn Try.prog G 10 #[PV (fun _ => 0) (fun _ => 0) (fun _ => 0) (fun _ => 0) 16] (ii 9) := by
  have h := dcheck_fn (G := G) (fun _ => 0) (fun _ => 0) (fun _ => 0) (fun _ => 0) 16 (by decide) (by decide) (by decide) (by decide) (by decide)
  rw [if_neg (by decide +kernel)] at h
  exact h
theorem heldF_zero (m : List Nat) : ∀ j, (rem16 m).length ≤ j → j < 16 → heldF m j = 0 := fun j h1 _ => by
  unfold heldF
  rw [List.getD_eq_getElem?_getD, List.getElem?_eq_none h1]; rfl
theorem dadded_msg {G : Mem} (f : Nat → Nat) (m : List Nat) (v : Value) (l : List Nat) (hf : ∀ j, j < 32 → f j < 256) (hm : ∀ b ∈ m, b < 256) (hv : Shows G 1 v l.length (l.map by8)) (hlb : ∀ b ∈ l, b < 256) (hlen : l.length + 16 ≤ 9223372036854775807) :
    Fn Try.prog G 13 #[stP f m, v] (.tuple #[stP f (m ++ l), ii 0]) := by
  have hb := bL_lt hf
  have h := dadd_ok (G := G) (w8 (bL f)) (fun j => w8 (bL f) (j + 2)) (acc0 (k3 (w8 (bL f))) m) (heldF m) (rem16 m).length v l hv hlb (Nat.lt_trans (acc0_lt _ _) QQ_lt) (w8_lt hb 0) (w8_lt hb 1) (k3_small (w8_lt hb 0) (w8_lt hb 1) (okR_begun hf)) (by rw [rem16_len]; omega) (fun j _ => heldF_lt hm j) (heldF_zero m) (ok_heldF (okR_begun hf) _ m) hlen
  rw [sS_held, acc0_app, rem16_app] at h
  exact h
theorem dended_msg {G : Mem} (f : Nat → Nat) (m : List Nat) (hf : ∀ j, j < 32 → f j < 256) (hm : ∀ b ∈ m, b < 256) : Fn Try.prog G 15 #[stP f m] (.tuple #[.agg (arr .u8 16 (ptg f m)), ii 0]) := by
  have hb := bL_lt hf
  have hok := ok_heldF (okR_begun hf) (k3 (w8 (bL f))) m
  by_cases h0 : (rem16 m).length = 0
  · have h := dend_zero (G := G) (w8 (bL f)) (fun j => w8 (bL f) (j + 2)) (acc0 (k3 (w8 (bL f))) m) (heldF m) (rem16 m).length (w8_lt hb 0) (w8_lt hb 1) (w8_lt hb 2) (w8_lt hb 3) h0 hok
    unfold stP cP
    rw [show acc0 (k3 (w8 (bL f))) m = accE (k3 (w8 (bL f))) m from (if_pos h0).symm] at h ⊢
    exact h
  · have h := dend_some (G := G) (w8 (bL f)) (fun j => w8 (bL f) (j + 2)) (acc0 (k3 (w8 (bL f))) m) (heldF m) (rem16 m).length (w8_lt hb 0) (w8_lt hb 1) (w8_lt hb 2) (w8_lt hb 3) (k3_small (w8_lt hb 0) (w8_lt hb 1) (okR_begun hf)) (Nat.lt_trans (acc0_lt _ _) QQ_lt) (fun j _ => heldF_lt hm j) (heldF_zero m) (by omega) (by rw [rem16_len]; omega) hok
    rw [held_list, show pst (k3 (w8 (bL f))) (acc0 (k3 (w8 (bL f))) m) (rem16 m) = accE (k3 (w8 (bL f))) m from (if_neg h0).symm] at h
    exact h


variable {G : Mem}

set_option maxHeartbeats 2000000 in
theorem dtag_fn (f : Nat → Nat) (v : Value) (l : List Nat) (hf : ∀ j, j < 32 → f j < 256) (hb : ∀ b ∈ l, b < 256) (hl : l.length ≤ 140737488351232) (hv : Shows G 1 v l.length (l.map by8)) : Fn Try.prog G 17 #[.agg (arr .u8 32 f), v] (.agg (arr .u8 16 (ptg f l))) := by
  have hl2 : l.length + 16 ≤ 9223372036854775807 := by omega
  refine fn1 (n := 22) Try.func17 rfl rfl (by simp) (argE [.agg (arr .u8 32 f), v] 0) (argE_ok _) ?_
  refine e_seq ?_
  refine e_plain ?_
  refine e_box 0 rfl rfl fun r1 => ?_
  refine e_alloc 1 zer26 rfl fun r2 => ?_
  refine e_nil ?_
  refine e_seq ?_
  refine e_plain ?_
  refine e_loadA (i := 0) und46 rfl siz46 rfl rfl (arr_size _ _ _) rfl ⟨[], trivial⟩ ?_
  refine e_call rfl ent9 (dbegin_msg f hf) rfl rfl ?_
  refine e_move rfl rfl ?_
  refine e_call rfl ent13 (dadded_msg f [] v l hf (by simp) hv hb hl2) rfl rfl ?_
  refine e_as (show _ = Value.tuple #[stP f l, ii 0] from rfl) ?_
  refine e_move rfl rfl ?_
  refine e_extract rfl rfl rfl ?_
  refine e_extract rfl rfl rfl ?_
  refine e_alloc 2 zer28 rfl fun r3 => ?_
  refine e_storeA (i := 2) siz28 rfl rfl (arrv_size _ _) (cells_one ⟨fun _ => rfl, fun _ => rfl, fun _ => rfl, fun _ => rfl, fun _ => rfl, trivial⟩) rfl cells_sz (.inl rfl) ?_
  refine e_assign rfl rfl ?_
  refine e_nil ?_
  refine e_seq ?_
  refine e_plain ?_
  refine e_loadA (i := 2) und28 rfl siz28 rfl rfl (arrv_size _ _) rfl ⟨[], trivial⟩ ?_
  refine e_call rfl ent15 (dended_msg f l hf hb) rfl rfl ?_
  refine e_move rfl rfl ?_
  refine e_extract rfl rfl rfl ?_
  refine e_extract rfl rfl rfl ?_
  refine e_alloc 3 zer26 rfl fun r4 => ?_
  refine e_storeA (i := 3) siz26 rfl rfl (arr_size _ _ _) arr_one rfl (arr_sz _ _ _ _ _) (.inl rfl) ?_
  refine e_assign rfl rfl ?_
  refine e_nil ?_
  refine e_seq ?_
  refine e_plain ?_
  refine e_loadA (i := 3) und26 rfl siz26 rfl rfl (arr_size _ _ _) rfl ⟨[], trivial⟩ ?_
  refine e_storeA (i := 1) siz26 rfl rfl (arr_size _ _ _) arr_one rfl (arr_sz _ _ _ _ _) (.inl rfl) ?_
  refine e_nil ?_
  refine e_ret ?_
  exact ⟨_, rfl, .cell (i := 1) rfl rfl und26 rfl siz26 (arr_size _ _ _)⟩

end Go.Proofs.Ytmnmhmpklknleaa

/-
  Arguments that are arrays of numbers, by value: opened, and read again in another world.
-/
namespace Go.Proofs.Ytmnmhmpklknleaa
open Go.ChangeShapes Go.WideShapes Go.ChangeAt Go.RowKit

section
variable {H : Type} {enc : TypeId × Value → H} {P : Program} {n : Nat} {t e : TypeId} {k : IntKind}

theorem trod_int_any (he : P.underlying e = some (.int k)) (w w' : World) (b b' : Nat) (s s' : Nat → Bool) (h h' : Bool) (fuel : Nat) (cs : List Value) :
    DataW.trod enc P w b s h fuel e cs = DataW.trod enc P w' b' s' h' fuel e cs := by
  cases fuel with
  | zero => rfl
  | succ m =>
    unfold DataW.trod
    rw [he]
    match cs with
    | [] => rfl
    | [v] => cases v <;> rfl
    | v :: _ :: _ => cases v <;> rfl

theorem trod_arr_any (hT : P.underlying t = some (.array n e)) (he : P.underlying e = some (.int k)) (w w' : World) (b b' : Nat) (s s' : Nat → Bool) (h h' : Bool) (fuel : Nat) (cs : List Value) :
    DataW.trod enc P w b s h fuel t cs = DataW.trod enc P w' b' s' h' fuel t cs := by
  cases fuel with
  | zero => rfl
  | succ m =>
    unfold DataW.trod
    rw [hT]
    simp only
    congr 2
    congr 1
    funext i
    exact trod_int_any he w w' b b' s s' h h' m _

theorem Trod_arr (hT : P.underlying t = some (.array n e)) (he : P.underlying e = some (.int k)) {w : World} {b : Nat} {s : Nat → Bool} {h : Bool} {v : Value} {d : DataW H} {ps : List MemPlace}
    (hd : DataW.Trod enc P w b s h t v d ps) (w' : World) (b' : Nat) (s' : Nat → Bool) (h' : Bool) : DataW.Trod enc P w' b' s' h' t v d ps := by
  obtain ⟨fuel, hf⟩ := hd
  exact ⟨fuel, by rw [← hf]; exact trod_arr_any hT he _ _ _ _ _ _ _ _ _ _⟩

theorem open_arr {bound : Nat} (hT : P.underlying t = some (.array n e)) (he : P.underlying e = some (.int k)) (hc : P.cellsOf e = 1) (hct : P.cellsOf t = n)
    (hb : ∀ z : Int, (Lit.int k z).wf = true → 0 ≤ z ∧ z < bound) {W : World} {b0 b : Nat} {s : Nat → Bool} {h : Bool} {v : Value} {d : DataW H} {ps : List MemPlace}
    (hval : Value.okWide P W .any b0 t v) (hd : DataW.Trod enc P W b s h t v d ps) :
    ∃ f : Nat → Nat, v = .agg (arr k n f) ∧ (∀ j, j < n → f j < bound) ∧ ps = [] := by
  unfold Value.okWide at hval
  rw [hT] at hval
  obtain ⟨cs, rfl, hsz, _⟩ := hval
  rw [hct] at hsz
  obtain ⟨fuel, hf⟩ := hd
  obtain ⟨xs, m, _, ex, _, hl, hel⟩ := DataW.trod_array hT hf
  have key : ∀ i, i < n → ∃ z : Int, cs[i]? = some (.int k z) ∧ 0 ≤ z ∧ z < bound ∧ ∃ x, xs[i]? = some x ∧ x.2 = [] := fun i hi => by
    have hE := hel i hi
    have hxi : i < xs.length := by omega
    rw [hc, Nat.mul_one, List.getElem?_eq_getElem hxi] at hE
    obtain ⟨z, e1, e2, hw⟩ := DataW.trod_int he hE
    have h0 : ((cs.toList.drop i).take 1)[0]? = some (.int k z) := by
      have : (Value.agg cs).cells.toList = cs.toList := rfl
      rw [this] at e1
      rw [e1]; rfl
    refine ⟨z, by simpa using h0, (hb z hw).1, (hb z hw).2, xs[i], List.getElem?_eq_getElem hxi, by rw [e2]⟩
  refine ⟨fun i => match cs[i]? with
    | some (.int _ z) => z.toNat
    | _ => 0, ?_, fun j hj => ?_, ?_⟩
  · congr 1
    apply Array.ext_getElem?
    intro i
    by_cases hi : i < n
    · obtain ⟨z, h1, h2, _⟩ := key i hi
      rw [arr_get hi, h1]
      simp only
      congr 2
      omega
    · rw [Array.getElem?_eq_none (by omega), Array.getElem?_eq_none (by rw [arr_size]; omega)]
  · obtain ⟨z, h1, h2, h3, _⟩ := key j hj
    simp only [h1]
    omega
  · have e2 : ps = xs.flatMap (·.2) := (Prod.mk.inj ex).2
    rw [e2]
    apply List.flatMap_eq_nil_iff.2
    intro x hx
    obtain ⟨i, hi, rfl⟩ := List.getElem_of_mem hx
    obtain ⟨_, _, _, _, y, h4, h5⟩ := key i (by omega)
    rw [List.getElem?_eq_getElem hi] at h4
    rw [Option.some.inj h4]; exact h5

theorem wf_u8 (z : Int) (h : (Lit.int .u8 z).wf = true) : 0 ≤ z ∧ z < (256 : Nat) := by
  simp [Lit.wf, IntKind.min, IntKind.max, IntKind.signed, IntKind.bits] at h
  omega
theorem wf_u64 (z : Int) (h : (Lit.int .u64 z).wf = true) : 0 ≤ z ∧ z < (18446744073709551616 : Nat) := by
  simp [Lit.wf, IntKind.min, IntKind.max, IntKind.signed, IntKind.bits] at h
  omega

end
end Go.Proofs.Ytmnmhmpklknleaa

/-
  Arguments that are slices of bytes: opened.
-/
namespace Go.Proofs.Ytmnmhmpklknleaa
open Go Go.ChangeShapes Go.WideShapes Go.ChangeAt Go.RowKit

section
variable {H : Type} {enc : TypeId × Value → H} {P : Program} {t e : TypeId}
theorem row_of_cell {w : World} {b o : Nat} {u : Value} (h : w.cell? ⟨b, o, none⟩ = some u) : ∃ cs et fr, w.heap[b]? = some (.cells cs et fr) := by
  unfold World.cell? at h
  cases hb : w.heap[b]? with
  | none => simp [hb] at h
  | some ob => cases ob with
    | cells cs t fr => exact ⟨cs, t, fr, rfl⟩
    | _ => simp [hb] at h
theorem open_bytes {W : World} {b0 base : Nat} {s : Nat → Bool} {held : Bool} {v : Value} {d : DataW H} {ps : List MemPlace} (ht : P.underlying t = some (.slice e)) (he : P.underlying e = some (.int .u8)) (hc : P.cellsOf e = 1)
    (hval : Value.okWide P W .any b0 t v) (hd : DataW.Trod enc P W base s held t v d ps) :
    ∃ (l : List Nat) (G : Mem), (∀ b ∈ l, b < 256) ∧ l.length ≤ maxLen ∧ Shows G 1 v l.length (l.map by8) ∧ MemR G W := by
  have hcell : ∃ a len cap, v = .slice a len cap := by
    unfold Value.okWide at hval
    rw [ht] at hval
    unfold Cell.okWide at hval
    rw [ht] at hval
    unfold Cell.ok at hval
    rw [ht] at hval
    cases v <;> simp_all
  obtain ⟨a0, len0, cap0, rfl⟩ := hcell
  obtain ⟨fuel, hf⟩ := hd
  rcases open_ints ht he hc hf with ⟨h1, _⟩ | ⟨a, len, cap, zs, h1, _, hlc, hcm, hzl, _, hz, hw⟩
  · have h1 : [Value.slice a0 len0 cap0] = [.slice none 0 0] := h1
    injection h1 with h1 _
    rw [h1]
    exact ⟨[], [], by simp, by simp [maxLen], .inl ⟨rfl, rfl, none, 0, rfl, fun _ => rfl⟩, by simp [MemR]⟩
  · have h1 : [Value.slice a0 len0 cap0] = [.slice (some a) len cap] := h1
    injection h1 with h1 _
    rw [h1]
    have hlz : len ≤ zs.length := by rw [hzl]; split <;> omega
    by_cases h0 : len = 0
    · subst h0
      exact ⟨[], [], by simp, by simp [maxLen], .inl ⟨rfl, rfl, some a, cap, rfl, fun h => by cases h⟩, by simp [MemR]⟩
    · obtain ⟨b, off, rfl, hc2⟩ := ints_at hz (by omega)
      obtain ⟨cs, et, fr, hb⟩ := row_of_cell (hc2 0 (by omega))
      have hcl : ∀ o, W.cell? ⟨b, o, none⟩ = cs[o]? := fun o => by simp [World.cell?, hb]
      have hlen : ((zs.take len).map Int.toNat).length = len := by simp; omega
      have hwj : ∀ j, j < len → 0 ≤ zs.getD j 0 ∧ zs.getD j 0 ≤ 255 := fun j hj => bounds_u8 (hw (zs.getD j 0) (by
        have : zs.getD j 0 = zs[j] := by simp [List.getD, show j < zs.length by omega]
        rw [this]; exact List.getElem_mem _))
      have hnth : ∀ j x, ((zs.take len).map Int.toNat)[j]? = some x → j < len ∧ x = (zs.getD j 0).toNat := fun j x hj => by
        have hlt := (List.getElem?_eq_some_iff.1 hj).1
        rw [hlen] at hlt
        refine ⟨hlt, ?_⟩
        rw [List.getElem?_map, List.getElem?_take, if_pos hlt, List.getElem?_eq_getElem (by omega)] at hj
        simp at hj
        rw [← hj]
        simp [List.getD, show j < zs.length by omega]
      refine ⟨(zs.take len).map Int.toNat, [⟨b, cs, et⟩], fun q hq => ?_, by rw [hlen]; omega, .inr ⟨b, off, cap, cs, et, by rw [hlen], by rw [hlen]; exact hlc, by simp, by simp, ?_, fun j u hj => ?_⟩, fun x hx => ?_⟩
      · obtain ⟨j, hj⟩ := List.getElem?_of_mem hq
        obtain ⟨h2, rfl⟩ := hnth j q hj
        have := hwj j h2
        omega
      · have h2 := hc2 (len - 1) (by omega)
        rw [hcl] at h2
        have := (Array.getElem?_eq_some_iff.1 h2).1
        rw [hlen]
        omega
      · rw [List.getElem?_map] at hj
        cases hx : ((zs.take len).map Int.toNat)[j]? with
        | none => rw [hx] at hj; cases hj
        | some x =>
          rw [hx, Option.map_some] at hj
          obtain ⟨h2, rfl⟩ := hnth j x hx
          have h3 := hwj j h2
          injection hj with hj
          rw [← hj, ← hcl, hc2 j (by omega)]
          have e1 : (((zs.getD j 0).toNat : Nat) : Int) = zs.getD j 0 := by omega
          show some (Value.int IntKind.u8 (zs.getD j 0)) = some (Value.int IntKind.u8 (((zs.getD j 0).toNat : Nat) : Int))
          rw [e1]
      · simp at hx; subst hx
        exact ⟨(Array.getElem?_eq_some_iff.1 hb).1, fun o _ => hcl o⟩
theorem str_list (s : ByteArray) : ∃ l : List Nat, (∀ x ∈ l, x < 256) ∧ s = bstr l := by
  refine ⟨s.data.toList.map UInt8.toNat, fun x hx => ?_, ?_⟩
  · obtain ⟨b, _, rfl⟩ := List.mem_map.1 hx
    exact b.toNat_lt
  · unfold bstr
    rw [List.map_map]
    have : s.data.toList.map (UInt8.ofNat ∘ UInt8.toNat) = s.data.toList := by
      conv => rhs; rw [← List.map_id s.data.toList]
      exact List.map_congr_left fun b _ => by simp
    rw [this]
/-- A struct of three numbers and a string. -/
theorem open_raw {W : World} {b0 base : Nat} {sp : Nat → Bool} {held : Bool} {v : Value} {d : DataW H} {ps : List MemPlace} {f0 f1 f2 f3 : Field} (ht : P.underlying t = some (.struct #[f0, f1, f2, f3])) (hc : P.cellsOf t = 4)
    (o0 : f0.offset = 0) (o1 : f1.offset = 1) (o2 : f2.offset = 2) (o3 : f3.offset = 3) (u0 : P.underlying f0.type = some (.int .i64)) (u1 : P.underlying f1.type = some (.int .i64)) (u2 : P.underlying f2.type = some (.int .i64)) (u3 : P.underlying f3.type = some .string)
    (c0 : P.cellsOf f0.type = 1) (c1 : P.cellsOf f1.type = 1) (c2 : P.cellsOf f2.type = 1) (c3 : P.cellsOf f3.type = 1) (hval : Value.okWide P W .any b0 t v) (hd : DataW.Trod enc P W base sp held t v d ps) :
    ∃ (za zb zc : Int) (tx : List Nat), (∀ x ∈ tx, x < 256) ∧ v = .agg #[.int .i64 za, .int .i64 zb, .int .i64 zc, sv tx] := by
  unfold Value.okWide at hval
  rw [ht] at hval
  obtain ⟨cs, rfl, hsz, _⟩ := hval
  obtain ⟨fuel, hf⟩ := hd
  obtain ⟨xs, m, _, _, _, hxl, hel⟩ := DataW.trod_struct ht hf
  have hxl : xs.length = 4 := hxl
  have g : ∀ i, i < 4 → ∃ y, xs[i]? = some y := fun i hi => ⟨xs[i], List.getElem?_eq_getElem (by omega)⟩
  have hcs : (Value.agg cs).cells.toList = cs.toList := rfl
  rw [hc] at hsz
  obtain ⟨l, hl⟩ : ∃ l, cs = l.toArray := ⟨cs.toList, by simp⟩
  subst hl
  have hl4 : l.length = 4 := by simpa using hsz
  match l, hl4 with
  | [a, b, c, e], _ =>
    obtain ⟨y0, hy0⟩ := g 0 (by omega)
    obtain ⟨y1, hy1⟩ := g 1 (by omega)
    obtain ⟨y2, hy2⟩ := g 2 (by omega)
    obtain ⟨y3, hy3⟩ := g 3 (by omega)
    have e0 := hel 0 f0 rfl
    have e1 := hel 1 f1 rfl
    have e2 := hel 2 f2 rfl
    have e3 := hel 3 f3 rfl
    rw [hcs, o0, c0, hy0] at e0
    rw [hcs, o1, c1, hy1] at e1
    rw [hcs, o2, c2, hy2] at e2
    rw [hcs, o3, c3, hy3] at e3
    obtain ⟨za, h0, _⟩ := DataW.trod_int u0 e0
    obtain ⟨zb, h1, _⟩ := DataW.trod_int u1 e1
    obtain ⟨zc, h2, _⟩ := DataW.trod_int u2 e2
    obtain ⟨s, h3, _⟩ := DataW.trod_string u3 e3
    obtain ⟨tx, htx, hs⟩ := str_list s
    simp at h0 h1 h2 h3
    exact ⟨za, zb, zc, tx, htx, by rw [h0, h1, h2, h3, hs]⟩
theorem wf_u32 (z : Int) (h : (Lit.int .u32 z).wf = true) : ∃ c : Nat, z = (c : Int) ∧ c < 4294967296 := by
  simp [Lit.wf, IntKind.min, IntKind.max, IntKind.signed, IntKind.bits] at h
  exact ⟨z.toNat, by omega, by omega⟩
end
end Go.Proofs.Ytmnmhmpklknleaa

/-
  How long bytes are that are handed in.
-/
namespace Go.Proofs.Ytmnmhmpklknleaa
open Go Go.ChangeShapes Go.WideShapes Go.ChangeAt Go.RowKit

abbrev RB : Nat := 140737488351232
section
variable {H : Type} {enc : TypeId × Value → H} {P : Program} {t e : TypeId}
theorem shows_num {B : Mem} {z n len cap : Nat} {a : Option Addr} {xs : List Value} (h : Shows B z (.slice a len cap) n xs) : len = n := by
  rcases h with ⟨h0, _, oa, c, h1, _⟩ | ⟨b, o, c, cs, t, h1, _⟩
  · injection h1 with _ h2; rw [h2, h0]
  · injection h1
theorem open_sized {W : World} {base : Nat} {s : Nat → Bool} {held : Bool} {v : Value} {d : DataW H} {ps : List MemPlace} {B : Mem} {n : Nat} {xs : List Value} (ht : P.underlying t = some (.slice e)) (he : P.underlying e = some (.int .u8)) (hc : P.cellsOf e = 1) (hby : P.bytesOf e = 1)
    (hd : DataW.Trod enc P W base s held t v d ps) (hw : ∀ k ∈ d.weights P t, k ≤ RB) (hv : Shows B 1 v n xs) : n ≤ RB := by
  have hcell : ∃ a len cap, v = .slice a len cap := by
    rcases hv with ⟨_, _, oa, c, h1, _⟩ | ⟨b, o, c, cs, t, h1, _⟩
    · exact ⟨_, _, _, h1⟩
    · exact ⟨_, _, _, h1⟩
  obtain ⟨a0, len0, cap0, rfl⟩ := hcell
  have hn := shows_num hv
  subst hn
  obtain ⟨fuel, hf⟩ := hd
  rcases open_ints ht he hc hf with ⟨h1, _⟩ | ⟨a, len, cap, zs, h1, _, hlc, hcm, hzl, hx, hz, _⟩
  · have h1 : [Value.slice a0 len0 cap0] = [.slice none 0 0] := h1
    injection h1 with h1 _
    injection h1 with _ h2
    omega
  · have h1 : [Value.slice a0 len0 cap0] = [.slice (some a) len cap] := h1
    injection h1 with h1 _
    injection h1 with _ h2
    have hlz : len ≤ zs.length := by rw [hzl]; split <;> omega
    injection hx with hx _
    subst hx
    have := hw ((lits .u8 (zs.take len)).length * 1 + (lits .u8 (zs.drop len)).length * 1) (by
      simp only [DataW.weights, ht, hby]
      rw [← Nat.add_mul]
      exact List.mem_cons_self)
    have hl : (lits (H := H) .u8 (zs.take len)).length = len := by simp [lits]; omega
    rw [hl] at this
    omega
theorem each_sized {ts : List TypeId} {ds : List (DataW H)} (h : (DataW.weightsEach P ts ds).all (· ≤ reachBytes) = true) {j : Nat} {t : TypeId} {d : DataW H} (ht : ts[j]? = some t) (hd : ds[j]? = some d) : ∀ n ∈ d.weights P t, n ≤ RB := fun n hn => by
  have := List.all_eq_true.1 h _ (DataW.weights_mem_each ht hd n hn)
  exact of_decide_eq_true this
end
end Go.Proofs.Ytmnmhmpklknleaa

/-
  Arguments that are structs of numbers, bools and strings: opened, part by part.
-/
namespace Go.Proofs.Ytmnmhmpklknleaa
open Go Go.ChangeShapes Go.WideShapes Go.ChangeAt Go.RowKit

section
variable {P : Program} {t : TypeId}
theorem open_cells {W : World} {b0 : Nat} {v : Value} {ts : List TypeId} {fs : Array Field} (hT : P.underlying t = some (.struct fs)) (hct : P.cellTypes P.depth t = some ts) (hsz : P.cellsOf t = ts.length) (hval : Value.okWide P W .any b0 t v) :
    ∃ cs, v = .agg cs ∧ cs.size = ts.length ∧ ∀ (i : Nat) u, ts[i]? = some u → ∃ x, cs[i]? = some x ∧ Cell.okWide P W .any b0 u x := by
  unfold Value.okWide at hval
  rw [hT] at hval
  obtain ⟨cs, rfl, h1, ts', h2, _, h3⟩ := hval
  have e : ts' = ts := Option.some.inj (h2.symm.trans hct)
  subst e
  refine ⟨cs, rfl, h1.trans hsz, fun i u hi => ?_⟩
  have hlt : i < ts'.length := (List.getElem?_eq_some_iff.1 hi).1
  have hcs : i < cs.size := by omega
  obtain ⟨u', h4, h5⟩ := h3 i cs[i] (Array.getElem?_eq_getElem hcs)
  rw [Nat.mod_eq_of_lt hlt, hi] at h4
  injection h4 with h4
  subst h4
  exact ⟨_, Array.getElem?_eq_getElem hcs, h5⟩
theorem cell_int {W : World} {b0 : Nat} {u : TypeId} {x : Value} {k : IntKind} (hu : P.underlying u = some (.int k)) (h : Cell.okWide P W .any b0 u x) : ∃ z : Int, x = .int k z ∧ k.has z := by
  unfold Cell.okWide at h
  rw [hu] at h
  unfold Cell.ok at h
  rw [hu] at h
  cases x <;> simp_all
theorem cell_bool {W : World} {b0 : Nat} {u : TypeId} {x : Value} (hu : P.underlying u = some .bool) (h : Cell.okWide P W .any b0 u x) : ∃ b : Bool, x = .bool b := by
  unfold Cell.okWide at h
  rw [hu] at h
  unfold Cell.ok at h
  rw [hu] at h
  cases x <;> simp_all
theorem cell_str {W : World} {b0 : Nat} {u : TypeId} {x : Value} (hu : P.underlying u = some .string) (h : Cell.okWide P W .any b0 u x) : ∃ l : List Nat, (∀ b ∈ l, b < 256) ∧ x = sv l := by
  unfold Cell.okWide at h
  rw [hu] at h
  unfold Cell.ok at h
  rw [hu] at h
  cases x with
  | string s =>
    obtain ⟨l, hl, rfl⟩ := str_list s
    exact ⟨l, hl, rfl⟩
  | _ => simp_all
/-- A row of numbers without a sign. -/
theorem seg_nat {W : World} {b0 : Nat} {ts : List TypeId} {cs : Array Value} (hc : ∀ (i : Nat) u, ts[i]? = some u → ∃ x, cs[i]? = some x ∧ Cell.okWide P W .any b0 u x) (off len : Nat) {u : TypeId} {k : IntKind} {bound : Nat} (hu : P.underlying u = some (.int k)) (hb : ∀ z : Int, k.has z → 0 ≤ z ∧ z < bound) (hts : ∀ j, j < len → ts[off + j]? = some u) :
    ∃ f : Nat → Nat, (∀ j, j < len → cs[off + j]? = some (.int k (f j : Int))) ∧ ∀ j, j < len → f j < bound := by
  have key : ∀ j, j < len → ∃ z : Int, cs[off + j]? = some (.int k z) ∧ 0 ≤ z ∧ z < bound := fun j hj => by
    obtain ⟨x, h1, h2⟩ := hc _ _ (hts j hj)
    obtain ⟨z, rfl, h3⟩ := cell_int hu h2
    exact ⟨z, h1, hb z h3⟩
  refine ⟨fun j => match cs[off + j]? with
    | some (.int _ z) => z.toNat
    | _ => 0, fun j hj => ?_, fun j hj => ?_⟩
  · obtain ⟨z, h1, h2, _⟩ := key j hj
    simp only [h1]
    congr 2
    omega
  · obtain ⟨z, h1, h2, h3⟩ := key j hj
    simp only [h1]
    omega
theorem seg_int {W : World} {b0 : Nat} {ts : List TypeId} {cs : Array Value} (hc : ∀ (i : Nat) u, ts[i]? = some u → ∃ x, cs[i]? = some x ∧ Cell.okWide P W .any b0 u x) (off : Nat) {u : TypeId} {k : IntKind} (hu : P.underlying u = some (.int k)) (hts : ts[off]? = some u) :
    ∃ z : Int, (∀ j, j < 1 → cs[off + j]? = some (.int k z)) ∧ k.has z := by
  obtain ⟨x, h1, h2⟩ := hc _ _ hts
  obtain ⟨z, rfl, h3⟩ := cell_int hu h2
  exact ⟨z, fun j hj => by rw [show off + j = off by omega]; exact h1, h3⟩
theorem seg_bool {W : World} {b0 : Nat} {ts : List TypeId} {cs : Array Value} (hc : ∀ (i : Nat) u, ts[i]? = some u → ∃ x, cs[i]? = some x ∧ Cell.okWide P W .any b0 u x) (off : Nat) {u : TypeId} (hu : P.underlying u = some .bool) (hts : ts[off]? = some u) :
    ∃ b : Bool, ∀ j, j < 1 → cs[off + j]? = some (.bool b) := by
  obtain ⟨x, h1, h2⟩ := hc _ _ hts
  obtain ⟨b, rfl⟩ := cell_bool hu h2
  exact ⟨b, fun j hj => by rw [show off + j = off by omega]; exact h1⟩
theorem seg_str {W : World} {b0 : Nat} {ts : List TypeId} {cs : Array Value} (hc : ∀ (i : Nat) u, ts[i]? = some u → ∃ x, cs[i]? = some x ∧ Cell.okWide P W .any b0 u x) (off : Nat) {u : TypeId} (hu : P.underlying u = some .string) (hts : ts[off]? = some u) :
    ∃ l : List Nat, (∀ j, j < 1 → cs[off + j]? = some (sv l)) ∧ ∀ b ∈ l, b < 256 := by
  obtain ⟨x, h1, h2⟩ := hc _ _ hts
  obtain ⟨l, hl, rfl⟩ := cell_str hu h2
  exact ⟨l, fun j hj => by rw [show off + j = off by omega]; exact h1, hl⟩
def SegOk (cs : Array Value) : Nat → List Part → Prop
  | _, [] => True
  | off, p :: ps => (∀ j, j < p.1 → cs[off + j]? = some (p.2 j)) ∧ SegOk cs (off + p.1) ps
def total : List Part → Nat
  | [] => 0
  | p :: ps => p.1 + total ps
theorem seg_cat {cs : Array Value} : ∀ (ps : List Part) (off : Nat), SegOk cs off ps → ∀ i, i < total ps → cs[off + i]? = some (catF ps i)
  | [], _, _, i, hi => by simp [total] at hi
  | p :: ps, off, ⟨h1, h2⟩, i, hi => by
    simp only [catF]
    by_cases hp : i < p.1
    · rw [if_pos hp]; exact h1 i hp
    · rw [if_neg hp]
      have := seg_cat ps (off + p.1) h2 (i - p.1) (by simp only [total] at hi; omega)
      rw [show off + p.1 + (i - p.1) = off + i by omega] at this
      exact this
theorem cells_make {cs : Array Value} {N : Nat} {ps : List Part} (hs : cs.size = N) (ht : total ps = N) (h : SegOk cs 0 ps) : cs = cells N ps := by
  apply Array.ext_getElem?
  intro i
  by_cases hi : i < N
  · have := seg_cat ps 0 h i (by omega)
    rw [Nat.zero_add] at this
    rw [this, arrv_get hi]
  · rw [Array.getElem?_eq_none (by omega), Array.getElem?_eq_none (by rw [arrv_size]; omega)]
theorem has_u8 (z : Int) (h : IntKind.u8.has z) : 0 ≤ z ∧ z < (256 : Nat) := by
  simp [IntKind.has, IntKind.min, IntKind.max, IntKind.signed, IntKind.bits] at h
  omega
theorem has_u32 (z : Int) (h : IntKind.u32.has z) : 0 ≤ z ∧ z < (4294967296 : Nat) := by
  simp [IntKind.has, IntKind.min, IntKind.max, IntKind.signed, IntKind.bits] at h
  omega
theorem has_u64 (z : Int) (h : IntKind.u64.has z) : 0 ≤ z ∧ z < (18446744073709551616 : Nat) := by
  simp [IntKind.has, IntKind.min, IntKind.max, IntKind.signed, IntKind.bits] at h
  omega
theorem has_i64 (z : Int) (h : IntKind.i64.has z) : -9223372036854775808 ≤ z ∧ z < 9223372036854775808 := by
  simp [IntKind.has, IntKind.min, IntKind.max, IntKind.signed, IntKind.bits] at h
  omega
end
end Go.Proofs.Ytmnmhmpklknleaa

/-
  A string becomes bytes of one's own.
-/
namespace Go.Proofs.Ytmnmhmpklknleaa
open Go Go.RowKit

theorem bytesRow_list {l : List Nat} (hl : ∀ b ∈ l, b < 256) {cap : Nat} (h : l.length ≤ cap) : (bytesRow (bstr l) cap).toList.take l.length = l.map by8 ∧ (bytesRow (bstr l) cap).size = cap := by
  have hz : (bstr l).size = l.length := by simp [bstr, ByteArray.size]
  have e : ((bstr l).data.map (fun b => Value.int .u8 b.toNat)).toList = l.map by8 := by
    unfold bstr
    simp only [Array.toList_map, List.map_map]
    exact List.map_congr_left fun n hn => by
      have := hl n hn
      simp [by8, Nat.mod_eq_of_lt this]
  constructor
  · unfold bytesRow
    rw [Array.toList_append, e, List.take_append_of_le_length (by simp), List.take_of_length_le (by simp)]
  · unfold bytesRow
    have e2 : ((bstr l).data.map (fun b => Value.int .u8 b.toNat)).size = l.length := by rw [← Array.length_toList, e, List.length_map]
    rw [Array.size_append, e2, Array.size_replicate, hz]; omega
section
variable {P : Program} {G : Mem} {R : Reg} {ops : Array Oper} {K : Act → Mem → Prop} {rest : List Oper} {a : Act} {m : Mem} {d : Option Tmp} {ty : TypeId} {pos : String} {aft : Array Edge}
variable {T T' : TypeId} {x y : Operand}
theorem st_conv_own {e : TypeId} {l : List Nat} (hv : kconv R T T' = 4) (hs : P.underlying T = some .string) (ht : P.underlying T' = some (.slice e)) (he : P.underlying e = some (.int .u8)) (hx : a.eval x = sv l) (hl : ∀ b ∈ l, b < 256) (hm : l.length ≤ maxLen)
    (h : ∀ v nw, OwnS e 1 v l.length (l.map by8) nw → FreshM m nw → opsM P G R ops K rest (a.put d v) (m ++ nw)) : opsM P G R ops K (⟨d, .convert T T' x, ty, pos, aft, none⟩ :: rest) a m := by
  have hz : (bstr l).size = l.length := by simp [bstr, ByteArray.size]
  have hc : cls R ⟨d, .convert T T' x, ty, pos, aft, none⟩ = 4 := by simp only [cls, hv]
  refine .inr ⟨rfl, ?_⟩
  rw [hc]
  refine ⟨fun v nw => OwnS e 1 v l.length (l.map by8) nw, ?_, ?_, h⟩
  · obtain ⟨r, hr⟩ := fresh_of m
    exact ⟨.slice (some ⟨r, 0, none⟩) l.length l.length, [⟨r, (l.map by8).toArray, e⟩], .inr ⟨r, l.length, _, rfl, rfl, Nat.le_refl _, hm, by simp, by simp, by rw [Nat.mul_one]; exact List.take_of_length_le (by simp)⟩, by simp, by simpa using hr⟩
  · intro w _ _
    have hr := run_bytes_of_string (P := P) w T T' e (bstr l) hs ht he
    rw [hz] at hr
    have hge := grownCap_ge w l.length 0 e
    obtain ⟨h1, h2⟩ := bytesRow_list hl hge
    have hp := post_marked w (bytesRow (bstr l) (grownCap w l.length 0 e)) e
    refine .inl ⟨_, [], [⟨w.heap.size, bytesRow (bstr l) (grownCap w l.length 0 e), e⟩], _, ?_, ⟨rfl, .inr ⟨_, _, _, rfl, rfl, hge, grownCap_le_maxLen w l.length 0 e hm, ?_, by simp, ?_⟩⟩, hp⟩
    · simp only [execOp, hx]
      rw [show sv l = .string (bstr l) from rfl, Sem.run_bind, hr]
      rfl
    · rw [h2, Nat.mul_one]
    · rw [Nat.mul_one]; exact h1
/-- The run-time marks the place behind bytes that a text was written into. -/
theorem run_mark {w : World} {b o len cap : Nat} {c : Array Value} {t e : TypeId} (hin : In w ⟨b, c, t⟩) (ht : P.underlying T = some (.slice e)) (he : P.underlying e = some (.int .u8)) :
    ∃ w', (convert T T (.slice (some ⟨b, o, none⟩) len cap)).run P w = .ok (.slice (some ⟨b, o, none⟩) len cap) w' ∧ Post [⟨b, c, t⟩] [⟨b, c, t⟩] [] w w' := by
  obtain ⟨q, h1, h2⟩ := hin
  have hlt : b < w.heap.size := (Array.getElem?_eq_some_iff.1 h1).1
  have hsh : w.shape? b = some (t, c.size) := by unfold World.shape?; simp only [h1]
  have hoth : ∀ k, k ≠ b → (w.freeze ⟨b, c.size, none⟩ 1).heap[k]? = w.heap[k]? := fun k hk => by
    unfold World.freeze
    rw [if_neg (by decide)]
    simp only
    rw [Array.getElem?_modify, if_neg (fun e => hk e.symm)]
  have hthis : In (w.freeze ⟨b, c.size, none⟩ 1) ⟨b, c, t⟩ := by
    obtain ⟨lo, hi⟩ := q
    refine ⟨if lo == hi then (c.size, c.size + 1) else (min lo c.size, max hi (c.size + 1)), ?_, ?_⟩
    · unfold World.freeze
      rw [if_neg (by decide)]
      simp only
      rw [Array.getElem?_modify, if_pos rfl, h1]
      rfl
    · by_cases hq : lo = hi
      · subst hq; simp [Thawed]
      · have : c.size ≤ lo := h2.resolve_left hq
        have e2 : (lo == hi) = false := by simp [hq]
        rw [e2]
        exact .inr (by show c.size ≤ min lo c.size; omega)
  refine ⟨w.freeze ⟨b, c.size, none⟩ 1, ?_, ⟨⟨?_, ?_, ?_, ?_, fun k _ hk => hoth k (by simpa using hk)⟩, fun x hx => ?_, by simp [MemIn], by simp, by simp⟩⟩
  · simp [convert, run_underlying ht, run_underlying he, markStringish, hsh]
  · simp [World.freeze]
  · simp [World.freeze]
  · simp [World.freeze]
  · simp [World.freeze]
  · simp at hx; subst hx; exact hthis
theorem st_conv_mark {b o len cap : Nat} {c : Array Value} {t e : TypeId} {lr : Mem} (hv : kconv R T T = 5) (ht : P.underlying T = some (.slice e)) (he : P.underlying e = some (.int .u8)) (hx : a.eval x = .slice (some ⟨b, o, none⟩) len cap)
    (hp : List.Perm m (⟨b, c, t⟩ :: lr)) (h : opsM P G R ops K rest (a.put d (.slice (some ⟨b, o, none⟩) len cap)) (⟨b, c, t⟩ :: lr)) : opsM P G R ops K (⟨d, .convert T T x, ty, pos, aft, none⟩ :: rest) a m := by
  have hc : cls R ⟨d, .convert T T x, ty, pos, aft, none⟩ = 5 := by simp only [cls, hv]
  refine .inr ⟨rfl, ?_⟩
  rw [hc]
  refine ⟨[⟨b, c, t⟩], lr, fun v l1 nw => v = .slice (some ⟨b, o, none⟩) len cap ∧ l1 = [⟨b, c, t⟩] ∧ nw = [], by simpa using hp, ⟨_, _, _, ⟨rfl, rfl, rfl⟩, by simp, by simp⟩, ?_, ?_, ?_⟩
  · rintro v l1 nw ⟨_, rfl, _⟩; rfl
  · intro w _ hm _
    obtain ⟨w', h1, h2⟩ := run_mark (P := P) (T := T) (o := o) (len := len) (cap := cap) (hm ⟨b, c, t⟩ (hp.mem_iff.2 (by simp))) ht he
    refine .inl ⟨_, _, _, w', ?_, ⟨rfl, rfl, rfl⟩, h2⟩
    simp only [execOp, hx]
    rw [Sem.run_bind, h1]
    rfl
  · rintro v l1 nw ⟨rfl, rfl, rfl⟩ _
    simpa using h
end
section
variable {P : Program} {G : Mem} {R : Reg} {ops : Array Oper} {n : Nat} {K : Env → Mm → Prop} {rest : List Oper} {E : Env} {M : Mm} {d : Nat} {ty : TypeId} {pos : String} {aft : Array Edge}
variable {T T' : TypeId} {x y : Operand}
theorem e_conv_own (i : Nat) {e : TypeId} {l : List Nat} (hs : P.underlying T = some .string) (ht : P.underlying T' = some (.slice e)) (he : P.underlying e = some (.int .u8)) (hx : rd E x = some (sv l)) (hl : ∀ b ∈ l, b < 256) (hm : l.length ≤ maxLen) (hd : Nat.blt d n = true) (hv : kconv R T T' = 4)
    (h : ∀ v (oz : Option Blk), OwnS e 1 v l.length (l.map by8) oz.toList → OpsE P G R ops n K rest ((d, v) :: E) ((i, oz) :: M)) : OpsE P G R ops n K (⟨some d, .convert T T' x, ty, pos, aft, none⟩ :: rest) E M :=
  fun _ m ha hM => st_conv_own hv hs ht he (ha.rd hx) hl hm fun v nw ho hf => by
    obtain ⟨oz, rfl⟩ := own_opt ho
    have := hM.fresh i (l0 := []) (lr := m) (by simp) hf
    exact h v oz ho _ _ (ha.put hd _) (by simpa using this)
theorem e_conv_mark (i : Nat) {b o len cap : Nat} {c : Array Value} {t e : TypeId} (ht : P.underlying T = some (.slice e)) (he : P.underlying e = some (.int .u8)) (hx : rd E x = some (.slice (some ⟨b, o, none⟩) len cap)) (hm : lkM M i = some ⟨b, c, t⟩) (hd : Nat.blt d n = true) (hv : kconv R T T = 5)
    (h : OpsE P G R ops n K rest ((d, .slice (some ⟨b, o, none⟩) len cap) :: E) M) : OpsE P G R ops n K (⟨some d, .convert T T x, ty, pos, aft, none⟩ :: rest) E M :=
  fun _ m ha hM => by
    obtain ⟨lr, hp⟩ := hM.perm1 hm
    refine st_conv_mark hv ht he (ha.rd hx) (by simpa using hp) (h _ _ (ha.put hd _) ⟨fun j z hz => ?_, hM.apart⟩)
    have := hp.mem_iff.1 (hM.has j z hz)
    simpa using this
end
end Go.Proofs.Ytmnmhmpklknleaa

/-
  Walks, written by a program of ours off the loaded functions.
-/
namespace Go.Proofs.Ytmnmhmpklknleaa
open Go Go.RowKit


theorem added_msg {G : Mem} (f : Nat → Nat) (m : List Nat) (v : Value) (l : List Nat) (hf : ∀ j, j < 32 → f j < 256) (hm : ∀ b ∈ m, b < 256) (hv : Shows G 1 v l.length (l.map by8)) (hlb : ∀ b ∈ l, b < 256) (hlen : l.length + 16 ≤ 9223372036854775807) :
    Fn Try.prog G 14 #[stP f m, v] (.tuple #[stP f (m ++ l), ii 0]) := by
  have hb := bL_lt hf
  have h := added_ok (G := G) (w8 (bL f)) (fun j => w8 (bL f) (j + 2)) (acc0 (k3 (w8 (bL f))) m) (heldF m) (rem16 m).length v l hv hlb (Nat.lt_trans (acc0_lt _ _) QQ_lt) (w8_lt hb 0) (w8_lt hb 1) (by rw [rem16_len]; omega) (fun j _ => heldF_lt hm j) (ok_heldF (okR_begun hf) _ m) hlen
  rw [sS_held, acc0_app, rem16_app] at h
  exact h
theorem ended_msg {G : Mem} (f : Nat → Nat) (m : List Nat) (hf : ∀ j, j < 32 → f j < 256) (hm : ∀ b ∈ m, b < 256) : Fn Try.prog G 16 #[stP f m] (.tuple #[.agg (arr .u8 16 (ptg f m)), ii 0]) := by
  have hb := bL_lt hf
  have hok := ok_heldF (okR_begun hf) (k3 (w8 (bL f))) m
  by_cases h0 : (rem16 m).length = 0
  · have h := ended_zero (G := G) (w8 (bL f)) (fun j => w8 (bL f) (j + 2)) (acc0 (k3 (w8 (bL f))) m) (heldF m) (rem16 m).length (w8_lt hb 0) (w8_lt hb 1) (w8_lt hb 2) (w8_lt hb 3) h0 hok
    unfold stP cP
    rw [show acc0 (k3 (w8 (bL f))) m = accE (k3 (w8 (bL f))) m from (if_pos h0).symm] at h ⊢
    exact h
  · have h := ended_some (G := G) (w8 (bL f)) (fun j => w8 (bL f) (j + 2)) (acc0 (k3 (w8 (bL f))) m) (heldF m) (rem16 m).length (w8_lt hb 0) (w8_lt hb 1) (w8_lt hb 2) (w8_lt hb 3) (Nat.lt_trans (acc0_lt _ _) QQ_lt) (fun j _ => heldF_lt hm j) (by omega) (by rw [rem16_len]; omega) hok
    rw [held_list, show pst (k3 (w8 (bL f))) (acc0 (k3 (w8 (bL f))) m) (rem16 m) = accE (k3 (w8 (bL f))) m from (if_neg h0).symm] at h
    exact h


variable {G : Mem}

set_option maxHeartbeats 2000000 in
theorem tag_fn (f : Nat → Nat) (hf : ∀ j, j < 32 → f j < 256) (l : List Nat) (hb : ∀ b ∈ l, b < 256) (hl : l.length ≤ 140737488351232) : Fn Try.prog G 18 #[.agg (arr .u8 32 f), sv l] (.agg (arr .u8 16 (ptg f l))) := by
  have hl2 : l.length + 16 ≤ 9223372036854775807 := by omega
  refine fn1 (n := 23) Try.func18 rfl rfl (by simp) (argE [.agg (arr .u8 32 f), sv l] 0) (argE_ok _) ?_
  refine e_seq ?_
  refine e_plain ?_
  refine e_box 0 rfl rfl fun r1 => ?_
  refine e_alloc 1 zer26 rfl fun r2 => ?_
  refine e_nil ?_
  refine e_seq ?_
  refine e_plainR ⟨[], 1, [33]⟩ ?_
  refine e_loadA (i := 0) und46 rfl siz46 rfl rfl (arr_size _ _ _) rfl ⟨[], trivial⟩ ?_
  refine e_call rfl ent11 (begun_fn f hf) rfl rfl ?_
  refine e_as (stP_nil f) ?_
  refine e_move rfl rfl ?_
  refine e_conv_own 2 und9 und33 und5 rfl hb (by simp only [maxLen]; omega) rfl rfl fun v1_1 oz1_1 ho1_1 => ?_
  refine e_callV oz1_1.toList rfl rfl ent14 (subM_opt (i := 2) rfl) (added_msg (G := oz1_1.toList) f [] v1_1 l hf (by simp) (own_bytes ho1_1) hb hl2) rfl rfl rfl ?_
  refine e_as (show _ = Value.tuple #[stP f l, ii 0] from rfl) ?_
  refine e_move rfl rfl ?_
  refine e_extract rfl rfl rfl ?_
  refine e_extract rfl rfl rfl ?_
  refine e_alloc 3 zer28 rfl fun r4 => ?_
  refine e_storeA (i := 3) siz28 rfl rfl (arrv_size _ _) (cells_one ⟨fun _ => rfl, fun _ => rfl, fun _ => rfl, fun _ => rfl, fun _ => rfl, trivial⟩) rfl cells_sz (.inl rfl) ?_
  refine e_assign rfl rfl ?_
  refine e_nil ?_
  refine e_seq ?_
  refine e_plain ?_
  refine e_loadA (i := 3) und28 rfl siz28 rfl rfl (arrv_size _ _) rfl ⟨[], trivial⟩ ?_
  refine e_call rfl ent16 (ended_msg f l hf hb) rfl rfl ?_
  refine e_move rfl rfl ?_
  refine e_extract rfl rfl rfl ?_
  refine e_extract rfl rfl rfl ?_
  refine e_alloc 4 zer26 rfl fun r5 => ?_
  refine e_storeA (i := 4) siz26 rfl rfl (arr_size _ _ _) arr_one rfl (arr_sz _ _ _ _ _) (.inl rfl) ?_
  refine e_assign rfl rfl ?_
  refine e_nil ?_
  refine e_seq ?_
  refine e_plain ?_
  refine e_loadA (i := 4) und26 rfl siz26 rfl rfl (arr_size _ _ _) rfl ⟨[], trivial⟩ ?_
  refine e_storeA (i := 1) siz26 rfl rfl (arr_size _ _ _) arr_one rfl (arr_sz _ _ _ _ _) (.inl rfl) ?_
  refine e_nil ?_
  refine e_ret ?_
  exact ⟨_, rfl, .cell (i := 1) rfl rfl und26 rfl siz26 (arr_size _ _ _)⟩

end Go.Proofs.Ytmnmhmpklknleaa

/-
  The tag of RFC 8439, reckoned.
-/
namespace Go.Proofs.Ytmnmhmpklknleaa
open Go Go.RowKit

abbrev pkL : List Nat := [133, 214, 190, 120, 87, 85, 109, 51, 127, 68, 82, 254, 66, 213, 6, 168, 1, 3, 128, 138, 251, 13, 178, 253, 74, 191, 246, 175, 65, 73, 245, 27]
def pkk (j : Nat) : Nat := pkL.getD j 0
abbrev pkm : List Nat := [67, 114, 121, 112, 116, 111, 103, 114, 97, 112, 104, 105, 99, 32, 70, 111, 114, 117, 109, 32, 82, 101, 115, 101, 97, 114, 99, 104, 32, 71, 114, 111, 117, 112]
abbrev pkA : List Nat := [168, 6, 29, 193, 48, 81, 54, 198]
theorem pkk_lt : ∀ j, j < 32 → pkk j < 256 := by decide
theorem pkm_lt : ∀ b ∈ pkm, b < 256 := by decide
theorem pkm_le : pkm.length ≤ 140737488351232 := by decide
theorem pk_out : ∀ i, i < 8 → ptg pkk pkm i = pkA.getD i 0 := by decide +kernel

end Go.Proofs.Ytmnmhmpklknleaa

/-
  Walks, written by a program of ours off the loaded functions.
-/
namespace Go.Proofs.Ytmnmhmpklknleaa
open Go Go.RowKit


theorem ent17 : enters Try.prog 17 = true := by kernel_rfl
theorem ent18 : enters Try.prog 18 = true := by kernel_rfl
theorem ent19 : enters Try.prog 19 = true := by kernel_rfl

variable {G : Mem}

set_option maxHeartbeats 2000000 in
theorem polyTags_fn (f : Nat → Nat) (hf : ∀ j, j < 32 → f j < 256) (v : Value) (l : List Nat) (hv : Shows G 1 v l.length (l.map by8)) (hb : ∀ b ∈ l, b < 256) (hl : l.length ≤ 140737488351232) (hT : ∀ (G : Mem) (f : Nat → Nat) (v : Value) (l : List Nat), (∀ j, j < 32 → f j < 256) → (∀ b ∈ l, b < 256) → l.length ≤ 140737488351232 → Shows G 1 v l.length (l.map by8) → Fn Try.prog G 17 #[.agg (arr .u8 32 f), v] (.agg (arr .u8 16 (ptg f l)))) : Fn Try.prog G 6 #[.agg (arr .u8 32 f), v] (.bool true) := by
  refine fn1 (n := 17) Try.func6 rfl rfl (by simp) (argE [.agg (arr .u8 32 f), v] 0) (argE_ok _) ?_
  refine e_seq ?_
  refine e_plain ?_
  refine e_box 0 rfl rfl fun r1 => ?_
  refine e_assign rfl rfl ?_
  refine e_nil ?_
  refine e_seq ?_
  refine e_plain ?_
  refine e_loadA (i := 0) und22 rfl siz22 rfl rfl (arr_size _ _ _) rfl ⟨[], trivial⟩ ?_
  refine e_move rfl rfl ?_
  refine e_call rfl ent17 (hT G f v l hf hb hl hv) rfl rfl ?_
  refine e_alloc 1 zer26 rfl fun r2 => ?_
  refine e_storeA (i := 1) siz26 rfl rfl (arr_size _ _ _) arr_one rfl (arr_sz _ _ _ _ _) (.inl rfl) ?_
  refine e_nil ?_
  refine e_seq ?_
  refine e_plain ?_
  refine e_loadA (i := 0) und22 rfl siz22 rfl rfl (arr_size _ _ _) rfl ⟨[], trivial⟩ ?_
  refine e_move rfl rfl ?_
  refine e_conv_strV hv seenG und33 und5 und9 rfl rfl rfl ?_
  refine e_call rfl ent18 (tag_fn f hf l hb hl) rfl rfl ?_
  refine e_alloc 2 zer26 rfl fun r3 => ?_
  refine e_storeA (i := 2) siz26 rfl rfl (arr_size _ _ _) arr_one rfl (arr_sz _ _ _ _ _) (.inl rfl) ?_
  refine e_nil ?_
  refine e_seq ?_
  refine e_plain ?_
  refine e_loadA (i := 1) und26 rfl siz26 rfl rfl (arr_size _ _ _) rfl ⟨[], trivial⟩ ?_
  refine e_loadA (i := 2) und26 rfl siz26 rfl rfl (arr_size _ _ _) rfl ⟨[], trivial⟩ ?_
  refine e_eqA und26 und5 siz5 eqg26 rfl rfl rfl ?_
  refine e_as (congrArg Value.bool (allEq_iff.2 (fun _ _ => rfl))) ?_
  refine e_assign rfl rfl ?_
  refine e_nil ?_
  refine e_ret ?_
  exact ⟨_, rfl, .tmp rfl⟩

set_option maxHeartbeats 400000 in
theorem picked_fn (z : Int) (m : Nat) (hm : 0 < m) (hm2 : m < 4294967296) : Fn Try.prog G 19 #[.int .i64 z, ii m] (ii (pkn z m)) := by
  have htm := tmod_bd z hm
  refine fn1 (n := 14) Try.func19 rfl rfl (by simp) (argE [.int .i64 z, ii m] 0) (argE_ok _) ?_
  refine e_seq ?_
  refine e_plain ?_
  refine e_assign rfl rfl ?_
  refine e_nil ?_
  refine e_seq ?_
  refine e_plain ?_
  refine e_move rfl rfl ?_
  refine e_move rfl rfl ?_
  refine e_rem_z rfl rfl rfl (by omega) ?_
  refine e_assign rfl rfl ?_
  refine e_nil ?_
  refine e_seq ?_
  refine e_seq ?_
  refine e_plain ?_
  refine e_move rfl rfl ?_
  refine e_lt rfl rfl rfl ?_
  refine e_nil ?_
  refine e_cond rfl ?_ ?_
  · intro hc0
    have hc0 := of_decide_eq_true hc0
    refine e_plain ?_
    refine e_move rfl rfl ?_
    refine e_move rfl rfl ?_
    refine e_add_z rfl rfl rfl (by omega) (by omega) ?_
    refine e_as (congrArg (Value.int .i64) (pkn_neg hm hc0)) ?_
    refine e_assign rfl rfl ?_
    refine e_nil ?_
    refine e_seq ?_
    refine e_plain ?_
    refine e_move rfl rfl ?_
    refine e_assign rfl rfl ?_
    refine e_nil ?_
    refine e_ret ?_
    exact ⟨_, rfl, .tmp rfl⟩
  · intro hc0
    have hc0 := of_decide_eq_false hc0
    rw [ii, ← pkn_pos hm hc0]
    refine e_skip ?_
    refine e_seq ?_
    refine e_plain ?_
    refine e_move rfl rfl ?_
    refine e_assign rfl rfl ?_
    refine e_nil ?_
    refine e_ret ?_
    exact ⟨_, rfl, .tmp rfl⟩

set_option maxHeartbeats 2000000 in
theorem polyKnown_fn (z : Int) (hT : ∀ (G : Mem) (f : Nat → Nat) (v : Value) (l : List Nat), (∀ j, j < 32 → f j < 256) → (∀ b ∈ l, b < 256) → l.length ≤ 140737488351232 → Shows G 1 v l.length (l.map by8) → Fn Try.prog G 17 #[.agg (arr .u8 32 f), v] (.agg (arr .u8 16 (ptg f l)))) : Fn Try.prog G 8 #[.int .i64 z] (.bool true) := by
  have hp := pkn_lt z (show 0 < 8 by decide)
  have hpo := pk_out (pkn z 8) hp
  refine fn1 (n := 19) Try.func8 rfl rfl (by simp) (argE [.int .i64 z] 0) (argE_ok _) ?_
  refine e_seq ?_
  refine e_plain ?_
  refine e_assign rfl rfl ?_
  refine e_nil ?_
  refine e_seq ?_
  refine e_plain ?_
  refine e_build (arr .u8 32 pkk) zer46 und46 siz5 rfl (by kernel_rfl) rfl ?_
  refine e_alloc 0 zer46 rfl fun r1 => ?_
  refine e_storeA (i := 0) siz46 rfl rfl (arr_size _ _ _) arr_one rfl (arr_sz _ _ _ _ _) (.inl rfl) ?_
  refine e_nil ?_
  refine e_seq ?_
  refine e_plainR ⟨[], 1, [33]⟩ ?_
  refine e_loadA (i := 0) und46 rfl siz46 rfl rfl (arr_size _ _ _) rfl ⟨[], trivial⟩ ?_
  refine e_buildSl 1 ((pkm.map by8).toArray) und33 siz5 zer5 (by decide) (by decide) rfl (by kernel_rfl) rfl fun r2 => ?_
  refine e_conv_mark 1 und33 und5 rfl rfl rfl rfl ?_
  refine e_callV [⟨r2, (pkm.map by8).toArray, 5⟩] rfl rfl ent17 ⟨⟨1, rfl⟩, trivial⟩ (hT [⟨r2, (pkm.map by8).toArray, 5⟩] pkk _ pkm pkk_lt pkm_lt pkm_le (shows_new _ _ (by rfl))) rfl rfl rfl ?_
  refine e_alloc 2 zer26 rfl fun r3 => ?_
  refine e_storeA (i := 2) siz26 rfl rfl (arr_size _ _ _) arr_one rfl (arr_sz _ _ _ _ _) (.inl rfl) ?_
  refine e_nil ?_
  refine e_seq ?_
  refine e_plain ?_
  refine e_move rfl rfl ?_
  refine e_call rfl ent19 (picked_fn z 8 (by decide) (by decide)) rfl rfl ?_
  refine e_assign rfl rfl ?_
  refine e_nil ?_
  refine e_seq ?_
  refine e_draw mixed (by kernel_rfl) ?_
  refine e_move rfl rfl ?_
  refine e_index0 und26 siz5 rfl rfl (by omega) rfl ?_
  refine e_load1 (i := 2) und5 rfl rfl rfl (arr_get (by omega)) rfl ⟨[], trivial⟩ ?_
  refine e_as (congrArg by8 hpo) ?_
  refine e_move rfl rfl ?_
  refine e_idxStr (l := [168, 6, 29, 193, 48, 81, 54, 198]) und9 rfl rfl (show pkA[pkn z 8]? = some (pkA.getD (pkn z 8) 0) by rw [List.getD_eq_getElem?_getD, List.getElem?_eq_getElem (show pkn z 8 < pkA.length from hp)]; rfl) (by rw [← hpo]; exact ptg_lt _ _ _) rfl ?_
  refine e_eq rfl rfl rfl ?_
  refine e_as (congrArg Value.bool (decide_eq_true rfl)) ?_
  refine e_assign rfl rfl ?_
  refine e_nil ?_
  refine e_ret ?_
  exact ⟨_, rfl, .tmp rfl⟩

end Go.Proofs.Ytmnmhmpklknleaa

/-
  Bytes that are cut in three; a key whose first half is nought.
-/
namespace Go.Proofs.Ytmnmhmpklknleaa
open Go Go.RowKit

def cut3 (i j n x : Nat) : Nat := if x = 0 then 0 else if x = 1 then i else if x = 2 then j else n
theorem cut3_le {i j n x : Nat} (hij : i ≤ j) (hjn : j ≤ n) (hx : x < 3) : cut3 i j n x ≤ cut3 i j n (x + 1) ∧ cut3 i j n (x + 1) ≤ n := by
  have : x = 0 ∨ x = 1 ∨ x = 2 := by omega
  rcases this with rfl | rfl | rfl
  · exact ⟨Nat.zero_le _, Nat.le_trans hij hjn⟩
  · exact ⟨hij, hjn⟩
  · exact ⟨hjn, Nat.le_refl _⟩
theorem take_part (l : List Nat) {a b : Nat} (h : a ≤ b) : l.take a ++ (l.drop a).take (b - a) = l.take b := by
  rw [← List.take_add, show a + (b - a) = b by omega]
theorem conv_from (f : Nat → Nat) (o n : Nat) : Value.string (strOfNums ((List.range n).map fun j => (f (o + j) : Int))) = sv ((List.range n).map fun j => f (o + j)) := by
  have e : ((List.range n).map fun j => (f (o + j) : Int)) = ((List.range n).map fun j => f (o + j)).map fun m : Nat => (m : Int) := by
    rw [List.map_map]
    exact List.map_congr_left fun j _ => by simp
  rw [e, str_nums]
theorem pst_zero (A : Nat) (l : List Nat) : pst 0 A l = 0 := by unfold pst; simp
theorem accs_zero (S : List Nat) : ∀ k, accs 0 0 S k = 0
  | 0 => rfl
  | _ + 1 => pst_zero _ _
theorem accE_zero (m : List Nat) : accE 0 m = 0 := by
  unfold accE
  split
  · exact accs_zero m _
  · exact pst_zero _ _
theorem leN_all0 : ∀ (l : List Nat), (∀ b ∈ l, b = 0) → leN l = 0
  | [], _ => rfl
  | b :: l, h => by
    rw [leN, h b (by simp), leN_all0 l (fun x hx => h x (by simp [hx]))]
theorem leN_two (l : List Nat) (hl : 8 ≤ l.length) : leN (l.take 8) + leN (l.drop 8) * 2 ^ 64 = leN l := by
  have h := leN_app (l.take 8) (l.drop 8)
  rw [List.take_append_drop] at h
  have e : (l.take 8).length = 8 := by simp; omega
  rw [e] at h
  rw [h]
  have : (256 : Nat) ^ 8 = 2 ^ 64 := by decide
  rw [this, Nat.mul_comm (2 ^ 64)]
theorem ptg_zero {z f : Nat → Nat} (h0 : ∀ j, j < 16 → z j = 0) (h1 : ∀ j, 16 ≤ j → j < 32 → z j = f j) (hf : ∀ j, j < 32 → f j < 256) (m : List Nat) {i : Nat} (hi : i < 16) : ptg z m i = f (16 + i) := by
  have hmz : ∀ j, j < 16 → msk z j = 0 := fun j hj => by
    unfold msk
    rw [h0 j hj]
    split
    · simp
    · split <;> simp
  have hmf : ∀ j, 16 ≤ j → j < 32 → msk z j = f j := fun j h2 h3 => by
    unfold msk
    rw [if_neg (by omega), if_neg (by omega), h1 j h2 h3]
  have eR : ∀ q, q < 2 → w8 (bL z) q = 0 := fun q hq => by
    unfold w8
    refine leN_all0 _ fun b hb => ?_
    obtain ⟨j, hj, rfl⟩ := List.getElem_of_mem hb
    have hj8 : j < 8 := by simp at hj; omega
    simp only [List.getElem_take, List.getElem_drop, bL, List.getElem_map, List.getElem_range]
    exact hmz _ (by omega)
  have eK : k3 (w8 (bL z)) = 0 := by unfold k3; rw [eR 0 (by decide), eR 1 (by decide)]
  have eL : (bL z).drop 16 = (List.range 16).map fun j => f (16 + j) := by
    apply List.ext_getElem
    · simp [bL]
    · intro j h2 h3
      have hj : j < 16 := by simpa using h3
      simp only [List.getElem_drop, bL, List.getElem_map, List.getElem_range]
      exact hmf _ (by omega) (by omega)
  have eP : (k3 fun j => w8 (bL z) (j + 2)) = leN ((List.range 16).map fun j => f (16 + j)) := by
    have h2 := leN_two ((List.range 16).map fun j => f (16 + j)) (by simp)
    rw [← h2, ← eL]
    show leN (((bL z).drop 16).take 8) + leN (((bL z).drop (16 + 8)).take 8) * 2 ^ 64 = _
    rw [← List.drop_drop]
    rw [List.take_of_length_le (l := ((bL z).drop 16).drop 8) (by simp [bL_len])]
  unfold ptg
  rw [eK, accE_zero, eP]
  unfold tgn
  have : k3 (wd 0) = 0 := by rw [wd_none]; rfl
  rw [this, Nat.zero_add, leN_get _ (fun b hb => by obtain ⟨j, hj, rfl⟩ := List.mem_map.1 hb; exact hf _ (by have := List.mem_range.1 hj; omega)) i (by simpa using hi)]
  simp
/-- The first half is written over with noughts. -/
def half0 (f : Nat → Nat) : Nat → Nat := fun j => if 0 ≤ j ∧ j < 0 + min (zrs 16).length 16 then (zrs 16).getD (j - 0) 0 else f j
theorem half0_lo (f : Nat → Nat) : ∀ j, j < 16 → half0 f j = 0 := fun j hj => by
  unfold half0
  rw [if_pos (by rw [zrs_len]; omega)]
  simp [zrs, List.getD_eq_getElem?_getD, hj]
theorem half0_hi (f : Nat → Nat) : ∀ j, 16 ≤ j → j < 32 → half0 f j = f j := fun j h1 h2 => by
  unfold half0
  rw [if_neg (by rw [zrs_len]; omega)]
theorem half0_lt {f : Nat → Nat} (hf : ∀ j, j < 32 → f j < 256) : ∀ j, j < 32 → half0 f j < 256 := fun j hj => by
  by_cases h : j < 16
  · rw [half0_lo f j h]; decide
  · rw [half0_hi f j (by omega) hj]; exact hf j hj
theorem ptg_half0 {f : Nat → Nat} (hf : ∀ j, j < 32 → f j < 256) (m : List Nat) : ((List.range 16).map fun j => ptg (half0 f) m (0 + j)) = (List.range 16).map fun j => f (16 + j) :=
  List.map_congr_left fun j hj => by
    rw [Nat.zero_add]
    exact ptg_zero (half0_lo f) (half0_hi f) hf m (List.mem_range.1 hj)

end Go.Proofs.Ytmnmhmpklknleaa

/-
  Walks, written by a program of ours off the loaded functions.
-/
namespace Go.Proofs.Ytmnmhmpklknleaa
open Go Go.RowKit


theorem byt5 : (Try.prog.info? 5).map (·.bytes) = some 1 := by kernel_rfl
theorem siz33 : (Try.prog.info? 33).map (·.size) = some 1 := by kernel_rfl
theorem und44 : Try.prog.underlying 44 = some (.slice 33) := by kernel_rfl
theorem zer22 : (Try.prog.info? 22).bind (·.zero) = some (.agg (arr .u8 32 fun _ => 0)) := by kernel_rfl
theorem zer33 : (Try.prog.info? 33).bind (·.zero) = some (.slice none 0 0) := by kernel_rfl

variable {G : Mem}

set_option maxHeartbeats 4000000 in
theorem polyParts_fn (f : Nat → Nat) (hf : ∀ j, j < 32 → f j < 256) (v : Value) (l0 : List Nat) (zc zm : Int) (hv : Shows G 1 v l0.length (l0.map by8)) (hb : ∀ b ∈ l0, b < 256) (hBg : ∀ (G : Mem) (f : Nat → Nat), (∀ j, j < 32 → f j < 256) → Fn Try.prog G 9 #[.agg (arr .u8 32 f)] (stP f [])) (hAd : ∀ (G : Mem) (f : Nat → Nat) (m : List Nat) (v : Value) (l : List Nat), (∀ j, j < 32 → f j < 256) → (∀ b ∈ m, b < 256) → (∀ b ∈ l, b < 256) → l.length ≤ 140737488351232 → Shows G 1 v l.length (l.map by8) → Fn Try.prog G 13 #[stP f m, v] (.tuple #[stP f (m ++ l), ii 0])) (hCk : ∀ (G : Mem) (f : Nat → Nat) (m : List Nat), (∀ j, j < 32 → f j < 256) → (∀ b ∈ m, b < 256) → Fn Try.prog G 10 #[stP f m] (ii 0)) (hCb : ∀ (G : Mem), Fn Try.prog G 10 #[PV (fun _ => 0) (fun _ => 0) (fun _ => 0) (fun _ => 0) 16] (ii 9)) (hEn : ∀ (G : Mem) (f : Nat → Nat) (m : List Nat), (∀ j, j < 32 → f j < 256) → (∀ b ∈ m, b < 256) → Fn Try.prog G 15 #[stP f m] (.tuple #[.agg (arr .u8 16 (ptg f m)), ii 0])) (hT : ∀ (G : Mem) (f : Nat → Nat) (v : Value) (l : List Nat), (∀ j, j < 32 → f j < 256) → (∀ b ∈ l, b < 256) → l.length ≤ 140737488351232 → Shows G 1 v l.length (l.map by8) → Fn Try.prog G 17 #[.agg (arr .u8 32 f), v] (.agg (arr .u8 16 (ptg f l)))) : Fn Try.prog G 7 #[.agg (arr .u8 32 f), v, .int .i64 zc, .int .i64 zm] (.bool true) := by
  obtain ⟨l, hl⟩ : ∃ l, l = l0.take 200 := ⟨_, rfl⟩
  have hll : l.length ≤ 200 := by rw [hl]; simp; omega
  have hlb : ∀ x ∈ l, x < 256 := fun x hx => hb x (by rw [hl] at hx; exact List.mem_of_mem_take hx)
  have hv1 : Shows G 1 (slPart 1 v 0 (min l0.length 200)) l.length (l.map by8) := hv.cut (by omega) (by omega) (by rw [hl, List.drop_zero, Nat.sub_zero]; rcases Nat.le_total l0.length 200 with h | h; rw [Nat.min_eq_left h, List.take_length, List.take_of_length_le h]; rw [Nat.min_eq_right h])
  obtain ⟨i, hi⟩ : ∃ i, i = pkn zc (l.length + 1) := ⟨_, rfl⟩
  have hi1 : i < l.length + 1 := by rw [hi]; exact pkn_lt zc (by omega)
  obtain ⟨q, hq⟩ : ∃ q, q = pkn zm (l.length - i + 1) := ⟨_, rfl⟩
  have hq1 : q < l.length - i + 1 := by rw [hq]; exact pkn_lt zm (by omega)
  obtain ⟨j, hj⟩ : ∃ j, j = i + q := ⟨_, rfl⟩
  refine fn1 (n := 116) Try.func7 rfl rfl (by simp) (argE [.agg (arr .u8 32 f), v, .int .i64 zc, .int .i64 zm] 0) (argE_ok _) ?_
  refine e_seq ?_
  refine e_plain ?_
  refine e_box 0 rfl rfl fun r1 => ?_
  refine e_assign rfl rfl ?_
  refine e_nil ?_
  refine e_seq ?_
  refine e_plain ?_
  refine e_move rfl rfl ?_
  refine e_move rfl rfl ?_
  refine e_lenV hv und33 rfl rfl rfl ?_
  refine e_min (q := 200) rfl rfl rfl rfl ?_
  refine e_sliceV 0 (min l0.length 200) hv und33 siz5 rfl rfl rfl rfl ⟨_, rfl⟩ (by omega) (by omega) rfl ?_
  refine e_assign rfl rfl ?_
  refine e_nil ?_
  refine e_seq ?_
  refine e_plain ?_
  refine e_move rfl rfl ?_
  refine e_move rfl rfl ?_
  refine e_lenV hv1 und33 rfl rfl rfl ?_
  refine e_add_i (q := 1) rfl rfl rfl (by omega) ?_
  refine e_call rfl ent19 (picked_fn zc (l.length + 1) (by omega) (by omega)) rfl rfl ?_
  refine e_as (congrArg ii hi.symm) ?_
  refine e_assign rfl rfl ?_
  refine e_nil ?_
  refine e_seq ?_
  refine e_plain ?_
  refine e_move rfl rfl ?_
  refine e_move rfl rfl ?_
  refine e_move rfl rfl ?_
  refine e_lenV hv1 und33 rfl rfl rfl ?_
  refine e_move rfl rfl ?_
  refine e_sub_in rfl rfl rfl (by omega) (by omega) ?_
  refine e_add_i (q := 1) rfl rfl rfl (by omega) ?_
  refine e_call rfl ent19 (picked_fn zm (l.length - i + 1) (by omega) (by omega)) rfl rfl ?_
  refine e_as (congrArg ii hq.symm) ?_
  refine e_add_i rfl rfl rfl (by omega) ?_
  refine e_as (congrArg ii hj.symm) ?_
  refine e_assign rfl rfl ?_
  refine e_nil ?_
  refine e_seq ?_
  refine e_plain ?_
  refine e_loadA (i := 0) und22 rfl siz22 rfl rfl (arr_size _ _ _) rfl ⟨[], trivial⟩ ?_
  refine e_call rfl ent9 (hBg G f hf) rfl rfl ?_
  refine e_alloc 1 zer28 rfl fun r2 => ?_
  refine e_storeA (i := 1) siz28 rfl rfl (arrv_size _ _) (cells_one ⟨fun _ => rfl, fun _ => rfl, fun _ => rfl, fun _ => rfl, fun _ => rfl, trivial⟩) rfl cells_sz (.inl rfl) ?_
  refine e_nil ?_
  refine e_seq ?_
  refine e_seq ?_
  refine e_draw mixed (by kernel_rfl) ?_
  refine e_move rfl rfl ?_
  refine e_move rfl rfl ?_
  refine e_sliceV 0 i hv1 und33 siz5 rfl rfl rfl rfl ⟨_, rfl⟩ (by omega) (by omega) rfl ?_
  refine e_move rfl rfl ?_
  refine e_move rfl rfl ?_
  refine e_move rfl rfl ?_
  refine e_sliceV i j hv1 und33 siz5 rfl rfl rfl ⟨_, rfl⟩ ⟨_, rfl⟩ (by omega) (by omega) rfl ?_
  refine e_move rfl rfl ?_
  refine e_move rfl rfl ?_
  refine e_sliceV j l.length hv1 und33 siz5 rfl rfl rfl ⟨_, rfl⟩ rfl (by omega) (by omega) rfl ?_
  refine e_buildSl 2 (arrv 3 (fun x => slPart 1 (slPart 1 v 0 (min l0.length 200)) (cut3 i j l.length x) (cut3 i j l.length (x + 1)))) und44 siz33 zer33 (by decide) (by decide) rfl ((fill3 (by simp) (shows_one (hv1.part (by omega) (by omega))) (shows_one (hv1.part (by omega) (by omega))) (shows_one (hv1.part (by omega) (by omega)))).trans rfl) rfl fun r3 => ?_
  refine e_lenV (arrv_shows r3 3 (fun x => slPart 1 (slPart 1 v 0 (min l0.length 200)) (cut3 i j l.length x) (cut3 i j l.length (x + 1))) 33) und44 rfl rfl rfl ?_
  refine e_move rfl rfl ?_
  refine e_nil ?_
  refine e_block ?_
  refine e_loopK [(1, _), (4, _), (11, _), (51, _), (52, _)] [(0, _), (2, _)] (fun kk E m => ∃ (x : Nat), kk = 3 - x ∧ E = [(53, ii x)] ∧ m = [(1, some ⟨r2, cP f (l.take (cut3 i j l.length x)), 28⟩)] ∧ (x ≤ 3)) [(53, ii 0)] [(1, some ⟨r2, cP f (l.take (cut3 i j l.length 0)), 28⟩)] (3 - 0) ⟨rfl, rfl, rfl, rfl, rfl, rfl, trivial⟩ ⟨rfl, rfl, rfl, trivial⟩ ⟨0, rfl, rfl, rfl, by omega⟩ ?_
  rintro kk E m ⟨x, rfl, rfl, rfl, hf0_0⟩
  simp only [catE, catL]
  have hcl := fun (h : x < 3) => cut3_le (i := i) (j := j) (n := l.length) (x := x) (by omega) (by omega) h
  refine e_seq ?_
  refine e_plain ?_
  refine e_lt rfl rfl rfl ?_
  refine e_nil ?_
  refine e_seq ?_
  refine e_cond rfl ?_ ?_
  · intro hc0
    have hc0 : x < 3 := by have := of_decide_eq_true hc0; omega
    refine e_skip ?_
    refine e_seq ?_
    refine e_block ?_
    refine e_seq ?_
    refine e_plain ?_
    refine e_atV (arrv_shows r3 3 (fun x => slPart 1 (slPart 1 v 0 (min l0.length 200)) (cut3 i j l.length x) (cut3 i j l.length (x + 1))) 33) und44 siz33 rfl rfl (by omega) rfl ?_
    refine e_as (congrArg (slAddr _) (Nat.mul_one _)) ?_
    refine e_loadV (arrv_shows r3 3 (fun x => slPart 1 (slPart 1 v 0 (min l0.length 200)) (cut3 i j l.length x) (cut3 i j l.length (x + 1))) 33) (seen1 2 rfl ⟨[], trivial⟩) und33 rfl rfl (arrv_nth (by omega)) rfl ?_
    refine e_assign rfl rfl ?_
    refine e_nil ?_
    refine e_seq ?_
    refine e_plain ?_
    refine e_loadA (i := 1) und28 rfl siz28 rfl rfl (arrv_size _ _) rfl ⟨[], trivial⟩ ?_
    refine e_move rfl rfl ?_
    refine e_call rfl ent13 (hAd G f (l.take (cut3 i j l.length x)) _ ((l.drop (cut3 i j l.length x)).take ((cut3 i j l.length (x + 1)) - (cut3 i j l.length x))) hf (fun b h => hlb b (List.mem_of_mem_take h)) (fun b h => hlb b (List.mem_of_mem_drop (List.mem_of_mem_take h))) (by rw [List.length_take, List.length_drop]; omega) (Shows.cut (i := (cut3 i j l.length x)) (j := (cut3 i j l.length (x + 1))) hv1 (hcl hc0).1 (hcl hc0).2 rfl)) rfl rfl ?_
    refine e_as (congrArg (fun z => Value.tuple #[stP f z, ii 0]) (take_part l (hcl hc0).1)) ?_
    refine e_move rfl rfl ?_
    refine e_extract rfl rfl rfl ?_
    refine e_extract rfl rfl rfl ?_
    refine e_alloc 3 zer28 rfl fun r4 => ?_
    refine e_storeA (i := 3) siz28 rfl rfl (arrv_size _ _) (cells_one ⟨fun _ => rfl, fun _ => rfl, fun _ => rfl, fun _ => rfl, fun _ => rfl, trivial⟩) rfl cells_sz (.inl rfl) ?_
    refine e_assign rfl rfl ?_
    refine e_nil ?_
    refine e_seq ?_
    refine e_seq ?_
    refine e_plain ?_
    refine e_move rfl rfl ?_
    refine e_ne rfl rfl rfl ?_
    refine e_as (congrArg Value.bool (decide_eq_false (fun h => h rfl))) ?_
    refine e_move rfl rfl ?_
    refine e_yes rfl rfl rfl ?_
    refine e_loadA (i := 3) und28 rfl siz28 rfl rfl (arrv_size _ _) rfl ⟨[], trivial⟩ ?_
    refine e_yes rfl rfl rfl ?_
    refine e_call rfl ent10 (hCk G f (l.take (cut3 i j l.length (x + 1))) hf (fun b h => hlb b (List.mem_of_mem_take h))) rfl rfl ?_
    refine e_yes rfl rfl rfl ?_
    refine e_ne rfl rfl rfl ?_
    refine e_as (congrArg Value.bool (decide_eq_false (fun h => h rfl))) ?_
    refine e_pickF rfl rfl rfl rfl ?_
    refine e_move rfl rfl ?_
    refine e_yes rfl rfl rfl ?_
    refine e_fld (23) und28 rfl siz3 rfl rfl rfl ?_
    refine e_yes rfl rfl rfl ?_
    refine e_ldV1 (i := 3) 4 und3 rfl rfl rfl rfl (by decide) rfl ⟨[], trivial⟩ ?_
    refine e_yes rfl rfl rfl ?_
    refine e_fld (23) und28 rfl siz3 rfl rfl rfl ?_
    refine e_yes rfl rfl rfl ?_
    refine e_ldV1 (i := 1) 4 und3 rfl rfl rfl rfl (by decide) rfl ⟨[], trivial⟩ ?_
    refine e_yes rfl rfl rfl ?_
    refine e_move rfl rfl ?_
    refine e_yes rfl rfl rfl ?_
    refine e_lenV (Shows.cut (i := (cut3 i j l.length x)) (j := (cut3 i j l.length (x + 1))) (l' := ((l.drop (cut3 i j l.length x)).take ((cut3 i j l.length (x + 1)) - (cut3 i j l.length x)))) hv1 (hcl hc0).1 (hcl hc0).2 rfl) und33 rfl rfl rfl ?_
    refine e_yes rfl rfl rfl ?_
    refine e_add_i rfl rfl rfl (by rw [rem16_len, List.length_take, List.length_take, List.length_drop]; omega) ?_
    refine e_yes rfl rfl rfl ?_
    refine e_rem_i (q := 16) rfl rfl rfl (by omega) ?_
    refine e_yes rfl rfl rfl ?_
    refine e_ne rfl rfl rfl ?_
    refine e_as (congrArg Value.bool (decide_eq_false (by have h1 := (hcl hc0).1; have h2 := (hcl hc0).2; rw [rem16_len, rem16_len, List.length_take, List.length_take, List.length_take, List.length_drop]; omega))) ?_
    refine e_pickF rfl rfl rfl rfl ?_
    refine e_nil ?_
    refine e_cond rfl ?_ ?_
    · intro hc1
      cases hc1
    · intro hc1
      refine e_skip ?_
      refine e_plain ?_
      refine e_loadA (i := 3) und28 rfl siz28 rfl rfl (arrv_size _ _) rfl ⟨[], trivial⟩ ?_
      refine e_storeA (i := 1) siz28 rfl rfl (arrv_size _ _) (cells_one ⟨fun _ => rfl, fun _ => rfl, fun _ => rfl, fun _ => rfl, fun _ => rfl, trivial⟩) rfl cells_sz (.inl rfl) ?_
      refine e_nil ?_
      refine e_plain ?_
      refine e_add_i (q := 1) rfl rfl rfl (by omega) ?_
      refine e_move rfl rfl ?_
      refine e_nil ?_
      refine ⟨_, [(53, ii (x + 1))], [(1, some ⟨r2, cP f (l.take (cut3 i j l.length (x + 1))), 28⟩)], ?_, ⟨rfl, rfl, rfl, rfl, rfl, rfl, trivial⟩, ⟨rfl, rfl, rfl, trivial⟩, x + 1, rfl, rfl, rfl, by omega⟩
      omega
  · intro hc0
    have hc0 := of_decide_eq_false hc0
    have hz0 : x = 3 := by omega
    subst hz0
    rw [show l.take (cut3 i j l.length 3) = l from List.take_length]
    refine e_exit ?_
    refine e_seq ?_
    refine e_plain ?_
    refine e_loadA (i := 1) und28 rfl siz28 rfl rfl (arrv_size _ _) rfl ⟨[], trivial⟩ ?_
    refine e_call rfl ent15 (hEn G f l hf hlb) rfl rfl ?_
    refine e_move rfl rfl ?_
    refine e_extract rfl rfl rfl ?_
    refine e_extract rfl rfl rfl ?_
    refine e_alloc 3 zer26 rfl fun r4 => ?_
    refine e_storeA (i := 3) siz26 rfl rfl (arr_size _ _ _) arr_one rfl (arr_sz _ _ _ _ _) (.inl rfl) ?_
    refine e_assign rfl rfl ?_
    refine e_nil ?_
    refine e_seq ?_
    refine e_plain ?_
    refine e_loadA (i := 0) und22 rfl siz22 rfl rfl (arr_size _ _ _) rfl ⟨[], trivial⟩ ?_
    refine e_alloc 4 zer22 rfl fun r5 => ?_
    refine e_storeA (i := 4) siz22 rfl rfl (arr_size _ _ _) arr_one rfl (arr_sz _ _ _ _ _) (.inl rfl) ?_
    refine e_nil ?_
    refine e_seq ?_
    refine e_draw mixed (by kernel_rfl) ?_
    refine e_sliceA 0 16 und22 siz5 rfl rfl rfl rfl ⟨_, rfl⟩ (by omega) (by omega) (by omega) rfl ?_
    refine e_make 5 (l := 16) und33 siz5 byt5 zer5 rfl rfl rfl (by omega) (by omega) rfl fun r6 => ?_
    refine e_copyB (i := 4) und33 siz5 (made_shows _ _ _) (seen1 5 rfl ⟨[], trivial⟩) rfl rfl rfl (by omega) rfl ?_
    refine e_nil ?_
    refine e_seq ?_
    refine e_plain ?_
    refine e_loadA (i := 4) und22 rfl siz22 rfl rfl (arr_size _ _ _) rfl ⟨[], trivial⟩ ?_
    refine e_as (show _ = Value.agg (arr .u8 32 (half0 f)) from rfl) ?_
    refine e_move rfl rfl ?_
    refine e_call rfl ent17 (hT G (half0 f) (slPart 1 v 0 (min l0.length 200)) l (half0_lt hf) hlb (by omega) hv1) rfl rfl ?_
    refine e_alloc 6 zer26 rfl fun r7 => ?_
    refine e_storeA (i := 6) siz26 rfl rfl (arr_size _ _ _) arr_one rfl (arr_sz _ _ _ _ _) (.inl rfl) ?_
    refine e_nil ?_
    refine e_seq ?_
    refine e_draw mixed (by kernel_rfl) ?_
    refine e_move rfl rfl ?_
    refine e_eq rfl rfl rfl ?_
    refine e_as (congrArg Value.bool (decide_eq_true rfl)) ?_
    refine e_move rfl rfl ?_
    refine e_yes rfl rfl rfl ?_
    refine e_loadA (i := 3) und26 rfl siz26 rfl rfl (arr_size _ _ _) rfl ⟨[], trivial⟩ ?_
    refine e_yes rfl rfl rfl ?_
    refine e_loadA (i := 0) und22 rfl siz22 rfl rfl (arr_size _ _ _) rfl ⟨[], trivial⟩ ?_
    refine e_yes rfl rfl rfl ?_
    refine e_move rfl rfl ?_
    refine e_yes rfl rfl rfl ?_
    refine e_call rfl ent17 (hT G f (slPart 1 v 0 (min l0.length 200)) l hf hlb (by omega) hv1) rfl rfl ?_
    refine e_yes rfl rfl rfl ?_
    refine e_eqA und26 und5 siz5 eqg26 rfl rfl rfl ?_
    refine e_as (congrArg Value.bool (allEq_iff.2 (fun _ _ => rfl))) ?_
    refine e_pickT rfl rfl rfl rfl ?_
    refine e_move rfl rfl ?_
    refine e_yes rfl rfl rfl ?_
    refine e_sliceA 0 16 und26 siz5 rfl rfl rfl rfl rfl (by omega) (by omega) (by omega) rfl ?_
    refine e_yes rfl rfl rfl ?_
    refine e_conv_str (i := 6) und33 und5 und9 rfl rfl (by omega) rfl rfl ⟨[], trivial⟩ ?_
    refine e_as ((conv_from (ptg (half0 f) l) 0 16).trans (congrArg sv (ptg_half0 hf l))) ?_
    refine e_yes rfl rfl rfl ?_
    refine e_sliceA 16 32 und22 siz5 rfl rfl rfl ⟨_, rfl⟩ rfl (by omega) (by omega) (by omega) rfl ?_
    refine e_yes rfl rfl rfl ?_
    refine e_conv_str (i := 0) und33 und5 und9 rfl rfl (by omega) rfl rfl ⟨[], trivial⟩ ?_
    refine e_as (conv_from f 16 16) ?_
    refine e_yes rfl rfl rfl ?_
    refine e_eqStr rfl rfl rfl (range_lt (f := fun j => f (16 + j)) (fun j hj => hf _ (by omega))) (range_lt (f := fun j => f (16 + j)) (fun j hj => hf _ (by omega))) ?_
    refine e_as (congrArg Value.bool (decide_eq_true rfl)) ?_
    refine e_pickT rfl rfl rfl rfl ?_
    refine e_move rfl rfl ?_
    refine e_yes rfl rfl rfl ?_
    refine e_buildS (cells 24 [pI .u64 2 (fun _ => 0), pI .u64 2 (fun _ => 0), pI .u64 3 (fun _ => 0), pI .u8 16 (fun _ => 0), pV (.int .i64 16)]) zer28 und28 pls28 rfl rfl rfl ?_
    refine e_yes rfl rfl rfl ?_
    refine e_call rfl ent10 (hCb G) rfl rfl ?_
    refine e_yes rfl rfl rfl ?_
    refine e_eq rfl rfl rfl ?_
    refine e_as (congrArg Value.bool (decide_eq_true rfl)) ?_
    refine e_pickT rfl rfl rfl rfl ?_
    refine e_assign rfl rfl ?_
    refine e_nil ?_
    refine e_ret ?_
    exact ⟨_, rfl, .tmp rfl⟩

end Go.Proofs.Ytmnmhmpklknleaa
