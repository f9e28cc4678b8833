import Derived.Test.YtlaebpebgjaehaaDoorK7
import Derived.Test.YtlaebpebgjaehaaDoorRows
import Derived.Test.YtlaebpebgjaehaaDoorK6
import Derived.Test.YtlaebpebgjaehaaDoorK1
import Derived.ProofKit
import Derived.OpenShut
import Derived.Test.YtlaebpebgjaehaaDoorK3
import Derived.Carry
import Derived.SizedLaws
import Derived.Test.YtlaebpebgjaehaaDoorK4
import Derived.Test.YtlaebpebgjaehaaDoorK5

/-
  Where the listed package variables lie. Written by a program of ours.
-/
namespace Go.Proofs.YtlaebpebgjaehaaDoor
open Go.ChangeShapes Go.WideShapes Go.ChangeAt Go.RowKit

theorem laid_signet_blake_orders_rin {W : World} (h : VarT Tryd.prog W "signet/blake.orders" Rows.laid_signet_blake_orders) : RIn W (⟨1, arr .i64 160 sgf, 66⟩ : Blk) :=
  rin_tab (by kernel_rfl) (by kernel_rfl) (by decide) h fun cs hc r hr => by
    have h1 := rd_rows (M := 10) (N := 16) (rs := [[0, 1, 2, 3, 4, 5, 6, 7, 8, 9, 10, 11, 12, 13, 14, 15], [14, 10, 4, 8, 9, 15, 13, 6, 1, 12, 0, 2, 11, 7, 5, 3], [11, 8, 12, 0, 5, 2, 15, 13, 10, 14, 3, 6, 7, 1, 9, 4], [7, 9, 3, 1, 13, 12, 11, 14, 2, 6, 5, 10, 4, 0, 15, 8], [9, 0, 5, 7, 2, 4, 10, 15, 14, 1, 11, 12, 6, 8, 3, 13], [2, 12, 6, 10, 0, 11, 8, 3, 4, 13, 7, 5, 15, 14, 1, 9], [12, 5, 1, 15, 14, 13, 4, 10, 0, 7, 6, 3, 9, 2, 8, 11], [13, 11, 7, 14, 12, 1, 3, 9, 5, 0, 15, 4, 8, 6, 2, 10], [6, 15, 14, 9, 11, 3, 0, 8, 12, 2, 13, 7, 1, 4, 10, 5], [10, 2, 8, 4, 7, 6, 1, 5, 15, 11, 9, 14, 3, 12, 13, 0]]) (show Tryd.prog.underlying 66 = some (.array 10 65) by kernel_rfl) (show Tryd.prog.underlying 65 = some (.array 16 3) by kernel_rfl) (show Tryd.prog.underlying 3 = some (.int .i64) by kernel_rfl) (show Tryd.prog.cellsOf 3 = 1 by kernel_rfl) (show Tryd.prog.cellsOf 65 = 16 by kernel_rfl) hc r hr
    rw [h1]
    have h2 : ((List.range 160).all fun r => (([[0, 1, 2, 3, 4, 5, 6, 7, 8, 9, 10, 11, 12, 13, 14, 15], [14, 10, 4, 8, 9, 15, 13, 6, 1, 12, 0, 2, 11, 7, 5, 3], [11, 8, 12, 0, 5, 2, 15, 13, 10, 14, 3, 6, 7, 1, 9, 4], [7, 9, 3, 1, 13, 12, 11, 14, 2, 6, 5, 10, 4, 0, 15, 8], [9, 0, 5, 7, 2, 4, 10, 15, 14, 1, 11, 12, 6, 8, 3, 13], [2, 12, 6, 10, 0, 11, 8, 3, 4, 13, 7, 5, 15, 14, 1, 9], [12, 5, 1, 15, 14, 13, 4, 10, 0, 7, 6, 3, 9, 2, 8, 11], [13, 11, 7, 14, 12, 1, 3, 9, 5, 0, 15, 4, 8, 6, 2, 10], [6, 15, 14, 9, 11, 3, 0, 8, 12, 2, 13, 7, 1, 4, 10, 5], [10, 2, 8, 4, 7, 6, 1, 5, 15, 11, 9, 14, 3, 12, 13, 0]] : List (List Int)).getD (r / 16) []).getD (r % 16) 0 == (sgf r : Int)) = true := by decide +kernel
    have h3 := (List.all_eq_true.1 h2) r (List.mem_range.2 hr)
    rw [eq_of_beq h3]
theorem laid_signet_signetref_iv_rin {W : World} (h : VarT Tryd.prog W "signet/signetref.iv" Rows.laid_signet_signetref_iv) : RIn W (⟨0, arr .u32 8 ivf, 23⟩ : Blk) :=
  rin_tab (by kernel_rfl) (by kernel_rfl) (by decide) h fun cs hc r hr => by
    have h1 := rd_ints (zs := [1779033703, 3144134277, 1013904242, 2773480762, 1359893119, 2600822924, 528734635, 1541459225]) (show Tryd.prog.underlying 23 = some (.array 8 22) by kernel_rfl) (show Tryd.prog.underlying 22 = some (.int .u32) by kernel_rfl) (show Tryd.prog.cellsOf 22 = 1 by kernel_rfl) hc r hr
    rw [h1]
    have h2 : ((List.range 8).all fun r => ([1779033703, 3144134277, 1013904242, 2773480762, 1359893119, 2600822924, 528734635, 1541459225] : List Int).getD r 0 == (ivf r : Int)) = true := by decide +kernel
    have h3 := (List.all_eq_true.1 h2) r (List.mem_range.2 hr)
    rw [eq_of_beq h3]
end Go.Proofs.YtlaebpebgjaehaaDoor

/-
  Arguments that are arrays of numbers, by value: opened, and read again in another world.
-/
namespace Go.Proofs.YtlaebpebgjaehaaDoor
open Go.ChangeShapes Go.WideShapes Go.ChangeAt Go.RowKit

section
variable {H : Type} {enc : TypeId × Value → H} {P : Program} {n : Nat} {t e : TypeId} {k : IntKind}

theorem trod_int_any (he : P.underlying e = some (.int k)) (w w' : World) (b b' : Nat) (s s' : Nat → Bool) (h h' : Bool) (fuel : Nat) (cs : List Value) :
    DataW.trod enc P w b s h fuel e cs = DataW.trod enc P w' b' s' h' fuel e cs := by
  cases fuel with
  | zero => rfl
  | succ m =>
    unfold DataW.trod
    rw [he]
    match cs with
    | [] => rfl
    | [v] => cases v <;> rfl
    | v :: _ :: _ => cases v <;> rfl

theorem trod_arr_any (hT : P.underlying t = some (.array n e)) (he : P.underlying e = some (.int k)) (w w' : World) (b b' : Nat) (s s' : Nat → Bool) (h h' : Bool) (fuel : Nat) (cs : List Value) :
    DataW.trod enc P w b s h fuel t cs = DataW.trod enc P w' b' s' h' fuel t cs := by
  cases fuel with
  | zero => rfl
  | succ m =>
    unfold DataW.trod
    rw [hT]
    simp only
    congr 2
    congr 1
    funext i
    exact trod_int_any he w w' b b' s s' h h' m _

theorem Trod_arr (hT : P.underlying t = some (.array n e)) (he : P.underlying e = some (.int k)) {w : World} {b : Nat} {s : Nat → Bool} {h : Bool} {v : Value} {d : DataW H} {ps : List MemPlace}
    (hd : DataW.Trod enc P w b s h t v d ps) (w' : World) (b' : Nat) (s' : Nat → Bool) (h' : Bool) : DataW.Trod enc P w' b' s' h' t v d ps := by
  obtain ⟨fuel, hf⟩ := hd
  exact ⟨fuel, by rw [← hf]; exact trod_arr_any hT he _ _ _ _ _ _ _ _ _ _⟩

theorem open_arr {bound : Nat} (hT : P.underlying t = some (.array n e)) (he : P.underlying e = some (.int k)) (hc : P.cellsOf e = 1) (hct : P.cellsOf t = n)
    (hb : ∀ z : Int, (Lit.int k z).wf = true → 0 ≤ z ∧ z < bound) {W : World} {b0 b : Nat} {s : Nat → Bool} {h : Bool} {v : Value} {d : DataW H} {ps : List MemPlace}
    (hval : Value.okWide P W .any b0 t v) (hd : DataW.Trod enc P W b s h t v d ps) :
    ∃ f : Nat → Nat, v = .agg (arr k n f) ∧ (∀ j, j < n → f j < bound) ∧ ps = [] := by
  unfold Value.okWide at hval
  rw [hT] at hval
  obtain ⟨cs, rfl, hsz, _⟩ := hval
  rw [hct] at hsz
  obtain ⟨fuel, hf⟩ := hd
  obtain ⟨xs, m, _, ex, _, hl, hel⟩ := DataW.trod_array hT hf
  have key : ∀ i, i < n → ∃ z : Int, cs[i]? = some (.int k z) ∧ 0 ≤ z ∧ z < bound ∧ ∃ x, xs[i]? = some x ∧ x.2 = [] := fun i hi => by
    have hE := hel i hi
    have hxi : i < xs.length := by omega
    rw [hc, Nat.mul_one, List.getElem?_eq_getElem hxi] at hE
    obtain ⟨z, e1, e2, hw⟩ := DataW.trod_int he hE
    have h0 : ((cs.toList.drop i).take 1)[0]? = some (.int k z) := by
      have : (Value.agg cs).cells.toList = cs.toList := rfl
      rw [this] at e1
      rw [e1]; rfl
    refine ⟨z, by simpa using h0, (hb z hw).1, (hb z hw).2, xs[i], List.getElem?_eq_getElem hxi, by rw [e2]⟩
  refine ⟨fun i => match cs[i]? with
    | some (.int _ z) => z.toNat
    | _ => 0, ?_, fun j hj => ?_, ?_⟩
  · congr 1
    apply Array.ext_getElem?
    intro i
    by_cases hi : i < n
    · obtain ⟨z, h1, h2, _⟩ := key i hi
      rw [arr_get hi, h1]
      simp only
      congr 2
      omega
    · rw [Array.getElem?_eq_none (by omega), Array.getElem?_eq_none (by rw [arr_size]; omega)]
  · obtain ⟨z, h1, h2, h3, _⟩ := key j hj
    simp only [h1]
    omega
  · have e2 : ps = xs.flatMap (·.2) := (Prod.mk.inj ex).2
    rw [e2]
    apply List.flatMap_eq_nil_iff.2
    intro x hx
    obtain ⟨i, hi, rfl⟩ := List.getElem_of_mem hx
    obtain ⟨_, _, _, _, y, h4, h5⟩ := key i (by omega)
    rw [List.getElem?_eq_getElem hi] at h4
    rw [Option.some.inj h4]; exact h5

theorem wf_u8 (z : Int) (h : (Lit.int .u8 z).wf = true) : 0 ≤ z ∧ z < (256 : Nat) := by
  simp [Lit.wf, IntKind.min, IntKind.max, IntKind.signed, IntKind.bits] at h
  omega
theorem wf_u64 (z : Int) (h : (Lit.int .u64 z).wf = true) : 0 ≤ z ∧ z < (18446744073709551616 : Nat) := by
  simp [Lit.wf, IntKind.min, IntKind.max, IntKind.signed, IntKind.bits] at h
  omega

end
end Go.Proofs.YtlaebpebgjaehaaDoor

/-
  Arguments that are slices of bytes: opened.
-/
namespace Go.Proofs.YtlaebpebgjaehaaDoor
open Go Go.ChangeShapes Go.WideShapes Go.ChangeAt Go.RowKit

section
variable {H : Type} {enc : TypeId × Value → H} {P : Program} {t e : TypeId}
theorem row_of_cell {w : World} {b o : Nat} {u : Value} (h : w.cell? ⟨b, o, none⟩ = some u) : ∃ cs et fr, w.heap[b]? = some (.cells cs et fr) := by
  unfold World.cell? at h
  cases hb : w.heap[b]? with
  | none => simp [hb] at h
  | some ob => cases ob with
    | cells cs t fr => exact ⟨cs, t, fr, rfl⟩
    | _ => simp [hb] at h
theorem open_bytes {W : World} {b0 base : Nat} {s : Nat → Bool} {held : Bool} {v : Value} {d : DataW H} {ps : List MemPlace} (ht : P.underlying t = some (.slice e)) (he : P.underlying e = some (.int .u8)) (hc : P.cellsOf e = 1)
    (hval : Value.okWide P W .any b0 t v) (hd : DataW.Trod enc P W base s held t v d ps) :
    ∃ (l : List Nat) (G : Mem), (∀ b ∈ l, b < 256) ∧ l.length ≤ maxLen ∧ Shows G 1 v l.length (l.map by8) ∧ MemR G W := by
  have hcell : ∃ a len cap, v = .slice a len cap := by
    unfold Value.okWide at hval
    rw [ht] at hval
    unfold Cell.okWide at hval
    rw [ht] at hval
    unfold Cell.ok at hval
    rw [ht] at hval
    cases v <;> simp_all
  obtain ⟨a0, len0, cap0, rfl⟩ := hcell
  obtain ⟨fuel, hf⟩ := hd
  rcases open_ints ht he hc hf with ⟨h1, _⟩ | ⟨a, len, cap, zs, h1, _, hlc, hcm, hzl, _, hz, hw⟩
  · have h1 : [Value.slice a0 len0 cap0] = [.slice none 0 0] := h1
    injection h1 with h1 _
    rw [h1]
    exact ⟨[], [], by simp, by simp [maxLen], .inl ⟨rfl, rfl, none, 0, rfl, fun _ => rfl⟩, by simp [MemR]⟩
  · have h1 : [Value.slice a0 len0 cap0] = [.slice (some a) len cap] := h1
    injection h1 with h1 _
    rw [h1]
    have hlz : len ≤ zs.length := by rw [hzl]; split <;> omega
    by_cases h0 : len = 0
    · subst h0
      exact ⟨[], [], by simp, by simp [maxLen], .inl ⟨rfl, rfl, some a, cap, rfl, fun h => by cases h⟩, by simp [MemR]⟩
    · obtain ⟨b, off, rfl, hc2⟩ := ints_at hz (by omega)
      obtain ⟨cs, et, fr, hb⟩ := row_of_cell (hc2 0 (by omega))
      have hcl : ∀ o, W.cell? ⟨b, o, none⟩ = cs[o]? := fun o => by simp [World.cell?, hb]
      have hlen : ((zs.take len).map Int.toNat).length = len := by simp; omega
      have hwj : ∀ j, j < len → 0 ≤ zs.getD j 0 ∧ zs.getD j 0 ≤ 255 := fun j hj => bounds_u8 (hw (zs.getD j 0) (by
        have : zs.getD j 0 = zs[j] := by simp [List.getD, show j < zs.length by omega]
        rw [this]; exact List.getElem_mem _))
      have hnth : ∀ j x, ((zs.take len).map Int.toNat)[j]? = some x → j < len ∧ x = (zs.getD j 0).toNat := fun j x hj => by
        have hlt := (List.getElem?_eq_some_iff.1 hj).1
        rw [hlen] at hlt
        refine ⟨hlt, ?_⟩
        rw [List.getElem?_map, List.getElem?_take, if_pos hlt, List.getElem?_eq_getElem (by omega)] at hj
        simp at hj
        rw [← hj]
        simp [List.getD, show j < zs.length by omega]
      refine ⟨(zs.take len).map Int.toNat, [⟨b, cs, et⟩], fun q hq => ?_, by rw [hlen]; omega, .inr ⟨b, off, cap, cs, et, by rw [hlen], by rw [hlen]; exact hlc, by simp, by simp, ?_, fun j u hj => ?_⟩, fun x hx => ?_⟩
      · obtain ⟨j, hj⟩ := List.getElem?_of_mem hq
        obtain ⟨h2, rfl⟩ := hnth j q hj
        have := hwj j h2
        omega
      · have h2 := hc2 (len - 1) (by omega)
        rw [hcl] at h2
        have := (Array.getElem?_eq_some_iff.1 h2).1
        rw [hlen]
        omega
      · rw [List.getElem?_map] at hj
        cases hx : ((zs.take len).map Int.toNat)[j]? with
        | none => rw [hx] at hj; cases hj
        | some x =>
          rw [hx, Option.map_some] at hj
          obtain ⟨h2, rfl⟩ := hnth j x hx
          have h3 := hwj j h2
          injection hj with hj
          rw [← hj, ← hcl, hc2 j (by omega)]
          have e1 : (((zs.getD j 0).toNat : Nat) : Int) = zs.getD j 0 := by omega
          show some (Value.int IntKind.u8 (zs.getD j 0)) = some (Value.int IntKind.u8 (((zs.getD j 0).toNat : Nat) : Int))
          rw [e1]
      · simp at hx; subst hx
        exact ⟨(Array.getElem?_eq_some_iff.1 hb).1, fun o _ => hcl o⟩
theorem str_list (s : ByteArray) : ∃ l : List Nat, (∀ x ∈ l, x < 256) ∧ s = bstr l := by
  refine ⟨s.data.toList.map UInt8.toNat, fun x hx => ?_, ?_⟩
  · obtain ⟨b, _, rfl⟩ := List.mem_map.1 hx
    exact b.toNat_lt
  · unfold bstr
    rw [List.map_map]
    have : s.data.toList.map (UInt8.ofNat ∘ UInt8.toNat) = s.data.toList := by
      conv => rhs; rw [← List.map_id s.data.toList]
      exact List.map_congr_left fun b _ => by simp
    rw [this]
/-- A struct of three numbers and a string. -/
theorem open_raw {W : World} {b0 base : Nat} {sp : Nat → Bool} {held : Bool} {v : Value} {d : DataW H} {ps : List MemPlace} {f0 f1 f2 f3 : Field} (ht : P.underlying t = some (.struct #[f0, f1, f2, f3])) (hc : P.cellsOf t = 4)
    (o0 : f0.offset = 0) (o1 : f1.offset = 1) (o2 : f2.offset = 2) (o3 : f3.offset = 3) (u0 : P.underlying f0.type = some (.int .i64)) (u1 : P.underlying f1.type = some (.int .i64)) (u2 : P.underlying f2.type = some (.int .i64)) (u3 : P.underlying f3.type = some .string)
    (c0 : P.cellsOf f0.type = 1) (c1 : P.cellsOf f1.type = 1) (c2 : P.cellsOf f2.type = 1) (c3 : P.cellsOf f3.type = 1) (hval : Value.okWide P W .any b0 t v) (hd : DataW.Trod enc P W base sp held t v d ps) :
    ∃ (za zb zc : Int) (tx : List Nat), (∀ x ∈ tx, x < 256) ∧ v = .agg #[.int .i64 za, .int .i64 zb, .int .i64 zc, sv tx] := by
  unfold Value.okWide at hval
  rw [ht] at hval
  obtain ⟨cs, rfl, hsz, _⟩ := hval
  obtain ⟨fuel, hf⟩ := hd
  obtain ⟨xs, m, _, _, _, hxl, hel⟩ := DataW.trod_struct ht hf
  have hxl : xs.length = 4 := hxl
  have g : ∀ i, i < 4 → ∃ y, xs[i]? = some y := fun i hi => ⟨xs[i], List.getElem?_eq_getElem (by omega)⟩
  have hcs : (Value.agg cs).cells.toList = cs.toList := rfl
  rw [hc] at hsz
  obtain ⟨l, hl⟩ : ∃ l, cs = l.toArray := ⟨cs.toList, by simp⟩
  subst hl
  have hl4 : l.length = 4 := by simpa using hsz
  match l, hl4 with
  | [a, b, c, e], _ =>
    obtain ⟨y0, hy0⟩ := g 0 (by omega)
    obtain ⟨y1, hy1⟩ := g 1 (by omega)
    obtain ⟨y2, hy2⟩ := g 2 (by omega)
    obtain ⟨y3, hy3⟩ := g 3 (by omega)
    have e0 := hel 0 f0 rfl
    have e1 := hel 1 f1 rfl
    have e2 := hel 2 f2 rfl
    have e3 := hel 3 f3 rfl
    rw [hcs, o0, c0, hy0] at e0
    rw [hcs, o1, c1, hy1] at e1
    rw [hcs, o2, c2, hy2] at e2
    rw [hcs, o3, c3, hy3] at e3
    obtain ⟨za, h0, _⟩ := DataW.trod_int u0 e0
    obtain ⟨zb, h1, _⟩ := DataW.trod_int u1 e1
    obtain ⟨zc, h2, _⟩ := DataW.trod_int u2 e2
    obtain ⟨s, h3, _⟩ := DataW.trod_string u3 e3
    obtain ⟨tx, htx, hs⟩ := str_list s
    simp at h0 h1 h2 h3
    exact ⟨za, zb, zc, tx, htx, by rw [h0, h1, h2, h3, hs]⟩
theorem wf_u32 (z : Int) (h : (Lit.int .u32 z).wf = true) : ∃ c : Nat, z = (c : Int) ∧ c < 4294967296 := by
  simp [Lit.wf, IntKind.min, IntKind.max, IntKind.signed, IntKind.bits] at h
  exact ⟨z.toNat, by omega, by omega⟩
end
end Go.Proofs.YtlaebpebgjaehaaDoor

/-
  How long bytes are that are handed in.
-/
namespace Go.Proofs.YtlaebpebgjaehaaDoor
open Go Go.ChangeShapes Go.WideShapes Go.ChangeAt Go.RowKit

abbrev RB : Nat := 140737488351232
section
variable {H : Type} {enc : TypeId × Value → H} {P : Program} {t e : TypeId}
theorem shows_num {B : Mem} {z n len cap : Nat} {a : Option Addr} {xs : List Value} (h : Shows B z (.slice a len cap) n xs) : len = n := by
  rcases h with ⟨h0, _, oa, c, h1, _⟩ | ⟨b, o, c, cs, t, h1, _⟩
  · injection h1 with _ h2; rw [h2, h0]
  · injection h1
theorem open_sized {W : World} {base : Nat} {s : Nat → Bool} {held : Bool} {v : Value} {d : DataW H} {ps : List MemPlace} {B : Mem} {n : Nat} {xs : List Value} (ht : P.underlying t = some (.slice e)) (he : P.underlying e = some (.int .u8)) (hc : P.cellsOf e = 1) (hby : P.bytesOf e = 1)
    (hd : DataW.Trod enc P W base s held t v d ps) (hw : ∀ k ∈ d.weights P t, k ≤ RB) (hv : Shows B 1 v n xs) : n ≤ RB := by
  have hcell : ∃ a len cap, v = .slice a len cap := by
    rcases hv with ⟨_, _, oa, c, h1, _⟩ | ⟨b, o, c, cs, t, h1, _⟩
    · exact ⟨_, _, _, h1⟩
    · exact ⟨_, _, _, h1⟩
  obtain ⟨a0, len0, cap0, rfl⟩ := hcell
  have hn := shows_num hv
  subst hn
  obtain ⟨fuel, hf⟩ := hd
  rcases open_ints ht he hc hf with ⟨h1, _⟩ | ⟨a, len, cap, zs, h1, _, hlc, hcm, hzl, hx, hz, _⟩
  · have h1 : [Value.slice a0 len0 cap0] = [.slice none 0 0] := h1
    injection h1 with h1 _
    injection h1 with _ h2
    omega
  · have h1 : [Value.slice a0 len0 cap0] = [.slice (some a) len cap] := h1
    injection h1 with h1 _
    injection h1 with _ h2
    have hlz : len ≤ zs.length := by rw [hzl]; split <;> omega
    injection hx with hx _
    subst hx
    have := hw ((lits .u8 (zs.take len)).length * 1 + (lits .u8 (zs.drop len)).length * 1) (by
      simp only [DataW.weights, ht, hby]
      rw [← Nat.add_mul]
      exact List.mem_cons_self)
    have hl : (lits (H := H) .u8 (zs.take len)).length = len := by simp [lits]; omega
    rw [hl] at this
    omega
theorem each_sized {ts : List TypeId} {ds : List (DataW H)} (h : (DataW.weightsEach P ts ds).all (· ≤ reachBytes) = true) {j : Nat} {t : TypeId} {d : DataW H} (ht : ts[j]? = some t) (hd : ds[j]? = some d) : ∀ n ∈ d.weights P t, n ≤ RB := fun n hn => by
  have := List.all_eq_true.1 h _ (DataW.weights_mem_each ht hd n hn)
  exact of_decide_eq_true this
end
end Go.Proofs.YtlaebpebgjaehaaDoor

/-
  Arguments that are structs of numbers, bools and strings: opened, part by part.
-/
namespace Go.Proofs.YtlaebpebgjaehaaDoor
open Go Go.ChangeShapes Go.WideShapes Go.ChangeAt Go.RowKit

section
variable {P : Program} {t : TypeId}
theorem open_cells {W : World} {b0 : Nat} {v : Value} {ts : List TypeId} {fs : Array Field} (hT : P.underlying t = some (.struct fs)) (hct : P.cellTypes P.depth t = some ts) (hsz : P.cellsOf t = ts.length) (hval : Value.okWide P W .any b0 t v) :
    ∃ cs, v = .agg cs ∧ cs.size = ts.length ∧ ∀ (i : Nat) u, ts[i]? = some u → ∃ x, cs[i]? = some x ∧ Cell.okWide P W .any b0 u x := by
  unfold Value.okWide at hval
  rw [hT] at hval
  obtain ⟨cs, rfl, h1, ts', h2, _, h3⟩ := hval
  have e : ts' = ts := Option.some.inj (h2.symm.trans hct)
  subst e
  refine ⟨cs, rfl, h1.trans hsz, fun i u hi => ?_⟩
  have hlt : i < ts'.length := (List.getElem?_eq_some_iff.1 hi).1
  have hcs : i < cs.size := by omega
  obtain ⟨u', h4, h5⟩ := h3 i cs[i] (Array.getElem?_eq_getElem hcs)
  rw [Nat.mod_eq_of_lt hlt, hi] at h4
  injection h4 with h4
  subst h4
  exact ⟨_, Array.getElem?_eq_getElem hcs, h5⟩
theorem cell_int {W : World} {b0 : Nat} {u : TypeId} {x : Value} {k : IntKind} (hu : P.underlying u = some (.int k)) (h : Cell.okWide P W .any b0 u x) : ∃ z : Int, x = .int k z ∧ k.has z := by
  unfold Cell.okWide at h
  rw [hu] at h
  unfold Cell.ok at h
  rw [hu] at h
  cases x <;> simp_all
theorem cell_bool {W : World} {b0 : Nat} {u : TypeId} {x : Value} (hu : P.underlying u = some .bool) (h : Cell.okWide P W .any b0 u x) : ∃ b : Bool, x = .bool b := by
  unfold Cell.okWide at h
  rw [hu] at h
  unfold Cell.ok at h
  rw [hu] at h
  cases x <;> simp_all
theorem cell_str {W : World} {b0 : Nat} {u : TypeId} {x : Value} (hu : P.underlying u = some .string) (h : Cell.okWide P W .any b0 u x) : ∃ l : List Nat, (∀ b ∈ l, b < 256) ∧ x = sv l := by
  unfold Cell.okWide at h
  rw [hu] at h
  unfold Cell.ok at h
  rw [hu] at h
  cases x with
  | string s =>
    obtain ⟨l, hl, rfl⟩ := str_list s
    exact ⟨l, hl, rfl⟩
  | _ => simp_all
/-- A row of numbers without a sign. -/
theorem seg_nat {W : World} {b0 : Nat} {ts : List TypeId} {cs : Array Value} (hc : ∀ (i : Nat) u, ts[i]? = some u → ∃ x, cs[i]? = some x ∧ Cell.okWide P W .any b0 u x) (off len : Nat) {u : TypeId} {k : IntKind} {bound : Nat} (hu : P.underlying u = some (.int k)) (hb : ∀ z : Int, k.has z → 0 ≤ z ∧ z < bound) (hts : ∀ j, j < len → ts[off + j]? = some u) :
    ∃ f : Nat → Nat, (∀ j, j < len → cs[off + j]? = some (.int k (f j : Int))) ∧ ∀ j, j < len → f j < bound := by
  have key : ∀ j, j < len → ∃ z : Int, cs[off + j]? = some (.int k z) ∧ 0 ≤ z ∧ z < bound := fun j hj => by
    obtain ⟨x, h1, h2⟩ := hc _ _ (hts j hj)
    obtain ⟨z, rfl, h3⟩ := cell_int hu h2
    exact ⟨z, h1, hb z h3⟩
  refine ⟨fun j => match cs[off + j]? with
    | some (.int _ z) => z.toNat
    | _ => 0, fun j hj => ?_, fun j hj => ?_⟩
  · obtain ⟨z, h1, h2, _⟩ := key j hj
    simp only [h1]
    congr 2
    omega
  · obtain ⟨z, h1, h2, h3⟩ := key j hj
    simp only [h1]
    omega
theorem seg_int {W : World} {b0 : Nat} {ts : List TypeId} {cs : Array Value} (hc : ∀ (i : Nat) u, ts[i]? = some u → ∃ x, cs[i]? = some x ∧ Cell.okWide P W .any b0 u x) (off : Nat) {u : TypeId} {k : IntKind} (hu : P.underlying u = some (.int k)) (hts : ts[off]? = some u) :
    ∃ z : Int, (∀ j, j < 1 → cs[off + j]? = some (.int k z)) ∧ k.has z := by
  obtain ⟨x, h1, h2⟩ := hc _ _ hts
  obtain ⟨z, rfl, h3⟩ := cell_int hu h2
  exact ⟨z, fun j hj => by rw [show off + j = off by omega]; exact h1, h3⟩
theorem seg_bool {W : World} {b0 : Nat} {ts : List TypeId} {cs : Array Value} (hc : ∀ (i : Nat) u, ts[i]? = some u → ∃ x, cs[i]? = some x ∧ Cell.okWide P W .any b0 u x) (off : Nat) {u : TypeId} (hu : P.underlying u = some .bool) (hts : ts[off]? = some u) :
    ∃ b : Bool, ∀ j, j < 1 → cs[off + j]? = some (.bool b) := by
  obtain ⟨x, h1, h2⟩ := hc _ _ hts
  obtain ⟨b, rfl⟩ := cell_bool hu h2
  exact ⟨b, fun j hj => by rw [show off + j = off by omega]; exact h1⟩
theorem seg_str {W : World} {b0 : Nat} {ts : List TypeId} {cs : Array Value} (hc : ∀ (i : Nat) u, ts[i]? = some u → ∃ x, cs[i]? = some x ∧ Cell.okWide P W .any b0 u x) (off : Nat) {u : TypeId} (hu : P.underlying u = some .string) (hts : ts[off]? = some u) :
    ∃ l : List Nat, (∀ j, j < 1 → cs[off + j]? = some (sv l)) ∧ ∀ b ∈ l, b < 256 := by
  obtain ⟨x, h1, h2⟩ := hc _ _ hts
  obtain ⟨l, hl, rfl⟩ := cell_str hu h2
  exact ⟨l, fun j hj => by rw [show off + j = off by omega]; exact h1, hl⟩
def SegOk (cs : Array Value) : Nat → List Part → Prop
  | _, [] => True
  | off, p :: ps => (∀ j, j < p.1 → cs[off + j]? = some (p.2 j)) ∧ SegOk cs (off + p.1) ps
def total : List Part → Nat
  | [] => 0
  | p :: ps => p.1 + total ps
theorem seg_cat {cs : Array Value} : ∀ (ps : List Part) (off : Nat), SegOk cs off ps → ∀ i, i < total ps → cs[off + i]? = some (catF ps i)
  | [], _, _, i, hi => by simp [total] at hi
  | p :: ps, off, ⟨h1, h2⟩, i, hi => by
    simp only [catF]
    by_cases hp : i < p.1
    · rw [if_pos hp]; exact h1 i hp
    · rw [if_neg hp]
      have := seg_cat ps (off + p.1) h2 (i - p.1) (by simp only [total] at hi; omega)
      rw [show off + p.1 + (i - p.1) = off + i by omega] at this
      exact this
theorem cells_make {cs : Array Value} {N : Nat} {ps : List Part} (hs : cs.size = N) (ht : total ps = N) (h : SegOk cs 0 ps) : cs = cells N ps := by
  apply Array.ext_getElem?
  intro i
  by_cases hi : i < N
  · have := seg_cat ps 0 h i (by omega)
    rw [Nat.zero_add] at this
    rw [this, arrv_get hi]
  · rw [Array.getElem?_eq_none (by omega), Array.getElem?_eq_none (by rw [arrv_size]; omega)]
theorem has_u8 (z : Int) (h : IntKind.u8.has z) : 0 ≤ z ∧ z < (256 : Nat) := by
  simp [IntKind.has, IntKind.min, IntKind.max, IntKind.signed, IntKind.bits] at h
  omega
theorem has_u32 (z : Int) (h : IntKind.u32.has z) : 0 ≤ z ∧ z < (4294967296 : Nat) := by
  simp [IntKind.has, IntKind.min, IntKind.max, IntKind.signed, IntKind.bits] at h
  omega
theorem has_u64 (z : Int) (h : IntKind.u64.has z) : 0 ≤ z ∧ z < (18446744073709551616 : Nat) := by
  simp [IntKind.has, IntKind.min, IntKind.max, IntKind.signed, IntKind.bits] at h
  omega
theorem has_i64 (z : Int) (h : IntKind.i64.has z) : -9223372036854775808 ≤ z ∧ z < 9223372036854775808 := by
  simp [IntKind.has, IntKind.min, IntKind.max, IntKind.signed, IntKind.bits] at h
  omega
end
end Go.Proofs.YtlaebpebgjaehaaDoor

/-
  Sums that all the world knows, reckoned round by round.
-/
namespace Go.Proofs.YtlaebpebgjaehaaDoor
open Go Go.RowKit

theorem brn_cg {x y f g : Nat → Nat} (h : ∀ t, t < 16 → f t = g t) : ∀ t, t < 16 → brn x y f t = brn x y g t := fun t ht => by
  unfold brn
  rw [h (t % 4) (by omega), h (4 + t % 4) (by omega), h (8 + t % 4) (by omega), h (12 + t % 4) (by omega)]
theorem bstep_cg {b : List Nat} {r p : Nat} {f g : Nat → Nat} (h : ∀ t, t < 16 → f t = g t) : ∀ t, t < 16 → bstep b r p f t = bstep b r p g t := fun t ht => by
  unfold bstep shn
  exact brn_cg (fun t ht => by unfold shp; exact h _ (by omega)) _ (by omega)
theorem bpart_cg {b : List Nat} {r : Nat} {f g : Nat → Nat} (h : ∀ t, t < 16 → f t = g t) : ∀ p t, t < 16 → bpart b r f p t = bpart b r g p t
  | 0, t, ht => h t ht
  | p + 1, t, ht => by rw [bpart, bpart]; exact bstep_cg (bpart_cg h p) t ht
theorem known4 {f : Nat → Nat} {a b c d : Nat} (h : ∀ j, j < 4 → f j = [a, b, c, d].getD j 0) : ((List.range 4).map fun j => f (0 + j)) = [a, b, c, d] := by
  have e : List.range 4 = [0, 1, 2, 3] := by decide
  rw [e]
  simp only [List.map_cons, List.map_nil, Nat.zero_add]
  rw [h 0 (by decide), h 1 (by decide), h 2 (by decide), h 3 (by decide)]; rfl
def itB (b : List Nat) (r : Nat) (l : List Nat) : List Nat := (List.range 16).map (bpart b r (fun t => l.getD t 0) 2)
theorem brs_it {b : List Nat} {w : Nat → Nat} {r : Nat} {l l' : List Nat} (h : ∀ t, t < 16 → brs b w r t = l.getD t 0) (hl : itB b r l = l') : ∀ t, t < 16 → brs b w (r + 1) t = l'.getD t 0 := fun t ht => by
  rw [← hl, brs, bpart_cg h 2 t ht]
  simp [itB, List.getD, ht]
theorem sqz_it {h : Nat → Nat} {b l : List Nat} {many : Nat} {last : Bool} (hB : ∀ t, t < 16 → brs b (w0 h many last) 10 t = l.getD t 0) : ∀ t, t < 8 → sqz h b many last t = (h t ^^^ (l.getD t 0 ^^^ l.getD (8 + t) 0) % 4294967296) % 4294967296 := fun t ht => by
  unfold sqz
  rw [hB t (by omega), hB (8 + t) (by omega)]
abbrev baB : List Nat := [97, 98, 99, 0, 0, 0, 0, 0, 0, 0, 0, 0, 0, 0, 0, 0, 0, 0, 0, 0, 0, 0, 0, 0, 0, 0, 0, 0, 0, 0, 0, 0, 0, 0, 0, 0, 0, 0, 0, 0, 0, 0, 0, 0, 0, 0, 0, 0, 0, 0, 0, 0, 0, 0, 0, 0, 0, 0, 0, 0, 0, 0, 0, 0]
def ba0 : List Nat := [1795745351, 3144134277, 1013904242, 2773480762, 1359893119, 2600822924, 528734635, 1541459225, 1779033703, 3144134277, 1013904242, 2773480762, 1359893116, 2600822924, 3766232660, 1541459225]
def ba1 : List Nat := [379790382, 3619021368, 3465339467, 2457529825, 2813604057, 2477039950, 2756607025, 1104442779, 2512335827, 2593767809, 1619671659, 3060152382, 2056115471, 3191312087, 893198054, 1001671787]
def ba2 : List Nat := [987959267, 159557995, 3900802484, 1043569430, 4064491725, 241619750, 3758484748, 3583091319, 403382074, 4243863828, 819684054, 1212646172, 2130757006, 4219762822, 3309627446, 1380626658]
def ba3 : List Nat := [2050746243, 2574599873, 3562161887, 3988125729, 2140710722, 283665634, 3568005328, 3325866411, 1614338718, 1095079088, 4072806581, 2376129719, 3620567797, 2873690591, 2231573074, 3303931032]
def ba4 : List Nat := [713788599, 449479346, 335830399, 3430045933, 943519356, 3767592953, 807785078, 1473269220, 2571873520, 4036503385, 4051624704, 3566191317, 3699723280, 1379440809, 3225030537, 1205259656]
def ba5 : List Nat := [3299487195, 286475171, 3578425354, 1464467625, 2239584840, 2984319369, 1868321503, 3710669731, 1737383822, 2534986985, 1647097476, 2459394166, 239183127, 899531454, 2275966429, 1681890540]
def ba6 : List Nat := [877892124, 3612958433, 1496217453, 1054255476, 1301904563, 3734115011, 900593097, 2568420709, 2522230409, 1319962514, 3959170834, 595981746, 4081451259, 3619430651, 3947178619, 3974212160]
def ba7 : List Nat := [3196394285, 2824823640, 2179398715, 196247552, 4199916346, 2277384109, 1092171535, 505569706, 2704379859, 4096956438, 118981570, 1850960525, 2592187905, 3891036401, 2898303304, 4165576068]
def ba8 : List Nat := [132495450, 110936420, 4192088385, 2775533184, 2655259346, 2595641834, 1015331185, 568056271, 1181327244, 1985107948, 2937952652, 1977926582, 1379432668, 812732437, 964685441, 1327474585]
def ba9 : List Nat := [1129400516, 2779393297, 1261781363, 3577986206, 3181533468, 3206358377, 1338716448, 1887099464, 1448820702, 852085014, 3941900715, 2969669416, 2155403640, 1756226741, 2541288867, 677624110]
def ba10 : List Nat := [3653866666, 3488365222, 1879902898, 741893902, 2942967654, 486686451, 496943741, 2488489893, 1050672829, 2527062033, 4014497313, 2788325754, 3740207150, 2940043489, 1317438107, 1307245882]
theorem ba_s0 : itB baB 0 ba0 = ba1 := by decide +kernel
theorem ba_s1 : itB baB 1 ba1 = ba2 := by decide +kernel
theorem ba_s2 : itB baB 2 ba2 = ba3 := by decide +kernel
theorem ba_s3 : itB baB 3 ba3 = ba4 := by decide +kernel
theorem ba_s4 : itB baB 4 ba4 = ba5 := by decide +kernel
theorem ba_s5 : itB baB 5 ba5 = ba6 := by decide +kernel
theorem ba_s6 : itB baB 6 ba6 = ba7 := by decide +kernel
theorem ba_s7 : itB baB 7 ba7 = ba8 := by decide +kernel
theorem ba_s8 : itB baB 8 ba8 = ba9 := by decide +kernel
theorem ba_s9 : itB baB 9 ba9 = ba10 := by decide +kernel
theorem ba_b : (List.range 64).map (heldB [97, 98, 99]) = baB := by decide +kernel
theorem ba_w : ∀ t, t < 16 → brs baB (w0 hbeg 3 true) 0 t = ba0.getD t 0 := by decide +kernel
theorem ba_all : ∀ t, t < 16 → brs baB (w0 hbeg 3 true) 10 t = ba10.getD t 0 := (brs_it (brs_it (brs_it (brs_it (brs_it (brs_it (brs_it (brs_it (brs_it (brs_it ba_w ba_s0) ba_s1) ba_s2) ba_s3) ba_s4) ba_s5) ba_s6) ba_s7) ba_s8) ba_s9)
theorem ba_out : ∀ j, j < 4 → bsum [97, 98, 99] j = [80, 140, 94, 140].getD j 0 := by
  rw [bsum_small (by decide), ba_b]
  unfold hsumf
  rw [show hmsg [97, 98, 99] = hbeg from rfl, show ([97, 98, 99] : List Nat).length = 3 from rfl, hol_congr (sqz_it ba_all)]
  decide +kernel
abbrev beB : List Nat := [0, 0, 0, 0, 0, 0, 0, 0, 0, 0, 0, 0, 0, 0, 0, 0, 0, 0, 0, 0, 0, 0, 0, 0, 0, 0, 0, 0, 0, 0, 0, 0, 0, 0, 0, 0, 0, 0, 0, 0, 0, 0, 0, 0, 0, 0, 0, 0, 0, 0, 0, 0, 0, 0, 0, 0, 0, 0, 0, 0, 0, 0, 0, 0]
def be0 : List Nat := [1795745351, 3144134277, 1013904242, 2773480762, 1359893119, 2600822924, 528734635, 1541459225, 1779033703, 3144134277, 1013904242, 2773480762, 1359893119, 2600822924, 3766232660, 1541459225]
def be1 : List Nat := [2191530845, 613144821, 497333658, 3011193811, 1365203700, 50399579, 2974917570, 1578629487, 3311494765, 254350853, 2567728403, 1996486385, 508804889, 1877255808, 149108323, 2549975134]
def be2 : List Nat := [3298758358, 3366736087, 3382040384, 2487935832, 3768252689, 2807284090, 2103529620, 2932818446, 3529428882, 2109588481, 320637251, 2781216447, 3804316392, 149313401, 1671168160, 2375555731]
def be3 : List Nat := [4269241013, 4004746422, 654603092, 1006799616, 3107608795, 4028721965, 182974212, 1000926943, 283718398, 1627378252, 928921157, 998323009, 1141572092, 1053614151, 588837165, 970235272]
def be4 : List Nat := [2325162019, 717330785, 593783873, 350818844, 3528542033, 3196944728, 1719678264, 2703228263, 4076725592, 2253239008, 2362737849, 2413334052, 3374746158, 1291728274, 1750074656, 750724210]
def be5 : List Nat := [2039077177, 771743510, 3889436158, 3922105746, 2077688498, 577249079, 17809448, 2251048458, 2015709421, 2359320011, 2906834143, 237232047, 3946651058, 2581330907, 739944445, 1059800175]
def be6 : List Nat := [1362160686, 378703017, 2525615118, 1167541867, 2311555933, 1252029898, 2597287344, 979122, 3380312234, 1195184865, 4269383353, 463308378, 1350838474, 1455497440, 66167333, 2227678660]
def be7 : List Nat := [3215745491, 3636960209, 1456480351, 2749238387, 87095368, 1742113990, 2239240753, 1863866885, 1481397615, 2110246906, 1945914946, 807403067, 1486822040, 1103649062, 3295199330, 219386270]
def be8 : List Nat := [234945529, 1817475777, 3245516454, 186819089, 1528175067, 4268110117, 3686473463, 850503518, 1081087520, 3990225647, 3910155032, 550085484, 3896160860, 60534052, 231540433, 2750469489]
def be9 : List Nat := [1690842380, 2676650768, 4169658443, 3734404872, 614747020, 1353417226, 2135226236, 3118508206, 3138951020, 748520719, 2448115763, 1609147025, 499354947, 1208069815, 4220299738, 2803927228]
def be10 : List Nat := [3558029354, 3673963235, 1269325541, 2379045380, 4043174275, 2827180784, 3914103842, 3276185967, 2405564164, 4112188447, 2816982134, 1422432892, 3913676515, 757306192, 197296274, 1632156776]
theorem be_s0 : itB beB 0 be0 = be1 := by decide +kernel
theorem be_s1 : itB beB 1 be1 = be2 := by decide +kernel
theorem be_s2 : itB beB 2 be2 = be3 := by decide +kernel
theorem be_s3 : itB beB 3 be3 = be4 := by decide +kernel
theorem be_s4 : itB beB 4 be4 = be5 := by decide +kernel
theorem be_s5 : itB beB 5 be5 = be6 := by decide +kernel
theorem be_s6 : itB beB 6 be6 = be7 := by decide +kernel
theorem be_s7 : itB beB 7 be7 = be8 := by decide +kernel
theorem be_s8 : itB beB 8 be8 = be9 := by decide +kernel
theorem be_s9 : itB beB 9 be9 = be10 := by decide +kernel
theorem be_b : (List.range 64).map (heldB []) = beB := by decide +kernel
theorem be_w : ∀ t, t < 16 → brs beB (w0 hbeg 0 true) 0 t = be0.getD t 0 := by decide +kernel
theorem be_all : ∀ t, t < 16 → brs beB (w0 hbeg 0 true) 10 t = be10.getD t 0 := (brs_it (brs_it (brs_it (brs_it (brs_it (brs_it (brs_it (brs_it (brs_it (brs_it be_w be_s0) be_s1) be_s2) be_s3) be_s4) be_s5) be_s6) be_s7) be_s8) be_s9)
theorem be_out : ∀ j, j < 4 → bsum [] j = [105, 33, 122, 48].getD j 0 := by
  rw [bsum_small (by decide), be_b]
  unfold hsumf
  rw [show hmsg [] = hbeg from rfl, show ([] : List Nat).length = 0 from rfl, hol_congr (sqz_it be_all)]
  decide +kernel

end Go.Proofs.YtlaebpebgjaehaaDoor

/-
  The end of the one-time sum, in plain numbers.
-/
namespace Go.Proofs.YtlaebpebgjaehaaDoor
open Go Go.RowKit

/-- What is carried below place i. -/
def cr (x y i : Nat) : Nat := (x % 256 ^ i + y % 256 ^ i) / 256 ^ i
def tgn (x y i : Nat) : Nat := (x + y) / 256 ^ i % 256
theorem p256 (i : Nat) : 0 < 256 ^ i := Nat.pow_pos (by decide)
theorem cr_zero (x y : Nat) : cr x y 0 = 0 := by simp [cr, Nat.mod_one]
theorem cr_le (x y i : Nat) : cr x y i ≤ 1 := by
  unfold cr
  have h1 := Nat.mod_lt x (p256 i)
  have h2 := Nat.mod_lt y (p256 i)
  have : (x % 256 ^ i + y % 256 ^ i) / 256 ^ i < 2 := Nat.div_lt_of_lt_mul (by omega)
  omega
theorem cr_next (x y i : Nat) : (cr x y i + (x / 256 ^ i % 256 + y / 256 ^ i % 256)) / 256 = cr x y (i + 1) := by
  unfold cr
  rw [Nat.pow_succ, Nat.mod_mul, Nat.mod_mul (x := y)]
  generalize x / 256 ^ i % 256 = a
  generalize y / 256 ^ i % 256 = b
  generalize x % 256 ^ i = p
  generalize y % 256 ^ i = q
  rw [← Nat.div_div_eq_div_mul]
  congr 1
  have hp := p256 i
  generalize 256 ^ i = M at *
  rw [show p + M * a + (q + M * b) = p + q + M * (a + b) by rw [Nat.mul_add]; omega, Nat.add_mul_div_left _ _ hp]
theorem tgn_at (x y i : Nat) : (cr x y i + (x / 256 ^ i % 256 + y / 256 ^ i % 256)) % 256 = tgn x y i := by
  unfold cr tgn
  have hp := p256 i
  have ex := Nat.div_add_mod x (256 ^ i)
  have ey := Nat.div_add_mod y (256 ^ i)
  have e : (x + y) / 256 ^ i = x / 256 ^ i + y / 256 ^ i + (x % 256 ^ i + y % 256 ^ i) / 256 ^ i := by
    conv => lhs; rw [← ex, ← ey]
    generalize 256 ^ i = M at *
    rw [show M * (x / M) + x % M + (M * (y / M) + y % M) = x % M + y % M + M * (x / M + y / M) by rw [Nat.mul_add]; omega, Nat.add_mul_div_left _ _ hp]
    omega
  rw [e]
  omega
theorem k3_wd (x : Nat) : k3 (wd x) = x % 2 ^ 128 := by
  unfold k3 wd
  simp only [Nat.mul_zero, Nat.pow_zero, Nat.div_one, Nat.mul_one]
  omega
theorem lw_get {r : Nat → Nat} (h0 : r 0 < 18446744073709551616) {i : Nat} (hi : i < 16) : (lw r)[i]? = some (k3 r / 256 ^ i % 256) := by
  unfold lw
  by_cases h : i < 8
  · rw [List.getElem?_append_left (by rw [lowl_len]; exact h)]
    simp only [lowl, List.getElem?_map, List.getElem?_range h, Option.map_some]
    congr 1
    unfold k3
    have : i = 0 ∨ i = 1 ∨ i = 2 ∨ i = 3 ∨ i = 4 ∨ i = 5 ∨ i = 6 ∨ i = 7 := by omega
    rcases this with rfl | rfl | rfl | rfl | rfl | rfl | rfl | rfl <;> simp only [Nat.reducePow] <;> omega
  · rw [List.getElem?_append_right (by rw [lowl_len]; omega), lowl_len]
    simp only [lowl, List.getElem?_map, List.getElem?_range (show i - 8 < 8 by omega), Option.map_some]
    congr 1
    unfold k3
    have : i = 8 ∨ i = 9 ∨ i = 10 ∨ i = 11 ∨ i = 12 ∨ i = 13 ∨ i = 14 ∨ i = 15 := by omega
    rcases this with rfl | rfl | rfl | rfl | rfl | rfl | rfl | rfl <;> simp only [Nat.reducePow, Nat.reduceSub] <;> omega

end Go.Proofs.YtlaebpebgjaehaaDoor

/-
  The one-time sum of bytes that came in pieces: its state is that of all of them. Plain arithmetic.
-/
namespace Go.Proofs.YtlaebpebgjaehaaDoor
open Go Go.RowKit

def rem16 (m : List Nat) : List Nat := m.drop (16 * (m.length / 16))
theorem rem16_len (m : List Nat) : (rem16 m).length = m.length % 16 := by simp [rem16]; omega
theorem rem16_lt {m : List Nat} (h : ∀ b ∈ m, b < 256) : ∀ b ∈ rem16 m, b < 256 := fun b hb => h b (List.mem_of_mem_drop hb)
def acc0 (R : Nat) (m : List Nat) : Nat := accs R 0 m (m.length / 16)
def heldF (m : List Nat) (i : Nat) : Nat := (rem16 m).getD i 0
theorem wd_none : wd 0 = fun _ => 0 := by funext j; simp [wd]
theorem pst_lt (R A : Nat) (l : List Nat) : pst R A l < QQ := Nat.mod_lt _ QQ_pos
theorem accs_ltQ {R A : Nat} {S : List Nat} (hA : A < QQ) : ∀ k, accs R A S k < QQ
  | 0 => hA
  | _ + 1 => pst_lt _ _ _
theorem acc0_lt (R : Nat) (m : List Nat) : acc0 R m < QQ := accs_ltQ QQ_pos _
theorem accs_pre (R A : Nat) (m l : List Nat) : ∀ k, 16 * k ≤ m.length → accs R A (m ++ l) k = accs R A m k
  | 0, _ => rfl
  | k + 1, h => by
    rw [accs, accs, accs_pre R A m l k (by omega), List.drop_append_of_le_length (by omega), List.take_append_of_le_length (by simp; omega)]
theorem drop_rem (m l : List Nat) (k : Nat) : (m ++ l).drop (16 * (m.length / 16 + k)) = (rem16 m ++ l).drop (16 * k) := by
  have e : (m ++ l).drop (16 * (m.length / 16)) = rem16 m ++ l := List.drop_append_of_le_length (by omega)
  rw [← e, List.drop_drop, Nat.mul_add]
theorem accs_app (R : Nat) (m l : List Nat) : ∀ k, accs R 0 (m ++ l) (m.length / 16 + k) = accs R (acc0 R m) (rem16 m ++ l) k
  | 0 => accs_pre R 0 m l _ (by omega)
  | k + 1 => by
    show accs R 0 (m ++ l) (m.length / 16 + k + 1) = _
    rw [accs, accs, accs_app R m l k, drop_rem]
theorem sS_held (m l : List Nat) : sS (heldF m) (rem16 m).length l = rem16 m ++ l := by
  unfold sS
  congr 1
  apply List.ext_getElem
  · simp
  · intro j h1 h2
    simp only [List.getElem_map, List.getElem_range]
    unfold heldF
    rw [List.getD_eq_getElem?_getD, List.getElem?_eq_getElem h2]; rfl
theorem part_len (m l : List Nat) : m.length / 16 + (rem16 m ++ l).length / 16 = (m ++ l).length / 16 := by
  rw [List.length_append, List.length_append, rem16_len]; omega
theorem acc0_app (R : Nat) (m l : List Nat) : accs R (acc0 R m) (rem16 m ++ l) ((rem16 m ++ l).length / 16) = acc0 R (m ++ l) := by
  rw [← accs_app, part_len]; rfl
theorem rem16_app (m l : List Nat) : (rem16 m ++ l).drop (16 * ((rem16 m ++ l).length / 16)) = rem16 (m ++ l) := by
  rw [← drop_rem, part_len]; rfl

/-! ### A state that may be -/
theorem leN_get : ∀ (L : List Nat), (∀ b ∈ L, b < 256) → ∀ i (h : i < L.length), leN L / 256 ^ i % 256 = L[i]
  | [], _, i, h => by simp at h
  | b :: L, hb, 0, _ => by
    have := hb b (by simp)
    simp only [leN, Nat.pow_zero, Nat.div_one, List.getElem_cons_zero]; omega
  | b :: L, hb, i + 1, h => by
    have := hb b (by simp)
    rw [Nat.pow_succ, Nat.mul_comm (256 ^ i), ← Nat.div_div_eq_div_mul]
    simp only [leN, List.getElem_cons_succ]
    rw [show (b + 256 * leN L) / 256 = leN L by omega]
    exact leN_get L (fun x hx => hb x (by simp [hx])) i (by simpa using h)
theorem lowl_leN {L : List Nat} (hb : ∀ b ∈ L, b < 256) {k : Nat} (hk : L.length = k) : lowl (leN L) k = L := by
  apply List.ext_getElem
  · simp [lowl, hk]
  · intro j h1 h2
    simp only [lowl, List.getElem_map, List.getElem_range]
    exact leN_get L hb j h2
theorem lw_w8 {L : List Nat} (hb : ∀ b ∈ L, b < 256) (hl : 16 ≤ L.length) : lw (w8 L) = L.take 16 := by
  unfold lw w8
  rw [lowl_leN (take_lt hb _ _) (by simp; omega), lowl_leN (take_lt hb _ _) (by simp; omega)]
  rw [show 8 * 0 = 0 by rfl, List.drop_zero, show 8 * 1 = 8 by rfl, show (16 : Nat) = 8 + 8 by rfl, List.take_add]
theorem msk_msk (f g : Nat → Nat) {j : Nat} (h : g j = msk f j) : msk g j = msk f j := by
  unfold msk at *
  by_cases h1 : j < 16 ∧ j % 4 = 3
  · rw [if_pos h1] at h ⊢
    rw [if_pos h1, h]
    have : (f j &&& 15) % 256 = f j &&& 15 := Nat.mod_eq_of_lt (Nat.lt_of_le_of_lt Nat.and_le_right (by decide))
    rw [this, Nat.and_assoc]; simp [this]
  · rw [if_neg h1] at h ⊢
    rw [if_neg h1]
    by_cases h2 : 4 ≤ j ∧ j < 16 ∧ j % 4 = 0
    · rw [if_pos h2] at h ⊢
      rw [if_pos h2, h]
      have : (f j &&& 252) % 256 = f j &&& 252 := Nat.mod_eq_of_lt (Nat.lt_of_le_of_lt Nat.and_le_right (by decide))
      rw [this, Nat.and_assoc]; simp [this]
    · rw [if_neg h2] at h ⊢
      rw [if_neg h2, h]
theorem okR_begun {f : Nat → Nat} (hf : ∀ j, j < 32 → f j < 256) : allEq 2 (w8 (bL (kq (w8 (bL f))))) (w8 (bL f)) = true := by
  have hb := bL_lt hf
  have hl := bL_len f
  rw [allEq_iff]
  intro j hj
  have hk : ∀ i, i < 16 → kq (w8 (bL f)) i = msk f i := fun i hi => by
    unfold kq
    rw [lw_w8 hb (by omega), List.getD_eq_getElem?_getD, List.getElem?_take, if_pos hi, List.getElem?_eq_getElem (by omega)]
    simp [bL]
  unfold w8
  congr 1
  apply List.ext_getElem
  · simp [bL_len]
  · intro i h1 h2
    have hi : i < 8 := by simp at h1; omega
    simp only [List.getElem_take, List.getElem_drop, bL, List.getElem_map, List.getElem_range]
    exact msk_msk f _ (hk _ (by omega))
theorem ok_make {r : Nat → Nat} {A n : Nat} {h : Nat → Nat} (hr : allEq 2 (w8 (bL (kq r))) r = true) (hA : A < QQ) (hn : n < 16) (hh : ∀ j, n ≤ j → j < 16 → h j = 0) : (okcd r (wd A) n && okh n h 16) = true := by
  have hA3 : A < 2 ^ 130 := Nat.lt_trans hA QQ_lt
  rw [Bool.and_eq_true]
  refine ⟨(ok_all hr (by omega) (by omega) (wd2_lt hA3) ?_).symm, ?_⟩
  · rw [w3_wd hA3, Nat.mod_eq_of_lt hA]
    exact allEq_iff.2 fun _ _ => rfl
  · unfold okh
    rw [List.all_eq_true]
    intro j hj
    have hj := List.mem_range.1 hj
    by_cases hjn : j < n
    · simp [hjn]
    · simp [hh j (by omega) hj]
theorem ok_heldF {r : Nat → Nat} (hr : allEq 2 (w8 (bL (kq r))) r = true) (R : Nat) (m : List Nat) : (okcd r (wd (acc0 R m)) ((rem16 m).length : Nat) && okh ((rem16 m).length : Nat) (heldF m) 16) = true :=
  ok_make hr (acc0_lt R m) (by rw [rem16_len]; omega) fun j h1 _ => by
    unfold heldF
    rw [List.getD_eq_getElem?_getD, List.getElem?_eq_none h1]; rfl
theorem heldF_lt {m : List Nat} (hm : ∀ b ∈ m, b < 256) (j : Nat) : heldF m j < 256 := getD_lt (rem16_lt hm) j
/-- What may be is a number below the prime, and so many bytes. -/
theorem ok_open {r a h : Nat → Nat} {n : Int} (hok : (okcd r a n && okh n h 16) = true) : allEq 2 (w8 (bL (kq r))) r = true ∧ (∃ k : Nat, n = k ∧ k < 16 ∧ ∀ j, k ≤ j → j < 16 → h j = 0) ∧ w3 a < QQ ∧ ∀ j, j < 3 → a j = wd (w3 a) j := by
  rw [Bool.and_eq_true] at hok
  obtain ⟨h1, h2⟩ := hok
  unfold okcd at h1
  simp only [Bool.and_eq_true, decide_eq_true_eq] at h1
  obtain ⟨q0, q1, q2, q3, q4⟩ := h1
  have q4 := allEq_iff.1 q4
  have hQ : w3 a % QQ < QQ := Nat.mod_lt _ QQ_pos
  have e2 : w3 (wd (w3 a % QQ)) = w3 a := by
    generalize w3 a % QQ = X at q4
    unfold w3
    rw [q4 0 (by decide), q4 1 (by decide), q4 2 (by decide)]
  have e : w3 a = w3 a % QQ := e2.symm.trans (w3_wd (Nat.lt_trans hQ QQ_lt))
  refine ⟨q0, ⟨n.toNat, by omega, by omega, fun j hj h16 => ?_⟩, by rw [e]; exact hQ, fun j hj => ?_⟩
  · unfold okh at h2
    rw [List.all_eq_true] at h2
    have := h2 j (List.mem_range.2 h16)
    have hn : ¬ (j : Int) < n := by omega
    simpa [hn] using this
  · rw [← q4 j hj, ← e]

/-! ### The sum of bytes by a key -/
/-- What is known when the bytes m were taken in, by the key f. -/
abbrev cP (f : Nat → Nat) (m : List Nat) : Array Value := cells 24 [pI .u64 2 (w8 (bL f)), pI .u64 2 (fun j => w8 (bL f) (j + 2)), pI .u64 3 (wd (acc0 (k3 (w8 (bL f))) m)), pI .u8 16 (heldF m), pV (.int .i64 ((rem16 m).length : Nat))]
abbrev stP (f : Nat → Nat) (m : List Nat) : Value := .agg (cP f m)
theorem stP_nil (f : Nat → Nat) : PV (w8 (bL f)) (fun j => w8 (bL f) (j + 2)) (fun _ => 0) (fun _ => 0) 0 = stP f [] := by
  have e1 : wd (acc0 (k3 (w8 (bL f))) []) = fun _ => 0 := wd_none
  have e2 : heldF [] = fun _ => 0 := by funext i; simp [heldF, rem16]
  unfold stP cP
  rw [e1, e2]; rfl
def accE (R : Nat) (m : List Nat) : Nat := if (rem16 m).length = 0 then acc0 R m else pst R (acc0 R m) (rem16 m)
/-- The tag of the bytes m by the key f. -/
def ptg (f : Nat → Nat) (m : List Nat) (i : Nat) : Nat := tgn (k3 (wd (accE (k3 (w8 (bL f))) m))) (k3 fun j => w8 (bL f) (j + 2)) i
theorem ptg_lt (f : Nat → Nat) (m : List Nat) (i : Nat) : ptg f m i < 256 := Nat.mod_lt _ (by decide)
theorem held_list (m : List Nat) : (List.range (rem16 m).length).map (heldF m) = rem16 m := by
  have := sS_held m []
  unfold sS at this
  simpa using this

end Go.Proofs.YtlaebpebgjaehaaDoor

/-
  Bytes that are cut in three; a key whose first half is nought.
-/
namespace Go.Proofs.YtlaebpebgjaehaaDoor
open Go Go.RowKit

def cut3 (i j n x : Nat) : Nat := if x = 0 then 0 else if x = 1 then i else if x = 2 then j else n
theorem cut3_le {i j n x : Nat} (hij : i ≤ j) (hjn : j ≤ n) (hx : x < 3) : cut3 i j n x ≤ cut3 i j n (x + 1) ∧ cut3 i j n (x + 1) ≤ n := by
  have : x = 0 ∨ x = 1 ∨ x = 2 := by omega
  rcases this with rfl | rfl | rfl
  · exact ⟨Nat.zero_le _, Nat.le_trans hij hjn⟩
  · exact ⟨hij, hjn⟩
  · exact ⟨hjn, Nat.le_refl _⟩
theorem take_part (l : List Nat) {a b : Nat} (h : a ≤ b) : l.take a ++ (l.drop a).take (b - a) = l.take b := by
  rw [← List.take_add, show a + (b - a) = b by omega]
theorem conv_from (f : Nat → Nat) (o n : Nat) : Value.string (strOfNums ((List.range n).map fun j => (f (o + j) : Int))) = sv ((List.range n).map fun j => f (o + j)) := by
  have e : ((List.range n).map fun j => (f (o + j) : Int)) = ((List.range n).map fun j => f (o + j)).map fun m : Nat => (m : Int) := by
    rw [List.map_map]
    exact List.map_congr_left fun j _ => by simp
  rw [e, str_nums]
theorem pst_zero (A : Nat) (l : List Nat) : pst 0 A l = 0 := by unfold pst; simp
theorem accs_zero (S : List Nat) : ∀ k, accs 0 0 S k = 0
  | 0 => rfl
  | _ + 1 => pst_zero _ _
theorem accE_zero (m : List Nat) : accE 0 m = 0 := by
  unfold accE
  split
  · exact accs_zero m _
  · exact pst_zero _ _
theorem leN_all0 : ∀ (l : List Nat), (∀ b ∈ l, b = 0) → leN l = 0
  | [], _ => rfl
  | b :: l, h => by
    rw [leN, h b (by simp), leN_all0 l (fun x hx => h x (by simp [hx]))]
theorem leN_two (l : List Nat) (hl : 8 ≤ l.length) : leN (l.take 8) + leN (l.drop 8) * 2 ^ 64 = leN l := by
  have h := leN_app (l.take 8) (l.drop 8)
  rw [List.take_append_drop] at h
  have e : (l.take 8).length = 8 := by simp; omega
  rw [e] at h
  rw [h]
  have : (256 : Nat) ^ 8 = 2 ^ 64 := by decide
  rw [this, Nat.mul_comm (2 ^ 64)]
theorem ptg_zero {z f : Nat → Nat} (h0 : ∀ j, j < 16 → z j = 0) (h1 : ∀ j, 16 ≤ j → j < 32 → z j = f j) (hf : ∀ j, j < 32 → f j < 256) (m : List Nat) {i : Nat} (hi : i < 16) : ptg z m i = f (16 + i) := by
  have hmz : ∀ j, j < 16 → msk z j = 0 := fun j hj => by
    unfold msk
    rw [h0 j hj]
    split
    · simp
    · split <;> simp
  have hmf : ∀ j, 16 ≤ j → j < 32 → msk z j = f j := fun j h2 h3 => by
    unfold msk
    rw [if_neg (by omega), if_neg (by omega), h1 j h2 h3]
  have eR : ∀ q, q < 2 → w8 (bL z) q = 0 := fun q hq => by
    unfold w8
    refine leN_all0 _ fun b hb => ?_
    obtain ⟨j, hj, rfl⟩ := List.getElem_of_mem hb
    have hj8 : j < 8 := by simp at hj; omega
    simp only [List.getElem_take, List.getElem_drop, bL, List.getElem_map, List.getElem_range]
    exact hmz _ (by omega)
  have eK : k3 (w8 (bL z)) = 0 := by unfold k3; rw [eR 0 (by decide), eR 1 (by decide)]
  have eL : (bL z).drop 16 = (List.range 16).map fun j => f (16 + j) := by
    apply List.ext_getElem
    · simp [bL]
    · intro j h2 h3
      have hj : j < 16 := by simpa using h3
      simp only [List.getElem_drop, bL, List.getElem_map, List.getElem_range]
      exact hmf _ (by omega) (by omega)
  have eP : (k3 fun j => w8 (bL z) (j + 2)) = leN ((List.range 16).map fun j => f (16 + j)) := by
    have h2 := leN_two ((List.range 16).map fun j => f (16 + j)) (by simp)
    rw [← h2, ← eL]
    show leN (((bL z).drop 16).take 8) + leN (((bL z).drop (16 + 8)).take 8) * 2 ^ 64 = _
    rw [← List.drop_drop]
    rw [List.take_of_length_le (l := ((bL z).drop 16).drop 8) (by simp [bL_len])]
  unfold ptg
  rw [eK, accE_zero, eP]
  unfold tgn
  have : k3 (wd 0) = 0 := by rw [wd_none]; rfl
  rw [this, Nat.zero_add, leN_get _ (fun b hb => by obtain ⟨j, hj, rfl⟩ := List.mem_map.1 hb; exact hf _ (by have := List.mem_range.1 hj; omega)) i (by simpa using hi)]
  simp
/-- The first half is written over with noughts. -/
def half0 (f : Nat → Nat) : Nat → Nat := fun j => if 0 ≤ j ∧ j < 0 + min (zrs 16).length 16 then (zrs 16).getD (j - 0) 0 else f j
theorem half0_lo (f : Nat → Nat) : ∀ j, j < 16 → half0 f j = 0 := fun j hj => by
  unfold half0
  rw [if_pos (by rw [zrs_len]; omega)]
  simp [zrs, List.getD_eq_getElem?_getD, hj]
theorem half0_hi (f : Nat → Nat) : ∀ j, 16 ≤ j → j < 32 → half0 f j = f j := fun j h1 h2 => by
  unfold half0
  rw [if_neg (by rw [zrs_len]; omega)]
theorem half0_lt {f : Nat → Nat} (hf : ∀ j, j < 32 → f j < 256) : ∀ j, j < 32 → half0 f j < 256 := fun j hj => by
  by_cases h : j < 16
  · rw [half0_lo f j h]; decide
  · rw [half0_hi f j (by omega) hj]; exact hf j hj
theorem ptg_half0 {f : Nat → Nat} (hf : ∀ j, j < 32 → f j < 256) (m : List Nat) : ((List.range 16).map fun j => ptg (half0 f) m (0 + j)) = (List.range 16).map fun j => f (16 + j) :=
  List.map_congr_left fun j hj => by
    rw [Nat.zero_add]
    exact ptg_zero (half0_lo f) (half0_hi f) hf m (List.mem_range.1 hj)

end Go.Proofs.YtlaebpebgjaehaaDoor

/-
  Walks, written by a program of ours off the loaded functions.
-/
namespace Go.Proofs.YtlaebpebgjaehaaDoor
open Go Go.RowKit


theorem ent16 : enters Tryd.prog 16 = true := by kernel_rfl
theorem ent17 : enters Tryd.prog 17 = true := by kernel_rfl
theorem siz9 : (Tryd.prog.info? 9).map (·.size) = some 1 := by kernel_rfl
theorem siz27 : (Tryd.prog.info? 27).map (·.size) = some 1 := by kernel_rfl
theorem und42 : Tryd.prog.underlying 42 = some (.slice 27) := by kernel_rfl
theorem und45 : Tryd.prog.underlying 45 = some (.slice 9) := by kernel_rfl
theorem zer9 : (Tryd.prog.info? 9).bind (·.zero) = some (.string ByteArray.empty) := by kernel_rfl
theorem zer27 : (Tryd.prog.info? 27).bind (·.zero) = some (.slice none 0 0) := by kernel_rfl

variable {G : Mem}

set_option maxHeartbeats 400000 in
theorem picked_fn (z : Int) (m : Nat) (hm : 0 < m) (hm2 : m < 4294967296) : Fn Tryd.prog G 16 #[.int .i64 z, ii m] (ii (pkn z m)) := by
  have htm := tmod_bd z hm
  refine fn1 (n := 14) Tryd.func16 rfl rfl (by simp) (argE [.int .i64 z, ii m] 0) (argE_ok _) ?_
  refine e_seq ?_
  refine e_plain ?_
  refine e_assign rfl rfl ?_
  refine e_nil ?_
  refine e_seq ?_
  refine e_plain ?_
  refine e_move rfl rfl ?_
  refine e_move rfl rfl ?_
  refine e_rem_z rfl rfl rfl (by omega) ?_
  refine e_assign rfl rfl ?_
  refine e_nil ?_
  refine e_seq ?_
  refine e_seq ?_
  refine e_plain ?_
  refine e_move rfl rfl ?_
  refine e_lt rfl rfl rfl ?_
  refine e_nil ?_
  refine e_cond rfl ?_ ?_
  · intro hc0
    have hc0 := of_decide_eq_true hc0
    refine e_plain ?_
    refine e_move rfl rfl ?_
    refine e_move rfl rfl ?_
    refine e_add_z rfl rfl rfl (by omega) (by omega) ?_
    refine e_as (congrArg (Value.int .i64) (pkn_neg hm hc0)) ?_
    refine e_assign rfl rfl ?_
    refine e_nil ?_
    refine e_seq ?_
    refine e_plain ?_
    refine e_move rfl rfl ?_
    refine e_assign rfl rfl ?_
    refine e_nil ?_
    refine e_ret ?_
    exact ⟨_, rfl, .tmp rfl⟩
  · intro hc0
    have hc0 := of_decide_eq_false hc0
    rw [ii, ← pkn_pos hm hc0]
    refine e_skip ?_
    refine e_seq ?_
    refine e_plain ?_
    refine e_move rfl rfl ?_
    refine e_assign rfl rfl ?_
    refine e_nil ?_
    refine e_ret ?_
    exact ⟨_, rfl, .tmp rfl⟩

set_option maxHeartbeats 2000000 in
theorem blakeTells_fn (DG : Mem) (hS : ∀ (G : Mem) (v : Value) (l : List Nat), (∀ b ∈ l, b < 256) → l.length ≤ 1000000 → Shows (DG ++ G) 1 v l.length (l.map by8) → Fn Tryd.prog (DG ++ G) 14 #[v] (.agg (arr .u8 32 (bsum l)))) : Fn Tryd.prog (DG ++ G) 17 #[] (.bool true) := by
  refine fn1 (n := 8) Tryd.func17 rfl rfl (by simp) (argE [] 0) (argE_ok _) ?_
  refine e_seq ?_
  refine e_plain ?_
  refine e_assign rfl rfl ?_
  refine e_nil ?_
  refine e_seq ?_
  refine e_plainR ⟨[], 1, [27]⟩ ?_
  refine e_buildSl 0 ((([97, 98, 99] : List Nat).map by8).toArray) und27 siz5 zer5 (by decide) (by decide) rfl (by kernel_rfl) rfl fun r1 => ?_
  refine e_conv_mark 0 und27 und5 rfl rfl rfl rfl ?_
  refine e_callS rfl rfl ent14 (seen_app seen_gl (seen1 0 rfl ⟨[], trivial⟩)) (hS [⟨r1, (([97, 98, 99] : List Nat).map by8).toArray, 5⟩] _ [97, 98, 99] (by decide) (by decide) (Shows.mono (shows_new _ _ (by rfl)) (fun x h => List.mem_append_right _ h))) rfl rfl ?_
  refine e_alloc 1 zer34 rfl fun r2 => ?_
  refine e_storeA (i := 1) siz34 rfl rfl (arr_size _ _ _) arr_one rfl (arr_sz _ _ _ _ _) (.inl rfl) ?_
  refine e_nil ?_
  refine e_seq ?_
  refine e_plain ?_
  refine e_index0 (j := 0) und34 siz5 rfl rfl (by omega) rfl ?_
  refine e_load1 (i := 1) und5 rfl rfl rfl (arr_get (by omega)) rfl ⟨[], trivial⟩ ?_
  refine e_as (congrArg by8 (ba_out 0 (by decide))) ?_
  refine e_eq rfl rfl rfl ?_
  refine e_as (congrArg Value.bool (decide_eq_true rfl)) ?_
  refine e_assign rfl rfl ?_
  refine e_nil ?_
  refine e_ret ?_
  exact ⟨_, rfl, .tmp rfl⟩

set_option maxHeartbeats 2000000 in
theorem blakeKnown_0 (DG : Mem) (z : Int) (hk : pkn z 2 = 0) (hS : ∀ (G : Mem) (v : Value) (l : List Nat), (∀ b ∈ l, b < 256) → l.length ≤ 1000000 → Shows (DG ++ G) 1 v l.length (l.map by8) → Fn Tryd.prog (DG ++ G) 14 #[v] (.agg (arr .u8 32 (bsum l)))) : Fn Tryd.prog (DG ++ G) 7 #[.int .i64 z] (.bool true) := by
  refine fn1 (n := 20) Tryd.func7 rfl rfl (by simp) (argE [.int .i64 z] 0) (argE_ok _) ?_
  refine e_seq ?_
  refine e_plain ?_
  refine e_assign rfl rfl ?_
  refine e_nil ?_
  refine e_seq ?_
  refine e_plain ?_
  refine e_move rfl rfl ?_
  refine e_call rfl ent16 (picked_fn z 2 (by decide) (by decide)) rfl rfl ?_
  refine e_as (congrArg ii hk) ?_
  refine e_assign rfl rfl ?_
  refine e_nil ?_
  refine e_seq ?_
  refine e_plainR ⟨[], 1, [27]⟩ ?_
  refine e_buildSl 0 (#[sv [97, 98, 99], sv []]) und45 siz9 zer9 (by decide) (by decide) rfl (by kernel_rfl) rfl fun r1 => ?_
  refine e_move rfl rfl ?_
  refine e_atV (shows_new (r := r1) (z := 1) (len := 2) #[sv [97, 98, 99], sv []] 9 (by rfl)) und45 siz9 rfl rfl (by omega) rfl ?_
  refine e_as (congrArg (slAddr _) (Nat.mul_one _)) ?_
  refine e_loadV (shows_new (r := r1) (z := 1) (len := 2) #[sv [97, 98, 99], sv []] 9 (by rfl)) (seen1 0 rfl ⟨[], trivial⟩) und9 rfl rfl (show (#[sv [97, 98, 99], sv []] : Array Value).toList[0]? = some (sv [97, 98, 99]) from rfl) rfl ?_
  refine e_conv_own 1 und9 und27 und5 rfl (by decide) (by decide) rfl rfl fun v1_1 oz1_1 ho1_1 => ?_
  refine e_callS rfl rfl ent14 (seen_app seen_gl (seenM 1 rfl ⟨[], trivial⟩)) (hS oz1_1.toList _ [97, 98, 99] (by decide) (by decide) (Shows.mono (own_bytes ho1_1) (fun x h => List.mem_append_right _ h))) rfl rfl ?_
  refine e_alloc 2 zer34 rfl fun r3 => ?_
  refine e_storeA (i := 2) siz34 rfl rfl (arr_size _ _ _) arr_one rfl (arr_sz _ _ _ _ _) (.inl rfl) ?_
  refine e_nil ?_
  refine e_seq ?_
  refine e_draw mixed (by kernel_rfl) ?_
  refine e_sliceA 0 4 und34 siz5 rfl rfl rfl rfl ⟨_, rfl⟩ (by omega) (by omega) (by omega) rfl ?_
  refine e_conv_str (i := 2) und27 und5 und9 rfl rfl (by omega) rfl rfl ⟨[], trivial⟩ ?_
  refine e_as ((conv_from (bsum [97, 98, 99]) 0 4).trans (congrArg sv (show _ = [80, 140, 94, 140] from known4 ba_out))) ?_
  refine e_buildSl 3 (#[sv [80, 140, 94, 140], sv [105, 33, 122, 48]]) und45 siz9 zer9 (by decide) (by decide) rfl (by kernel_rfl) rfl fun r4 => ?_
  refine e_move rfl rfl ?_
  refine e_atV (shows_new (r := r4) (z := 1) (len := 2) #[sv [80, 140, 94, 140], sv [105, 33, 122, 48]] 9 (by rfl)) und45 siz9 rfl rfl (by omega) rfl ?_
  refine e_as (congrArg (slAddr _) (Nat.mul_one _)) ?_
  refine e_loadV (shows_new (r := r4) (z := 1) (len := 2) #[sv [80, 140, 94, 140], sv [105, 33, 122, 48]] 9 (by rfl)) (seen1 3 rfl ⟨[], trivial⟩) und9 rfl rfl (show (#[sv [80, 140, 94, 140], sv [105, 33, 122, 48]] : Array Value).toList[0]? = some (sv [80, 140, 94, 140]) from rfl) rfl ?_
  refine e_eqStr rfl rfl rfl (by decide) (by decide) ?_
  refine e_as (congrArg Value.bool (decide_eq_true rfl)) ?_
  refine e_assign rfl rfl ?_
  refine e_nil ?_
  refine e_ret ?_
  exact ⟨_, rfl, .tmp rfl⟩

set_option maxHeartbeats 2000000 in
theorem blakeKnown_1 (DG : Mem) (z : Int) (hk : pkn z 2 = 1) (hS : ∀ (G : Mem) (v : Value) (l : List Nat), (∀ b ∈ l, b < 256) → l.length ≤ 1000000 → Shows (DG ++ G) 1 v l.length (l.map by8) → Fn Tryd.prog (DG ++ G) 14 #[v] (.agg (arr .u8 32 (bsum l)))) : Fn Tryd.prog (DG ++ G) 7 #[.int .i64 z] (.bool true) := by
  refine fn1 (n := 20) Tryd.func7 rfl rfl (by simp) (argE [.int .i64 z] 0) (argE_ok _) ?_
  refine e_seq ?_
  refine e_plain ?_
  refine e_assign rfl rfl ?_
  refine e_nil ?_
  refine e_seq ?_
  refine e_plain ?_
  refine e_move rfl rfl ?_
  refine e_call rfl ent16 (picked_fn z 2 (by decide) (by decide)) rfl rfl ?_
  refine e_as (congrArg ii hk) ?_
  refine e_assign rfl rfl ?_
  refine e_nil ?_
  refine e_seq ?_
  refine e_plainR ⟨[], 1, [27]⟩ ?_
  refine e_buildSl 0 (#[sv [97, 98, 99], sv []]) und45 siz9 zer9 (by decide) (by decide) rfl (by kernel_rfl) rfl fun r1 => ?_
  refine e_move rfl rfl ?_
  refine e_atV (shows_new (r := r1) (z := 1) (len := 2) #[sv [97, 98, 99], sv []] 9 (by rfl)) und45 siz9 rfl rfl (by omega) rfl ?_
  refine e_as (congrArg (slAddr _) (Nat.mul_one _)) ?_
  refine e_loadV (shows_new (r := r1) (z := 1) (len := 2) #[sv [97, 98, 99], sv []] 9 (by rfl)) (seen1 0 rfl ⟨[], trivial⟩) und9 rfl rfl (show (#[sv [97, 98, 99], sv []] : Array Value).toList[1]? = some (sv []) from rfl) rfl ?_
  refine e_conv_own 1 und9 und27 und5 rfl (by simp) (by decide) rfl rfl fun v1_1 oz1_1 ho1_1 => ?_
  refine e_callS rfl rfl ent14 (seen_app seen_gl (seenM 1 rfl ⟨[], trivial⟩)) (hS oz1_1.toList _ [] (by simp) (by decide) (Shows.mono (own_bytes ho1_1) (fun x h => List.mem_append_right _ h))) rfl rfl ?_
  refine e_alloc 2 zer34 rfl fun r3 => ?_
  refine e_storeA (i := 2) siz34 rfl rfl (arr_size _ _ _) arr_one rfl (arr_sz _ _ _ _ _) (.inl rfl) ?_
  refine e_nil ?_
  refine e_seq ?_
  refine e_draw mixed (by kernel_rfl) ?_
  refine e_sliceA 0 4 und34 siz5 rfl rfl rfl rfl ⟨_, rfl⟩ (by omega) (by omega) (by omega) rfl ?_
  refine e_conv_str (i := 2) und27 und5 und9 rfl rfl (by omega) rfl rfl ⟨[], trivial⟩ ?_
  refine e_as ((conv_from (bsum []) 0 4).trans (congrArg sv (show _ = [105, 33, 122, 48] from known4 be_out))) ?_
  refine e_buildSl 3 (#[sv [80, 140, 94, 140], sv [105, 33, 122, 48]]) und45 siz9 zer9 (by decide) (by decide) rfl (by kernel_rfl) rfl fun r4 => ?_
  refine e_move rfl rfl ?_
  refine e_atV (shows_new (r := r4) (z := 1) (len := 2) #[sv [80, 140, 94, 140], sv [105, 33, 122, 48]] 9 (by rfl)) und45 siz9 rfl rfl (by omega) rfl ?_
  refine e_as (congrArg (slAddr _) (Nat.mul_one _)) ?_
  refine e_loadV (shows_new (r := r4) (z := 1) (len := 2) #[sv [80, 140, 94, 140], sv [105, 33, 122, 48]] 9 (by rfl)) (seen1 3 rfl ⟨[], trivial⟩) und9 rfl rfl (show (#[sv [80, 140, 94, 140], sv [105, 33, 122, 48]] : Array Value).toList[1]? = some (sv [105, 33, 122, 48]) from rfl) rfl ?_
  refine e_eqStr rfl rfl rfl (by decide) (by decide) ?_
  refine e_as (congrArg Value.bool (decide_eq_true rfl)) ?_
  refine e_assign rfl rfl ?_
  refine e_nil ?_
  refine e_ret ?_
  exact ⟨_, rfl, .tmp rfl⟩

set_option maxHeartbeats 4000000 in
theorem blakeParts_fn (DG : Mem) (v : Value) (l0 : List Nat) (zc zm : Int) (hv : Shows (DG ++ G) 1 v l0.length (l0.map by8)) (hb : ∀ b ∈ l0, b < 256) (hS : ∀ (G : Mem) (v : Value) (l : List Nat), (∀ b ∈ l, b < 256) → l.length ≤ 1000000 → Shows (DG ++ G) 1 v l.length (l.map by8) → Fn Tryd.prog (DG ++ G) 14 #[v] (.agg (arr .u8 32 (bsum l)))) (hBg : ∀ (G : Mem), Fn Tryd.prog (DG ++ G) 10 #[] (stB [])) (hAd : ∀ (G : Mem) (m : List Nat) (v : Value) (l : List Nat), (∀ b ∈ m, b < 256) → (∀ b ∈ l, b < 256) → m.length + l.length ≤ 1000000 → Shows (DG ++ G) 1 v l.length (l.map by8) → Fn Tryd.prog (DG ++ G) 8 #[stB m, v] (.tuple #[stB (m ++ l), ii 0])) (hEn : ∀ (G : Mem) (m : List Nat), (∀ b ∈ m, b < 256) → m.length ≤ 1000000 → Fn Tryd.prog (DG ++ G) 12 #[stB m] (.tuple #[.agg (arr .u8 32 (bsum m)), ii 0])) : Fn Tryd.prog (DG ++ G) 6 #[v, .int .i64 zc, .int .i64 zm] (.bool true) := by
  obtain ⟨l, hl⟩ : ∃ l, l = l0.take 300 := ⟨_, rfl⟩
  have hll : l.length ≤ 300 := by rw [hl]; simp; omega
  have hlb : ∀ x ∈ l, x < 256 := fun x hx => hb x (by rw [hl] at hx; exact List.mem_of_mem_take hx)
  have hv1 : Shows (DG ++ G) 1 (slPart 1 v 0 (min l0.length 300)) l.length (l.map by8) := hv.cut (by omega) (by omega) ((take_min l0).trans hl.symm)
  obtain ⟨i, hi⟩ : ∃ i, i = pkn zc (l.length + 1) := ⟨_, rfl⟩
  have hi1 : i < l.length + 1 := by rw [hi]; exact pkn_lt zc (by omega)
  obtain ⟨q, hq⟩ : ∃ q, q = pkn zm (l.length - i + 1) := ⟨_, rfl⟩
  have hq1 : q < l.length - i + 1 := by rw [hq]; exact pkn_lt zm (by omega)
  obtain ⟨j, hj⟩ : ∃ j, j = i + q := ⟨_, rfl⟩
  refine fn1 (n := 88) Tryd.func6 rfl rfl (by simp) (argE [v, .int .i64 zc, .int .i64 zm] 0) (argE_ok _) ?_
  refine e_seq ?_
  refine e_plain ?_
  refine e_assign rfl rfl ?_
  refine e_nil ?_
  refine e_seq ?_
  refine e_plain ?_
  refine e_move rfl rfl ?_
  refine e_move rfl rfl ?_
  refine e_lenV hv und27 rfl rfl rfl ?_
  refine e_min (q := 300) rfl rfl rfl rfl ?_
  refine e_sliceV 0 (min l0.length 300) hv und27 siz5 rfl rfl rfl rfl ⟨_, rfl⟩ (by omega) (by omega) rfl ?_
  refine e_assign rfl rfl ?_
  refine e_nil ?_
  refine e_seq ?_
  refine e_plain ?_
  refine e_move rfl rfl ?_
  refine e_move rfl rfl ?_
  refine e_lenV hv1 und27 rfl rfl rfl ?_
  refine e_add_i (q := 1) rfl rfl rfl (by omega) ?_
  refine e_call rfl ent16 (picked_fn zc (l.length + 1) (by omega) (by omega)) rfl rfl ?_
  refine e_as (congrArg ii hi.symm) ?_
  refine e_assign rfl rfl ?_
  refine e_nil ?_
  refine e_seq ?_
  refine e_plain ?_
  refine e_move rfl rfl ?_
  refine e_move rfl rfl ?_
  refine e_move rfl rfl ?_
  refine e_lenV hv1 und27 rfl rfl rfl ?_
  refine e_move rfl rfl ?_
  refine e_sub_in rfl rfl rfl (by omega) (by omega) ?_
  refine e_add_i (q := 1) rfl rfl rfl (by omega) ?_
  refine e_call rfl ent16 (picked_fn zm (l.length - i + 1) (by omega) (by omega)) rfl rfl ?_
  refine e_as (congrArg ii hq.symm) ?_
  refine e_add_i rfl rfl rfl (by omega) ?_
  refine e_as (congrArg ii hj.symm) ?_
  refine e_assign rfl rfl ?_
  refine e_nil ?_
  refine e_seq ?_
  refine e_plain ?_
  refine e_call rfl ent10 (hBg G) rfl rfl ?_
  refine e_alloc 0 zer26 rfl fun r1 => ?_
  refine e_storeA (i := 0) siz26 rfl rfl (arrv_size _ _) (cells_one ⟨fun _ => rfl, fun _ => rfl, fun _ => rfl, fun _ => rfl, trivial⟩) rfl cells_sz (.inl rfl) ?_
  refine e_nil ?_
  refine e_seq ?_
  refine e_seq ?_
  refine e_draw mixed (by kernel_rfl) ?_
  refine e_move rfl rfl ?_
  refine e_move rfl rfl ?_
  refine e_sliceV 0 i hv1 und27 siz5 rfl rfl rfl rfl ⟨_, rfl⟩ (by omega) (by omega) rfl ?_
  refine e_move rfl rfl ?_
  refine e_move rfl rfl ?_
  refine e_move rfl rfl ?_
  refine e_sliceV i j hv1 und27 siz5 rfl rfl rfl ⟨_, rfl⟩ ⟨_, rfl⟩ (by omega) (by omega) rfl ?_
  refine e_move rfl rfl ?_
  refine e_move rfl rfl ?_
  refine e_sliceV j l.length hv1 und27 siz5 rfl rfl rfl ⟨_, rfl⟩ rfl (by omega) (by omega) rfl ?_
  refine e_buildSl 1 (arrv 3 (fun x => slPart 1 (slPart 1 v 0 (min l0.length 300)) (cut3 i j l.length x) (cut3 i j l.length (x + 1)))) und42 siz27 zer27 (by decide) (by decide) rfl ((fill3 (by simp) (shows_one (hv1.part (by omega) (by omega))) (shows_one (hv1.part (by omega) (by omega))) (shows_one (hv1.part (by omega) (by omega)))).trans rfl) rfl fun r2 => ?_
  refine e_lenV (arrv_shows r2 3 (fun x => slPart 1 (slPart 1 v 0 (min l0.length 300)) (cut3 i j l.length x) (cut3 i j l.length (x + 1))) 27) und42 rfl rfl rfl ?_
  refine e_move rfl rfl ?_
  refine e_nil ?_
  refine e_block ?_
  refine e_loopK [(0, _), (9, _), (46, _), (47, _)] [(1, _)] (fun kk E m => ∃ (x : Nat), kk = 3 - x ∧ E = [(48, ii x)] ∧ m = [(0, some ⟨r1, cB (l.take (cut3 i j l.length x)), 26⟩)] ∧ (x ≤ 3)) [(48, ii 0)] [(0, some ⟨r1, cB (l.take (cut3 i j l.length 0)), 26⟩)] (3 - 0) ⟨rfl, rfl, rfl, rfl, rfl, trivial⟩ ⟨rfl, rfl, trivial⟩ ⟨0, rfl, rfl, rfl, by omega⟩ ?_
  rintro kk E m ⟨x, rfl, rfl, rfl, hf0_0⟩
  simp only [catE, catL]
  have hcl := fun (h : x < 3) => cut3_le (i := i) (j := j) (n := l.length) (x := x) (by omega) (by omega) h
  refine e_seq ?_
  refine e_plain ?_
  refine e_lt rfl rfl rfl ?_
  refine e_nil ?_
  refine e_seq ?_
  refine e_cond rfl ?_ ?_
  · intro hc0
    have hc0 : x < 3 := by have := of_decide_eq_true hc0; omega
    refine e_skip ?_
    refine e_seq ?_
    refine e_block ?_
    refine e_seq ?_
    refine e_plain ?_
    refine e_atV (arrv_shows r2 3 (fun x => slPart 1 (slPart 1 v 0 (min l0.length 300)) (cut3 i j l.length x) (cut3 i j l.length (x + 1))) 27) und42 siz27 rfl rfl (by omega) rfl ?_
    refine e_as (congrArg (slAddr _) (Nat.mul_one _)) ?_
    refine e_loadV (arrv_shows r2 3 (fun x => slPart 1 (slPart 1 v 0 (min l0.length 300)) (cut3 i j l.length x) (cut3 i j l.length (x + 1))) 27) (seen1 1 rfl ⟨[], trivial⟩) und27 rfl rfl (arrv_nth (by omega)) rfl ?_
    refine e_assign rfl rfl ?_
    refine e_nil ?_
    refine e_seq ?_
    refine e_plain ?_
    refine e_loadA (i := 0) und26 rfl siz26 rfl rfl (arrv_size _ _) rfl ⟨[], trivial⟩ ?_
    refine e_move rfl rfl ?_
    refine e_call rfl ent8 (hAd G (l.take (cut3 i j l.length x)) _ ((l.drop (cut3 i j l.length x)).take ((cut3 i j l.length (x + 1)) - (cut3 i j l.length x))) (fun b h => hlb b (List.mem_of_mem_take h)) (fun b h => hlb b (List.mem_of_mem_drop (List.mem_of_mem_take h))) (by rw [List.length_take, List.length_take, List.length_drop]; omega) (Shows.cut (i := (cut3 i j l.length x)) (j := (cut3 i j l.length (x + 1))) hv1 (hcl hc0).1 (hcl hc0).2 rfl)) rfl rfl ?_
    refine e_as (congrArg (fun z => Value.tuple #[stB z, ii 0]) (take_part l (hcl hc0).1)) ?_
    refine e_move rfl rfl ?_
    refine e_extract rfl rfl rfl ?_
    refine e_extract rfl rfl rfl ?_
    refine e_alloc 2 zer26 rfl fun r3 => ?_
    refine e_storeA (i := 2) siz26 rfl rfl (arrv_size _ _) (cells_one ⟨fun _ => rfl, fun _ => rfl, fun _ => rfl, fun _ => rfl, trivial⟩) rfl cells_sz (.inl rfl) ?_
    refine e_assign rfl rfl ?_
    refine e_nil ?_
    refine e_seq ?_
    refine e_seq ?_
    refine e_plain ?_
    refine e_move rfl rfl ?_
    refine e_ne rfl rfl rfl ?_
    refine e_as (congrArg Value.bool (decide_eq_false (fun h => h rfl))) ?_
    refine e_move rfl rfl ?_
    refine e_yes rfl rfl rfl ?_
    refine e_fld (73) und26 rfl siz3 rfl rfl rfl ?_
    refine e_yes rfl rfl rfl ?_
    refine e_ldV1 (i := 2) 3 und3 rfl rfl rfl rfl (by decide) rfl ⟨[], trivial⟩ ?_
    refine e_yes rfl rfl rfl ?_
    refine e_fld (73) und26 rfl siz3 rfl rfl rfl ?_
    refine e_yes rfl rfl rfl ?_
    refine e_ldV1 (i := 0) 3 und3 rfl rfl rfl rfl (by decide) rfl ⟨[], trivial⟩ ?_
    refine e_yes rfl rfl rfl ?_
    refine e_move rfl rfl ?_
    refine e_yes rfl rfl rfl ?_
    refine e_lenV (Shows.cut (i := (cut3 i j l.length x)) (j := (cut3 i j l.length (x + 1))) (l' := ((l.drop (cut3 i j l.length x)).take ((cut3 i j l.length (x + 1)) - (cut3 i j l.length x)))) hv1 (hcl hc0).1 (hcl hc0).2 rfl) und27 rfl rfl rfl ?_
    refine e_yes rfl rfl rfl ?_
    refine e_add_i rfl rfl rfl (by rw [List.length_take, List.length_take, List.length_drop]; omega) ?_
    refine e_yes rfl rfl rfl ?_
    refine e_ne rfl rfl rfl ?_
    refine e_as (congrArg Value.bool (decide_eq_false (by have h1 := (hcl hc0).1; have h2 := (hcl hc0).2; rw [List.length_take, List.length_take, List.length_take, List.length_drop]; omega))) ?_
    refine e_pickF rfl rfl rfl rfl ?_
    refine e_nil ?_
    refine e_cond rfl ?_ ?_
    · intro hc1
      cases hc1
    · intro hc1
      refine e_skip ?_
      refine e_plain ?_
      refine e_loadA (i := 2) und26 rfl siz26 rfl rfl (arrv_size _ _) rfl ⟨[], trivial⟩ ?_
      refine e_storeA (i := 0) siz26 rfl rfl (arrv_size _ _) (cells_one ⟨fun _ => rfl, fun _ => rfl, fun _ => rfl, fun _ => rfl, trivial⟩) rfl cells_sz (.inl rfl) ?_
      refine e_nil ?_
      refine e_plain ?_
      refine e_add_i (q := 1) rfl rfl rfl (by omega) ?_
      refine e_move rfl rfl ?_
      refine e_nil ?_
      refine ⟨_, [(48, ii (x + 1))], [(0, some ⟨r1, cB (l.take (cut3 i j l.length (x + 1))), 26⟩)], ?_, ⟨rfl, rfl, rfl, rfl, rfl, trivial⟩, ⟨rfl, rfl, trivial⟩, x + 1, rfl, rfl, rfl, by omega⟩
      omega
  · intro hc0
    have hc0 := of_decide_eq_false hc0
    have hz0 : x = 3 := by omega
    subst hz0
    rw [show l.take (cut3 i j l.length 3) = l from List.take_length]
    refine e_exit ?_
    refine e_seq ?_
    refine e_plain ?_
    refine e_loadA (i := 0) und26 rfl siz26 rfl rfl (arrv_size _ _) rfl ⟨[], trivial⟩ ?_
    refine e_call rfl ent12 (hEn G l hlb (by omega)) rfl rfl ?_
    refine e_move rfl rfl ?_
    refine e_extract rfl rfl rfl ?_
    refine e_extract rfl rfl rfl ?_
    refine e_alloc 2 zer34 rfl fun r3 => ?_
    refine e_storeA (i := 2) siz34 rfl rfl (arr_size _ _ _) arr_one rfl (arr_sz _ _ _ _ _) (.inl rfl) ?_
    refine e_assign rfl rfl ?_
    refine e_nil ?_
    refine e_seq ?_
    refine e_draw mixed (by kernel_rfl) ?_
    refine e_call rfl ent17 (blakeTells_fn DG hS) rfl rfl ?_
    refine e_move rfl rfl ?_
    refine e_yes rfl rfl rfl ?_
    refine e_move rfl rfl ?_
    refine e_yes rfl rfl rfl ?_
    refine e_eq rfl rfl rfl ?_
    refine e_as (congrArg Value.bool (decide_eq_true rfl)) ?_
    refine e_pickT rfl rfl rfl rfl ?_
    refine e_move rfl rfl ?_
    refine e_yes rfl rfl rfl ?_
    refine e_loadA (i := 2) und34 rfl siz34 rfl rfl (arr_size _ _ _) rfl ⟨[], trivial⟩ ?_
    refine e_yes rfl rfl rfl ?_
    refine e_move rfl rfl ?_
    refine e_yes rfl rfl rfl ?_
    refine e_call rfl ent14 (hS G (slPart 1 v 0 (min l0.length 300)) l hlb (by omega) hv1) rfl rfl ?_
    refine e_yes rfl rfl rfl ?_
    refine e_eqA und34 und5 siz5 eqg34 rfl rfl rfl ?_
    refine e_as (congrArg Value.bool (allEq_iff.2 (fun _ _ => rfl))) ?_
    refine e_pickT rfl rfl rfl rfl ?_
    refine e_assign rfl rfl ?_
    refine e_nil ?_
    refine e_ret ?_
    exact ⟨_, rfl, .tmp rfl⟩

end Go.Proofs.YtlaebpebgjaehaaDoor

/-
  How long bytes are that are handed in, where a bound of all that is handed in is known.
-/
namespace Go.Proofs.YtlaebpebgjaehaaDoor
open Go Go.ChangeShapes Go.WideShapes Go.ChangeAt Go.RowKit
section
variable {H : Type} {enc : TypeId × Value → H} {P : Program} {t e : TypeId}
theorem bulk_pos (d : DataW H) : 1 ≤ Rows.uptoBulk d := by
  cases d with
  | lit l => cases l <;> simp [Rows.uptoBulk]
  | _ => simp [Rows.uptoBulk]
theorem bulk_len : ∀ l : List (DataW H), l.length ≤ Rows.uptoBulkAll l
  | [] => by simp
  | d :: l => by
    have h1 := bulk_pos d
    have h2 := bulk_len l
    simp only [Rows.uptoBulkAll, List.length_cons]
    omega
theorem bulk_in : ∀ {l : List (DataW H)} {j : Nat} {d : DataW H}, l[j]? = some d → Rows.uptoBulk d ≤ Rows.uptoBulkAll l
  | x :: l, 0, d, h => by
    have : x = d := by simpa using h
    subst this
    simp only [Rows.uptoBulkAll]; omega
  | x :: l, j + 1, d, h => by
    have := bulk_in (l := l) (j := j) (d := d) (by simpa using h)
    simp only [Rows.uptoBulkAll]; omega
theorem bulk_of {ds : List (DataW H)} (h : Rows.uptoSmall H ds = true) {j : Nat} {d : DataW H} (hd : ds[j]? = some d) : Rows.uptoBulk d ≤ 1048576 := Nat.le_trans (bulk_in hd) (of_decide_eq_true h)
theorem open_bulk {W : World} {base : Nat} {s : Nat → Bool} {held : Bool} {v : Value} {d : DataW H} {ps : List MemPlace} {B : Mem} {n : Nat} {xs : List Value} (ht : P.underlying t = some (.slice e)) (he : P.underlying e = some (.int .u8)) (hc : P.cellsOf e = 1)
    (hd : DataW.Trod enc P W base s held t v d ps) (hw : Rows.uptoBulk d ≤ 1048576) (hv : Shows B 1 v n xs) : n ≤ 1048576 := by
  have hcell : ∃ a len cap, v = .slice a len cap := by
    rcases hv with ⟨_, _, oa, c, h1, _⟩ | ⟨b, o, c, cs, t, h1, _⟩
    · exact ⟨_, _, _, h1⟩
    · exact ⟨_, _, _, h1⟩
  obtain ⟨a0, len0, cap0, rfl⟩ := hcell
  have hn := shows_num hv
  subst hn
  obtain ⟨fuel, hf⟩ := hd
  rcases open_ints ht he hc hf with ⟨h1, _⟩ | ⟨a, len, cap, zs, h1, _, hlc, hcm, hzl, hx, hz, _⟩
  · have h1 : [Value.slice a0 len0 cap0] = [.slice none 0 0] := h1
    injection h1 with h1 _
    injection h1 with _ h2
    omega
  · have h1 : [Value.slice a0 len0 cap0] = [.slice (some a) len cap] := h1
    injection h1 with h1 _
    injection h1 with _ h2
    have hlz : len ≤ zs.length := by rw [hzl]; split <;> omega
    injection hx with hx _
    subst hx
    have h3 := bulk_len (lits (H := H) .u8 (zs.take len))
    have hl : (lits (H := H) .u8 (zs.take len)).length = len := by simp [lits]; omega
    simp only [Rows.uptoBulk] at hw
    omega
end
end Go.Proofs.YtlaebpebgjaehaaDoor
