/-
  Arguments that are slices of bytes: opened.
-/
import Derived.Test.YtmnmhmpklknleaaEnv5
import Derived.Test.YtmnmhmpklknleaaOpen
import Derived.Carry
namespace Go.Proofs.Ytmnmhmpklknleaa
open Go Go.ChangeShapes Go.WideShapes Go.ChangeAt Go.RowKit

section
variable {H : Type} {enc : TypeId × Value → H} {P : Program} {t e : TypeId}
theorem row_of_cell {w : World} {b o : Nat} {u : Value} (h : w.cell? ⟨b, o, none⟩ = some u) : ∃ cs et fr, w.heap[b]? = some (.cells cs et fr) := by
  unfold World.cell? at h
  cases hb : w.heap[b]? with
  | none => simp [hb] at h
  | some ob => cases ob with
    | cells cs t fr => exact ⟨cs, t, fr, rfl⟩
    | _ => simp [hb] at h
theorem open_bytes {W : World} {b0 base : Nat} {s : Nat → Bool} {held : Bool} {v : Value} {d : DataW H} {ps : List MemPlace} (ht : P.underlying t = some (.slice e)) (he : P.underlying e = some (.int .u8)) (hc : P.cellsOf e = 1)
    (hval : Value.okWide P W .any b0 t v) (hd : DataW.Trod enc P W base s held t v d ps) :
    ∃ (l : List Nat) (G : Mem), (∀ b ∈ l, b < 256) ∧ l.length ≤ maxLen ∧ Shows G 1 v l.length (l.map by8) ∧ MemR G W := by
  have hcell : ∃ a len cap, v = .slice a len cap := by
    unfold Value.okWide at hval
    rw [ht] at hval
    unfold Cell.okWide at hval
    rw [ht] at hval
    unfold Cell.ok at hval
    rw [ht] at hval
    cases v <;> simp_all
  obtain ⟨a0, len0, cap0, rfl⟩ := hcell
  obtain ⟨fuel, hf⟩ := hd
  rcases open_ints ht he hc hf with ⟨h1, _⟩ | ⟨a, len, cap, zs, h1, _, hlc, hcm, hzl, _, hz, hw⟩
  · have h1 : [Value.slice a0 len0 cap0] = [.slice none 0 0] := h1
    injection h1 with h1 _
    rw [h1]
    exact ⟨[], [], by simp, by simp [maxLen], .inl ⟨rfl, rfl, none, 0, rfl, fun _ => rfl⟩, by simp [MemR]⟩
  · have h1 : [Value.slice a0 len0 cap0] = [.slice (some a) len cap] := h1
    injection h1 with h1 _
    rw [h1]
    have hlz : len ≤ zs.length := by rw [hzl]; split <;> omega
    by_cases h0 : len = 0
    · subst h0
      exact ⟨[], [], by simp, by simp [maxLen], .inl ⟨rfl, rfl, some a, cap, rfl, fun h => by cases h⟩, by simp [MemR]⟩
    · obtain ⟨b, off, rfl, hc2⟩ := ints_at hz (by omega)
      obtain ⟨cs, et, fr, hb⟩ := row_of_cell (hc2 0 (by omega))
      have hcl : ∀ o, W.cell? ⟨b, o, none⟩ = cs[o]? := fun o => by simp [World.cell?, hb]
      have hlen : ((zs.take len).map Int.toNat).length = len := by simp; omega
      have hwj : ∀ j, j < len → 0 ≤ zs.getD j 0 ∧ zs.getD j 0 ≤ 255 := fun j hj => bounds_u8 (hw (zs.getD j 0) (by
        have : zs.getD j 0 = zs[j] := by simp [List.getD, show j < zs.length by omega]
        rw [this]; exact List.getElem_mem _))
      have hnth : ∀ j x, ((zs.take len).map Int.toNat)[j]? = some x → j < len ∧ x = (zs.getD j 0).toNat := fun j x hj => by
        have hlt := (List.getElem?_eq_some_iff.1 hj).1
        rw [hlen] at hlt
        refine ⟨hlt, ?_⟩
        rw [List.getElem?_map, List.getElem?_take, if_pos hlt, List.getElem?_eq_getElem (by omega)] at hj
        simp at hj
        rw [← hj]
        simp [List.getD, show j < zs.length by omega]
      refine ⟨(zs.take len).map Int.toNat, [⟨b, cs, et⟩], fun q hq => ?_, by rw [hlen]; omega, .inr ⟨b, off, cap, cs, et, by rw [hlen], by rw [hlen]; exact hlc, by simp, by simp, ?_, fun j u hj => ?_⟩, fun x hx => ?_⟩
      · obtain ⟨j, hj⟩ := List.getElem?_of_mem hq
        obtain ⟨h2, rfl⟩ := hnth j q hj
        have := hwj j h2
        omega
      · have h2 := hc2 (len - 1) (by omega)
        rw [hcl] at h2
        have := (Array.getElem?_eq_some_iff.1 h2).1
        rw [hlen]
        omega
      · rw [List.getElem?_map] at hj
        cases hx : ((zs.take len).map Int.toNat)[j]? with
        | none => rw [hx] at hj; cases hj
        | some x =>
          rw [hx, Option.map_some] at hj
          obtain ⟨h2, rfl⟩ := hnth j x hx
          have h3 := hwj j h2
          injection hj with hj
          rw [← hj, ← hcl, hc2 j (by omega)]
          have e1 : (((zs.getD j 0).toNat : Nat) : Int) = zs.getD j 0 := by omega
          show some (Value.int IntKind.u8 (zs.getD j 0)) = some (Value.int IntKind.u8 (((zs.getD j 0).toNat : Nat) : Int))
          rw [e1]
      · simp at hx; subst hx
        exact ⟨(Array.getElem?_eq_some_iff.1 hb).1, fun o _ => hcl o⟩
theorem str_list (s : ByteArray) : ∃ l : List Nat, (∀ x ∈ l, x < 256) ∧ s = bstr l := by
  refine ⟨s.data.toList.map UInt8.toNat, fun x hx => ?_, ?_⟩
  · obtain ⟨b, _, rfl⟩ := List.mem_map.1 hx
    exact b.toNat_lt
  · unfold bstr
    rw [List.map_map]
    have : s.data.toList.map (UInt8.ofNat ∘ UInt8.toNat) = s.data.toList := by
      conv => rhs; rw [← List.map_id s.data.toList]
      exact List.map_congr_left fun b _ => by simp
    rw [this]
/-- A struct of three numbers and a string. -/
theorem open_raw {W : World} {b0 base : Nat} {sp : Nat → Bool} {held : Bool} {v : Value} {d : DataW H} {ps : List MemPlace} {f0 f1 f2 f3 : Field} (ht : P.underlying t = some (.struct #[f0, f1, f2, f3])) (hc : P.cellsOf t = 4)
    (o0 : f0.offset = 0) (o1 : f1.offset = 1) (o2 : f2.offset = 2) (o3 : f3.offset = 3) (u0 : P.underlying f0.type = some (.int .i64)) (u1 : P.underlying f1.type = some (.int .i64)) (u2 : P.underlying f2.type = some (.int .i64)) (u3 : P.underlying f3.type = some .string)
    (c0 : P.cellsOf f0.type = 1) (c1 : P.cellsOf f1.type = 1) (c2 : P.cellsOf f2.type = 1) (c3 : P.cellsOf f3.type = 1) (hval : Value.okWide P W .any b0 t v) (hd : DataW.Trod enc P W base sp held t v d ps) :
    ∃ (za zb zc : Int) (tx : List Nat), (∀ x ∈ tx, x < 256) ∧ v = .agg #[.int .i64 za, .int .i64 zb, .int .i64 zc, sv tx] := by
  unfold Value.okWide at hval
  rw [ht] at hval
  obtain ⟨cs, rfl, hsz, _⟩ := hval
  obtain ⟨fuel, hf⟩ := hd
  obtain ⟨xs, m, _, _, _, hxl, hel⟩ := DataW.trod_struct ht hf
  have hxl : xs.length = 4 := hxl
  have g : ∀ i, i < 4 → ∃ y, xs[i]? = some y := fun i hi => ⟨xs[i], List.getElem?_eq_getElem (by omega)⟩
  have hcs : (Value.agg cs).cells.toList = cs.toList := rfl
  rw [hc] at hsz
  obtain ⟨l, hl⟩ : ∃ l, cs = l.toArray := ⟨cs.toList, by simp⟩
  subst hl
  have hl4 : l.length = 4 := by simpa using hsz
  match l, hl4 with
  | [a, b, c, e], _ =>
    obtain ⟨y0, hy0⟩ := g 0 (by omega)
    obtain ⟨y1, hy1⟩ := g 1 (by omega)
    obtain ⟨y2, hy2⟩ := g 2 (by omega)
    obtain ⟨y3, hy3⟩ := g 3 (by omega)
    have e0 := hel 0 f0 rfl
    have e1 := hel 1 f1 rfl
    have e2 := hel 2 f2 rfl
    have e3 := hel 3 f3 rfl
    rw [hcs, o0, c0, hy0] at e0
    rw [hcs, o1, c1, hy1] at e1
    rw [hcs, o2, c2, hy2] at e2
    rw [hcs, o3, c3, hy3] at e3
    obtain ⟨za, h0, _⟩ := DataW.trod_int u0 e0
    obtain ⟨zb, h1, _⟩ := DataW.trod_int u1 e1
    obtain ⟨zc, h2, _⟩ := DataW.trod_int u2 e2
    obtain ⟨s, h3, _⟩ := DataW.trod_string u3 e3
    obtain ⟨tx, htx, hs⟩ := str_list s
    simp at h0 h1 h2 h3
    exact ⟨za, zb, zc, tx, htx, by rw [h0, h1, h2, h3, hs]⟩
theorem wf_u32 (z : Int) (h : (Lit.int .u32 z).wf = true) : ∃ c : Nat, z = (c : Int) ∧ c < 4294967296 := by
  simp [Lit.wf, IntKind.min, IntKind.max, IntKind.signed, IntKind.bits] at h
  exact ⟨z.toNat, by omega, by omega⟩
end
end Go.Proofs.Ytmnmhmpklknleaa
