import Derived.Test.YtlidhfijmcelpaaGreatDoorKY11
set_option maxHeartbeats 16000000
set_option maxRecDepth 30000
attribute [local simp] Go.Proofs.YtlidhfijmcelpaaGreatDoor.By Go.Proofs.YtlidhfijmcelpaaGreatDoor.L8
namespace Go.Proofs.YtlidhfijmcelpaaGreatDoor
open Go Go.RowKit
variable {G : Mem}
set_option maxRecDepth 20000 in
theorem zfB (hI : IVB ∈ G) (hP : (⟨2, arr .u64 16 (d16 PP), 120⟩ : Blk) ∈ G) (b : LN) (l : Bool) (vp v0 v1 vt : Value) (fi : Bool) (tq : Nat) (dd : Bool) (y : SY) (r : RS) (ow : NN) (vk : Value) (us : Nat) (ps : List (NN)) (hk : Shows G 32 vk ps.length (psC ps)) (hp : okP ps) (h1 : xl vp v0 v1 vt vk) (hy : okY y) (hr : okR r) (ho : B32 ow) (q : LN) (tvs : List Value) (hvt : Shows G 1 vt tvs.length tvs) (htl : tq < tvs.length) (hq : Shows G 1 (tvs.getD tq undef) q.length ((ci q).map iv)) (hq7 : ∀ x ∈ q, 1 ≤ x ∧ x ≤ 7) (hq6 : q.length ≤ 6) (p0 p1 : List Int) (ts : List (List Int)) (hLI : zm G (v0 :: v1 :: tvs) (p0 :: p1 :: ts)) (vx : Value) (tx : LN) (hvt2 : Sh G vx tx) (htb : By tx) (hlt : tx.length ≤ 800) (hbad : ((((dd || decide (((tq : Nat) : Int) < 0)) || decide ((tvs.length : Int) ≤ ((tq : Nat) : Int))) || decide (((us : Nat) : Int) < 0)) || decide (((zN l p0 p1 ts : Nat) : Int) ≠ 0)) = false) (hmine : ((decide (((tq % 2 : Nat) : Int) = 0) != l) == fi) = false) (htz : tq < 1000000) (w : Nat × SS × LN) (hw : vj fi ow ps q (y, r, us) tx = w) (h0 : w.1 = 0) : Fq G [] 13 #[.agg (shC b l vp v0 v1 vt fi ((tq : Nat) : Int) dd y ow r vk ((us : Nat) : Int)), vx] (fun v l1 nw => l1 = [] ∧ ∃ v', v = .tuple #[.agg (shC b l vp v0 v1 vt fi ((tq + 1 : Nat) : Int) dd w.2.1.1 ow w.2.1.2.1 vk ((w.2.1.2.2 : Nat) : Int)), v', ii 0] ∧ OwnS 5 1 v' w.2.2.length (w.2.2.map by8) nw) := by
 have _u1 := htz
 refine QfO Tryz.func13 ?_
 refine (g4)<|(Qh 0) fun r1=>(QH 1) fun r2=>(g8)<|Qs<|(gc) ?_
 refine (Ca (YS b l vp v0 v1 vt fi tq dd y r ow vk ((us : Nat) : Int) p0 p1 tvs ts hvt hLI hbad)) ?_
 refine z6 (show _ = Value.tuple #[.bool false, .bool true] by rw [hmine]) ?_
 refine (gi)<|(g8)<|(g6)<|(Q0)<|(g7)<|(Qm)<|(QF)<|(gn)<|(ge)<|(QC hvt2)<|(QG)<|(gw)<|(gc)<|(QH 2) fun r3=>?_
 refine z4 (i := 2) (Uz 37) rfl rfl (z3 _ _) (ze h1) rfl z7 (.inl rfl) ?_
 refine Qn<|(g6) ?_
 refine zx (l := tx) hvt2 za (Uu 22) (Uu 5) (Uu 9) rfl rfl rfl ?_
 refine (g3)<|(gs)<|(Qf 0)<|(jd)<|(Qf 7)<|(QV 7 0) ?_
 refine yf hvt (Uu 27) (Uz 25) rfl rfl (by omega) rfl ?_
 refine (QS) ?_
 refine zR hvt za (Uu 25) rfl rfl (xA (by omega)) rfl ?_
 refine (QC hq)<|(Qm)<|Qn<|Qb ?_
 refine QzK [(2, _), (4, _), (9, _), (43, _), (44, _)] [(1, _), (2, _)] (fun kk E m => ∃ (i : Nat) (y1 : SY) (r1v : RS) (u1 : Nat) (bq : List Nat), kk = q.length - i ∧ E = [(10, (sv bq)), (45, ii i)] ∧ m = [(0, (some ⟨r1, shC b l vp v0 v1 vt fi ((tq : Nat) : Int) dd y1 ow r1v vk ((u1 : Nat) : Int), 37⟩))] ∧ (i ≤ q.length) ∧ (okS (y1, r1v, u1)) ∧ (wj fi ow ps q (y, r, us) tx = wj fi ow ps (q.drop i) (y1, r1v, u1) bq) ∧ (∀ x ∈ bq, x < 256) ∧ (bq.length ≤ 800)) ⟨0, y, r, us, tx, rfl, rfl, rfl, by omega, ⟨hy, hr⟩, rfl, htb, hlt⟩ ⟨rfl, rfl, rfl, rfl, rfl, rfl, rfl, trivial⟩ ⟨rfl, rfl, rfl, trivial⟩ ?_
 rintro kk E m ⟨i, y1, r1v, u1, bq, rfl, rfl, rfl, hf0_0, hf0_1, hf0_2, hf0_3, hf0_4⟩
 simp only [zo, zu]
 refine (gq) ?_
 refine (Qcd) (fun hc2=>?_) fun hc2=>?_
 ·have hc2 : i < q.length := by omega
  refine Qk<|Qs<|Qb<|(g4) ?_
  refine yf hq (Uu 25) (Uz 3) rfl rfl (by omega) rfl ?_
  refine (QS) ?_
  refine zR hq za (Uu 3) rfl rfl (z02 (by omega)) rfl ?_
  refine (g3) ?_
  have hx9 := z6J hq7 (show i < q.length by omega)
  obtain ⟨z, hz⟩ : ∃ z, vV fi ow ps (q.getD i 0) (y1, r1v, u1) bq = z := ⟨_, rfl⟩
  have hzl : z.2.2.length ≤ 800 := by rw [← hz]; exact Nat.le_trans XT hf0_4
  have hst : z.1 ≠ 0 → w = (z.1, z.2.1, []) := fun he => by rw [← hw]; exact X3 (hf0_2.trans (V2 (by omega) hz he)) he
  have he : z.1 = 0 := Classical.byContradiction fun he => by rw [hst he] at h0; exact he h0
  refine (gd)<|(jg)<|Qs ?_
  rcases (by omega : q.getD i 0 = 1 ∨ q.getD i 0 = 2 ∨ 3 ≤ q.getD i 0) with ht1 | ht1 | ht1
  ·skip
   refine Qp<|(Qc)<|(Qat)<|(g3)<|(Qct)<|Qs<|Qs ?_
   (have hl : ¬ bq.length < 32 := fun hl => by have h8 : z = (4, (y1, r1v, u1), []) := (by rw [← hz, ht1]; exact Wn hl); rw [h8] at he; exact wn he)
   ·skip
    refine (j0)<|(QU)<|(Ql)<|(gw)<|Qs ?_
    (obtain ⟨fe, hfe⟩ : ∃ f, f = (fun j => bq.getD j 0) := ⟨_, rfl⟩); have hfb : B32 fe := (by rw [hfe]; exact Ym hf0_3); have hz1 : z = (0, (xr (npk ps) y1 fe, (r1v.1, r1v.2.1, r1v.2.2.1, r1v.2.2.2.1, fe, true), u1), bq.drop 32) := (by rw [← hz, ht1, hfe]; exact z7l hl); have he : z.1 = 0 := (by rw [hz1])
    ·skip
     refine (j0) ?_
     refine zz 0 32 (Uu 9) rfl rfl rfl rfl ⟨_, rfl⟩ (by omega) (by omega) rfl ?_
     refine (Av (sv (bq.take 32))) ?_
     refine (Ca (Xd (bq.take 32) (fun x hx => hf0_3 x (List.mem_of_mem_take hx)) (by rw [List.length_take]; omega))) ?_
     refine z6 (show _ = Value.agg (arr .u8 32 fe) by rw [hfe]; exact congrArg Value.agg (zg fun j hj => z2o hj)) ?_
     refine (Qf 205)<|(QtC 0 19) ?_
     refine ye (c' := shC b l vp v0 v1 vt fi ((tq : Nat) : Int) dd y1 ow (r1v.1, r1v.2.1, r1v.2.2.1, r1v.2.2.2.1, fe, r1v.2.2.2.2.2) vk ((u1 : Nat) : Int)) rfl ?_
     refine (Qf 237)<|(QtV 0 20) ?_
     refine ye (c' := shC b l vp v0 v1 vt fi ((tq : Nat) : Int) dd y1 ow (r1v.1, r1v.2.1, r1v.2.2.1, r1v.2.2.2.1, fe, true) vk ((u1 : Nat) : Int)) rfl ?_
     refine Qn<|(g6) ?_
     refine zz 32 bq.length (Uu 9) rfl rfl rfl ⟨_, rfl⟩ rfl (by omega) (by omega) rfl ?_
     refine z6 (show _ = sv z.2.2 by rw [hz1]; exact congrArg sv ZE) ?_
     refine (g3)<|Qp<|(QD 0)<|(Qf 205)<|(Qv 19 0) ?_
     refine (Ca (Xu hI b l vp v0 v1 vt fi ((tq : Nat) : Int) dd y1 (r1v.1, r1v.2.1, r1v.2.2.1, r1v.2.2.2.1, fe, true) ow vk ((u1 : Nat) : Int) fe ps hk h1 hf0_1.1 hfb)) ?_
     refine z6 (show _ = .agg (shC b l vp v0 v1 vt fi ((tq : Nat) : Int) dd z.2.1.1 ow z.2.1.2.1 vk ((z.2.1.2.2 : Nat) : Int)) by rw [hz1]) ?_
     refine z4 (i := 0) (Uz 37) rfl rfl (z3 _ _) (ze h1) rfl z7 (.inl rfl) ?_
     refine Qn<|(g6)<|(QN)<|(gw)<|(gk) ?_
     refine QzL ⟨i + 1, _, _, _, _, rfl, rfl, rfl, by omega, (by rw [← hz]; exact xD hf0_1 hf0_3), (by have h9 := hf0_2.trans (xG (by omega) (hz.trans (show z = (0, z.2.1, z.2.2) from Prod.ext he rfl))); first | exact h9 | (rw [hzn] at h9; exact h9)), (by first | exact hf0_3 | (rw [← hz]; exact wN hf0_3)), (by first | exact hf0_4 | omega)⟩ ⟨rfl, rfl, rfl, rfl, rfl, rfl, rfl, trivial⟩ ⟨rfl, rfl, rfl, trivial⟩ ?_
     omega
  ·skip
   refine Qp<|(Qc)<|(Qaf)<|(g3)<|(Qcf)<|(g4)<|(Qc)<|(Qat)<|(g3)<|(Qct)<|Qs ?_
   rcases (by cases hh : y1.1; exact .inr rfl; exact .inl rfl : y1.1 = true ∨ y1.1 = false) with hh | hh
   ·skip
    refine Qp<|(Qa) ?_
    refine (Av (ii 32))<|Qn<|(gs)<|(Qf 9)<|(Qf 9)<|(Qf 9)<|(QV 9 0)<|Qn ?_
    refine zh rfl ?_ ?_
    ·intro hc7
     refine (j0)<|(Q2 16) ?_
     refine (Av (ii 48))<|(g3)<|Qs<|Qs ?_
     (have hl : ¬ bq.length < 48 := fun hl => by have h8 : z = (4, (y1, r1v, u1), []) := (by rw [← hz, ht1]; exact Zr (by rw [xt hh]; exact hl)); rw [h8] at he; exact wn he); (obtain ⟨e9, he9⟩ : ∃ e, y8 y1 (bq.take 48) = e := ⟨_, rfl⟩); have he9z : e9.1 = 0 := Classical.byContradiction fun h8 => by have h7 : z = (e9.1, (e9.2.1, r1v, u1), []) := (by rw [← hz, ht1]; exact vS (by rw [xt hh]; exact hl) (by rw [xt hh]; exact he9) h8); rw [h7] at he; exact h8 he
     ·skip
      refine (j0)<|(QU)<|(Qm)<|(Ql)<|(gw)<|Qs ?_
      (obtain ⟨fk, hfk⟩ : ∃ f, f = (fun j => e9.2.2.getD j 0) := ⟨_, rfl⟩); have hkl : e9.2.2.length = 32 := (by have h8 := Zn (y := y1) (b := bq) (by rw [xt hh]; omega) (by rw [xt hh, he9]; exact he9z); rw [xt hh, he9] at h8; exact h8); have hkb : ∀ x ∈ e9.2.2, x < 256 := (by rw [← he9]; exact Zk (fun x hx => hf0_3 x (List.mem_of_mem_take hx))); have hzz : z = (0, (e9.2.1, (r1v.1, r1v.2.1, fk, true, r1v.2.2.2.2), u1), bq.drop 48) := (by rw [← hz, ht1, hfk]; have h8 := z0C (fi := fi) (ow := ow) (ps := ps) (y := y1) (r := r1v) (us := u1) (b := bq) (w := e9) (by rw [xt hh]; exact hl) (by rw [xt hh]; exact he9) he9z; rw [xt hh] at h8; exact h8); have he : z.1 = 0 := (by rw [hzz])
      ·skip
       refine Qp<|(g3)<|Qs<|(Qq ⟨[], 4, [22], none, none⟩)<|(gz) ?_
       refine (Av (SVy y1))<|(gb) ?_
       refine zz 0 48 (Uu 9) rfl rfl rfl rfl ⟨_, rfl⟩ (by omega) (by omega) rfl ?_
       refine (Av (sv (bq.take 48))) ?_
       refine y3 3 (Uu 9) (Uu 22) (Uu 5) rfl (fun x hx => hf0_3 x (List.mem_of_mem_take hx)) (by rw [List.length_take]; simp only [maxLen]; omega) rfl rfl fun v12_1 oz12_1 ho12_1 => ?_
       refine zI 4 (fun v => .tuple #[SVy e9.2.1, v, ii 0]) rfl rfl (Un 33) (zf za (zH 3 rfl ⟨[], trivial⟩)) ((Yv (G := G ++ oz12_1.toList) (List.mem_append_left _ hI) y1 hf0_1.1 v12_1 (bq.take 48) ((zG ho12_1).mono (fun x h => List.mem_append_right _ h)) (fun x hx => hf0_3 x (List.mem_of_mem_take hx)) e9 he9).2.1 he9z hh) (by simp only [maxLen]; omega) (by rw [List.length_map, Nat.mul_one]) rfl rfl fun v12_2 oz12_2 ho12_2 => ?_
       refine (jk)<|(j1) ?_
       refine ye (c' := shC b l vp v0 v1 vt fi ((tq : Nat) : Int) dd e9.2.1 ow r1v vk ((u1 : Nat) : Int)) rfl ?_
       refine (g8)<|(g6)<|(Qc)<|(Qar)<|(gu)<|(g6) ?_
       refine zx (l := e9.2.2) ho12_2.shows (zH 4 rfl ⟨[], trivial⟩) (Uu 22) (Uu 5) (Uu 9) rfl rfl rfl ?_
       refine (Ca (Xd e9.2.2 hkb hkl)) ?_
       refine z6 (show _ = Value.agg (arr .u8 32 fk) by rw [hfk]) ?_
       refine (Qf 172)<|(QtC 0 17) ?_
       refine ye (c' := shC b l vp v0 v1 vt fi ((tq : Nat) : Int) dd e9.2.1 ow (r1v.1, r1v.2.1, fk, r1v.2.2.2.1, r1v.2.2.2.2) vk ((u1 : Nat) : Int)) rfl ?_
       refine (Qf 204)<|(QtV 0 18) ?_
       refine ye (c' := shC b l vp v0 v1 vt fi ((tq : Nat) : Int) dd z.2.1.1 ow z.2.1.2.1 vk ((z.2.1.2.2 : Nat) : Int)) (by rw [hzz]; rfl) ?_
       refine Qn<|Qp<|(gb) ?_
       refine zz 48 bq.length (Uu 9) rfl rfl rfl ⟨_, rfl⟩ rfl (by omega) (by omega) rfl ?_
       refine z6 (show _ = sv z.2.2 by rw [hzz]; exact congrArg sv ZE) ?_
       refine (jr)<|(gw)<|(gk) ?_
       refine QzL ⟨i + 1, _, _, _, _, rfl, rfl, rfl, by omega, (by rw [← hz]; exact xD hf0_1 hf0_3), (by have h9 := hf0_2.trans (xG (by omega) (hz.trans (show z = (0, z.2.1, z.2.2) from Prod.ext he rfl))); first | exact h9 | (rw [hzn] at h9; exact h9)), (by first | exact hf0_3 | (rw [← hz]; exact wN hf0_3)), (by first | exact hf0_4 | omega)⟩ ⟨rfl, rfl, rfl, rfl, rfl, rfl, rfl, trivial⟩ ⟨rfl, rfl, rfl, trivial⟩ ?_
       omega
    ·intro hc7
     rw [hh] at hc7
     cases hc7
   ·skip
    refine Qp<|(Qa) ?_
    refine (Av (ii 32))<|Qn<|(gs)<|(Qf 9)<|(Qf 9)<|(Qf 9)<|(QV 9 0)<|Qn ?_
    refine zh rfl ?_ ?_
    ·intro hc7
     rw [hh] at hc7
     cases hc7
    ·intro hc7
     refine Qk<|Qs<|Qs ?_
     (have hl : ¬ bq.length < 32 := fun hl => by have h8 : z = (4, (y1, r1v, u1), []) := (by rw [← hz, ht1]; exact Zr (by rw [xq hh]; exact hl)); rw [h8] at he; exact wn he); (obtain ⟨e9, he9⟩ : ∃ e, y8 y1 (bq.take 32) = e := ⟨_, rfl⟩); have he9z : e9.1 = 0 := Classical.byContradiction fun h8 => by have h7 : z = (e9.1, (e9.2.1, r1v, u1), []) := (by rw [← hz, ht1]; exact vS (by rw [xq hh]; exact hl) (by rw [xq hh]; exact he9) h8); rw [h7] at he; exact h8 he
     ·skip
      refine (j0)<|(QU)<|(Qm)<|(Ql)<|(gw)<|Qs ?_
      (obtain ⟨fk, hfk⟩ : ∃ f, f = (fun j => e9.2.2.getD j 0) := ⟨_, rfl⟩); have hkl : e9.2.2.length = 32 := (by have h8 := Zn (y := y1) (b := bq) (by rw [xq hh]; omega) (by rw [xq hh, he9]; exact he9z); rw [xq hh, he9] at h8; exact h8); have hkb : ∀ x ∈ e9.2.2, x < 256 := (by rw [← he9]; exact Zk (fun x hx => hf0_3 x (List.mem_of_mem_take hx))); have hzz : z = (0, (e9.2.1, (r1v.1, r1v.2.1, fk, true, r1v.2.2.2.2), u1), bq.drop 32) := (by rw [← hz, ht1, hfk]; have h8 := z0C (fi := fi) (ow := ow) (ps := ps) (y := y1) (r := r1v) (us := u1) (b := bq) (w := e9) (by rw [xq hh]; exact hl) (by rw [xq hh]; exact he9) he9z; rw [xq hh] at h8; exact h8); have he : z.1 = 0 := (by rw [hzz])
      ·skip
       refine Qp<|(g3)<|Qs<|(Qq ⟨[], 1, [22], none, none⟩)<|(gz) ?_
       refine (Av (SVy y1))<|(gb) ?_
       refine zz 0 32 (Uu 9) rfl rfl rfl rfl ⟨_, rfl⟩ (by omega) (by omega) rfl ?_
       refine (Av (sv (bq.take 32))) ?_
       refine y3 3 (Uu 9) (Uu 22) (Uu 5) rfl (fun x hx => hf0_3 x (List.mem_of_mem_take hx)) (by rw [List.length_take]; simp only [maxLen]; omega) rfl rfl fun v12_1 oz12_1 ho12_1 => ?_
       refine zi rfl rfl (Un 33) (zf za (zH 3 rfl ⟨[], trivial⟩)) ((Yv (G := G ++ oz12_1.toList) (List.mem_append_left _ hI) y1 hf0_1.1 v12_1 (bq.take 32) ((zG ho12_1).mono (fun x h => List.mem_append_right _ h)) (fun x hx => hf0_3 x (List.mem_of_mem_take hx)) e9 he9).2.2 he9z hh).2 rfl rfl ?_
       refine (jk)<|(j1) ?_
       refine ye (c' := shC b l vp v0 v1 vt fi ((tq : Nat) : Int) dd e9.2.1 ow r1v vk ((u1 : Nat) : Int)) rfl ?_
       refine (g8)<|(g6)<|(Qc)<|(Qar)<|(gu)<|(g6) ?_
       refine zx (l := e9.2.2) (show Shows oz12_1.toList 1 _ e9.2.2.length (e9.2.2.map by8) by rw [((Yv (G := G ++ oz12_1.toList) (List.mem_append_left _ hI) y1 hf0_1.1 v12_1 (bq.take 32) ((zG ho12_1).mono (fun x h => List.mem_append_right _ h)) (fun x hx => hf0_3 x (List.mem_of_mem_take hx)) e9 he9).2.2 he9z hh).1]; exact zG ho12_1) (zH 3 rfl ⟨[], trivial⟩) (Uu 22) (Uu 5) (Uu 9) rfl rfl rfl ?_
       refine (Ca (Xd e9.2.2 hkb hkl)) ?_
       refine z6 (show _ = Value.agg (arr .u8 32 fk) by rw [hfk]) ?_
       refine (Qf 172)<|(QtC 0 17) ?_
       refine ye (c' := shC b l vp v0 v1 vt fi ((tq : Nat) : Int) dd e9.2.1 ow (r1v.1, r1v.2.1, fk, r1v.2.2.2.1, r1v.2.2.2.2) vk ((u1 : Nat) : Int)) rfl ?_
       refine (Qf 204)<|(QtV 0 18) ?_
       refine ye (c' := shC b l vp v0 v1 vt fi ((tq : Nat) : Int) dd z.2.1.1 ow z.2.1.2.1 vk ((z.2.1.2.2 : Nat) : Int)) (by rw [hzz]; rfl) ?_
       refine Qn<|Qp<|(gb) ?_
       refine zz 32 bq.length (Uu 9) rfl rfl rfl ⟨_, rfl⟩ rfl (by omega) (by omega) rfl ?_
       refine z6 (show _ = sv z.2.2 by rw [hzz]; exact congrArg sv ZE) ?_
       refine (jr)<|(gw)<|(gk) ?_
       refine QzL ⟨i + 1, _, _, _, _, rfl, rfl, rfl, by omega, (by rw [← hz]; exact xD hf0_1 hf0_3), (by have h9 := hf0_2.trans (xG (by omega) (hz.trans (show z = (0, z.2.1, z.2.2) from Prod.ext he rfl))); first | exact h9 | (rw [hzn] at h9; exact h9)), (by first | exact hf0_3 | (rw [← hz]; exact wN hf0_3)), (by first | exact hf0_4 | omega)⟩ ⟨rfl, rfl, rfl, rfl, rfl, rfl, rfl, trivial⟩ ⟨rfl, rfl, rfl, trivial⟩ ?_
       omega
  ·skip
   refine Qp<|(Qc)<|(Qaf)<|(g3)<|(Qcf)<|(g4)<|(Qc)<|(Qaf)<|(g3)<|(Qcf) ?_
   ((obtain ⟨e9, he9⟩ : ∃ e, xM fi ow ps (q.getD i 0) (y1, r1v, u1) = e := ⟨_, rfl⟩); have hzz : z = (e9.1, e9.2, bq) := (by rw [← hz]; exact z7k ht1 he9); have hzx : xM fi ow ps (q.getD i 0) (y1, r1v, u1) = (z.1, z.2.1) := (by subst hzz; exact he9); have hzn : z.2.2 = bq := (by rw [hzz]))
   ·skip
    refine Qp<|(QD 0)<|(Qm) ?_
    refine (Ca (z0g hI hP b l vp v0 v1 vt fi ((tq : Nat) : Int) dd y1 r1v ow vk u1 ps hk hp h1 hf0_1.1 hf0_1.2 ho (q.getD i 0) (z.1, z.2.1) hzx))<|(gi) ?_
    refine z4 (i := 0) (Uz 37) rfl rfl (z3 _ _) (ze h1) rfl z7 (.inl rfl) ?_
    refine (jr)<|(gw)<|(gk) ?_
    refine QzL ⟨i + 1, _, _, _, _, rfl, rfl, rfl, by omega, (by rw [← hz]; exact xD hf0_1 hf0_3), (by have h9 := hf0_2.trans (xG (by omega) (hz.trans (show z = (0, z.2.1, z.2.2) from Prod.ext he rfl))); first | exact h9 | (rw [hzn] at h9; exact h9)), (by first | exact hf0_3 | (rw [← hz]; exact wN hf0_3)), (by first | exact hf0_4 | omega)⟩ ⟨rfl, rfl, rfl, rfl, rfl, rfl, rfl, trivial⟩ ⟨rfl, rfl, rfl, trivial⟩ ?_
    omega
 ·have hz0 : i = q.length := by omega
  have hrun := hf0_2.trans (z0D hz0)
  obtain ⟨e2, he2⟩ : ∃ e, y8 y1 bq = e := ⟨_, rfl⟩
  have hfin : w = (e2.1, (e2.2.1, r1v, u1), e2.2.2) := by rw [← hw]; exact Wl hrun he2
  have hel : e2.2.2.length ≤ bq.length := by rw [← he2]; exact Zp y1 bq
  subst hfin
  refine Qe<|Qs ?_
  rcases (by cases hh : y1.1; exact .inr rfl; exact .inl rfl : y1.1 = true ∨ y1.1 = false) with hh | hh
  ·skip
   refine QR ⟨[], 4, [22], none, none⟩<|(gz) ?_
   refine (Av (SVy y1))<|(Qm) ?_
   refine y3 3 (Uu 9) (Uu 22) (Uu 5) rfl hf0_3 (by simp only [maxLen]; omega) rfl rfl fun v5_1 oz5_1 ho5_1 => ?_
   refine zI 4 (fun v => .tuple #[SVy e2.2.1, v, ii 0]) rfl rfl (Un 33) (zf za (zH 3 rfl ⟨[], trivial⟩)) ((Yv (G := G ++ oz5_1.toList) (List.mem_append_left _ hI) y1 hf0_1.1 v5_1 bq ((zG ho5_1).mono (fun x h => List.mem_append_right _ h)) hf0_3 e2 he2).2.1 h0 hh) (by simp only [maxLen]; omega) (by rw [List.length_map, Nat.mul_one]) rfl rfl fun v5_2 oz5_2 ho5_2 => ?_
   refine (jk)<|(QH 5) fun r6=>(QW 5)<|(j3)<|(QN)<|(gw)<|(g4)<|(QD 5)<|(j1) ?_
   refine ye (c' := shC b l vp v0 v1 vt fi ((tq : Nat) : Int) dd e2.2.1 ow r1v vk ((u1 : Nat) : Int)) rfl ?_
   refine (gl)<|(Qf 7)<|(QV 7 0)<|(Q2 1)<|(Qf 7)<|(QtV 0 7) ?_
   refine ye (c' := shC b l vp v0 v1 vt fi ((tq + 1 : Nat) : Int) dd e2.2.1 ow r1v vk ((u1 : Nat) : Int)) rfl ?_
   refine Qn<|(gc)<|(Qm) ?_
   refine z4 (i := 1) (Uz 37) rfl rfl (z3 _ _) (ze h1) rfl z7 (.inl rfl) ?_
   refine (gy) ?_
   exact ⟨_, _, _, _, _, 4, rfl, yb 1, yt, yt, (zw ho5_2 rfl rfl), rfl⟩
  ·skip
   refine QR ⟨[], 1, [22], none, none⟩<|(gz) ?_
   refine (Av (SVy y1))<|(Qm) ?_
   refine y3 3 (Uu 9) (Uu 22) (Uu 5) rfl hf0_3 (by simp only [maxLen]; omega) rfl rfl fun v5_1 oz5_1 ho5_1 => ?_
   refine zi rfl rfl (Un 33) (zf za (zH 3 rfl ⟨[], trivial⟩)) ((Yv (G := G ++ oz5_1.toList) (List.mem_append_left _ hI) y1 hf0_1.1 v5_1 bq ((zG ho5_1).mono (fun x h => List.mem_append_right _ h)) hf0_3 e2 he2).2.2 h0 hh).2 rfl rfl ?_
   refine (jk)<|(QH 4) fun r5=>(QW 4)<|(j3)<|(QN)<|(gw)<|(g4)<|(QD 4)<|(j1) ?_
   refine ye (c' := shC b l vp v0 v1 vt fi ((tq : Nat) : Int) dd e2.2.1 ow r1v vk ((u1 : Nat) : Int)) rfl ?_
   refine (gl)<|(Qf 7)<|(QV 7 0)<|(Q2 1)<|(Qf 7)<|(QtV 0 7) ?_
   refine ye (c' := shC b l vp v0 v1 vt fi ((tq + 1 : Nat) : Int) dd e2.2.1 ow r1v vk ((u1 : Nat) : Int)) rfl ?_
   refine Qn<|(gc)<|(Qm) ?_
   refine z4 (i := 1) (Uz 37) rfl rfl (z3 _ _) (ze h1) rfl z7 (.inl rfl) ?_
   refine (gy) ?_
   exact ⟨_, _, _, _, _, 3, rfl, yb 1, yt, yt, (zw (zw ho5_1 (by rw [Vj he2 hh h0]) (by rw [Vj he2 hh h0])) rfl rfl), rfl⟩
set_option maxRecDepth 20000 in
theorem zbG (hI : IVB ∈ G) (hP : (⟨2, arr .u64 16 (d16 PP), 120⟩ : Blk) ∈ G) (b : LN) (l : Bool) (vp v0 v1 vt : Value) (fi : Bool) (tq : Nat) (dd : Bool) (y : SY) (r : RS) (ow : NN) (vk : Value) (us : Nat) (ps : List (NN)) (hk : Shows G 32 vk ps.length (psC ps)) (hp : okP ps) (h1 : xl vp v0 v1 vt vk) (hy : okY y) (hr : okR r) (ho : B32 ow) (q : LN) (tvs : List Value) (hvt : Shows G 1 vt tvs.length tvs) (htl : tq < tvs.length) (hq : Shows G 1 (tvs.getD tq undef) q.length ((ci q).map iv)) (hq7 : ∀ x ∈ q, 1 ≤ x ∧ x ≤ 7) (hq6 : q.length ≤ 6) (p0 p1 : List Int) (ts : List (List Int)) (hLI : zm G (v0 :: v1 :: tvs) (p0 :: p1 :: ts)) (vx : Value) (tx : LN) (hvt2 : Sh G vx tx) (htb : By tx) (hlt : tx.length ≤ 800) (hbad : ((((dd || decide (((tq : Nat) : Int) < 0)) || decide ((tvs.length : Int) ≤ ((tq : Nat) : Int))) || decide (((us : Nat) : Int) < 0)) || decide (((zN l p0 p1 ts : Nat) : Int) ≠ 0)) = false) (hmine : ((decide (((tq % 2 : Nat) : Int) = 0) != l) == fi) = false) (htz : tq < 1000000) (w : Nat × SS × LN) (hw : vj fi ow ps q (y, r, us) tx = w) (h0 : w.1 ≠ 0) : Fp G 13 #[.agg (shC b l vp v0 v1 vt fi ((tq : Nat) : Int) dd y ow r vk ((us : Nat) : Int)), vx] (.tuple #[.agg (shC b l vp v0 v1 vt fi ((tq : Nat) : Int) true y ow r vk ((us : Nat) : Int)), y4, ii w.1]) := by
 have _u1 := htz
 refine Qf3 Tryz.func13 ?_
 refine (g4)<|(Qh 0) fun r1=>(QH 1) fun r2=>(g8)<|Qs<|(gc) ?_
 refine (Ca (YS b l vp v0 v1 vt fi tq dd y r ow vk ((us : Nat) : Int) p0 p1 tvs ts hvt hLI hbad)) ?_
 refine z6 (show _ = Value.tuple #[.bool false, .bool true] by rw [hmine]) ?_
 refine (gi)<|(g8)<|(g6)<|(Q0)<|(g7)<|(Qm)<|(QF)<|(gn)<|(ge)<|(QC hvt2)<|(QG)<|(gw)<|(gc)<|(QH 2) fun r3=>?_
 refine z4 (i := 2) (Uz 37) rfl rfl (z3 _ _) (ze h1) rfl z7 (.inl rfl) ?_
 refine Qn<|(g6) ?_
 refine zx (l := tx) hvt2 za (Uu 22) (Uu 5) (Uu 9) rfl rfl rfl ?_
 refine (g3)<|(gs)<|(Qf 0)<|(jd)<|(Qf 7)<|(QV 7 0) ?_
 refine yf hvt (Uu 27) (Uz 25) rfl rfl (by omega) rfl ?_
 refine (QS) ?_
 refine zR hvt za (Uu 25) rfl rfl (xA (by omega)) rfl ?_
 refine (QC hq)<|(Qm)<|Qn<|Qb ?_
 refine QzK [(2, _), (4, _), (9, _), (43, _), (44, _)] [(1, _), (2, _)] (fun kk E m => ∃ (i : Nat) (y1 : SY) (r1v : RS) (u1 : Nat) (bq : List Nat), kk = q.length - i ∧ E = [(10, (sv bq)), (45, ii i)] ∧ m = [(0, (some ⟨r1, shC b l vp v0 v1 vt fi ((tq : Nat) : Int) dd y1 ow r1v vk ((u1 : Nat) : Int), 37⟩))] ∧ (i ≤ q.length) ∧ (okS (y1, r1v, u1)) ∧ (wj fi ow ps q (y, r, us) tx = wj fi ow ps (q.drop i) (y1, r1v, u1) bq) ∧ (∀ x ∈ bq, x < 256) ∧ (bq.length ≤ 800)) ⟨0, y, r, us, tx, rfl, rfl, rfl, by omega, ⟨hy, hr⟩, rfl, htb, hlt⟩ ⟨rfl, rfl, rfl, rfl, rfl, rfl, rfl, trivial⟩ ⟨rfl, rfl, rfl, trivial⟩ ?_
 rintro kk E m ⟨i, y1, r1v, u1, bq, rfl, rfl, rfl, hf0_0, hf0_1, hf0_2, hf0_3, hf0_4⟩
 simp only [zo, zu]
 refine (gq) ?_
 refine (Qcd) (fun hc2=>?_) fun hc2=>?_
 ·have hc2 : i < q.length := by omega
  refine Qk<|Qs<|Qb<|(g4) ?_
  refine yf hq (Uu 25) (Uz 3) rfl rfl (by omega) rfl ?_
  refine (QS) ?_
  refine zR hq za (Uu 3) rfl rfl (z02 (by omega)) rfl ?_
  refine (g3) ?_
  have hx9 := z6J hq7 (show i < q.length by omega)
  obtain ⟨z, hz⟩ : ∃ z, vV fi ow ps (q.getD i 0) (y1, r1v, u1) bq = z := ⟨_, rfl⟩
  have hzl : z.2.2.length ≤ 800 := by rw [← hz]; exact Nat.le_trans XT hf0_4
  have hst : z.1 ≠ 0 → w = (z.1, z.2.1, []) := fun he => by rw [← hw]; exact X3 (hf0_2.trans (V2 (by omega) hz he)) he
  refine (gd)<|(jg)<|Qs ?_
  rcases (by omega : q.getD i 0 = 1 ∨ q.getD i 0 = 2 ∨ 3 ≤ q.getD i 0) with ht1 | ht1 | ht1
  ·skip
   refine Qp<|(Qc)<|(Qat)<|(g3)<|(Qct)<|Qs<|Qs ?_
   by_cases hl : bq.length < 32
   ·skip
    refine (j0)<|(QU)<|(Ql)<|(Qat)<|(gu)<|Qs ?_
    (obtain rfl : z = (4, (y1, r1v, u1), []) := by rw [← hz, ht1]; exact Wn hl); obtain rfl := hst wn
    ·skip
     refine Qp<|(QD 2) ?_
     refine (Ca (ZY b l vp v0 v1 vt fi ((tq : Nat) : Int) dd y r ow vk ((us : Nat) : Int) 4 h1))<|(ga)<|(Qx) ?_
     refine z4 (i := 1) (Uz 37) rfl rfl (z3 _ _) (ze h1) rfl z7 (.inl rfl) ?_
     refine (gy) ?_
     exact ⟨_, _, _, rfl, yb 1, yt, yt⟩
   ·skip
    refine (j0)<|(QU)<|(Ql)<|(gw)<|Qs ?_
    (obtain ⟨fe, hfe⟩ : ∃ f, f = (fun j => bq.getD j 0) := ⟨_, rfl⟩); have hfb : B32 fe := (by rw [hfe]; exact Ym hf0_3); have hz1 : z = (0, (xr (npk ps) y1 fe, (r1v.1, r1v.2.1, r1v.2.2.1, r1v.2.2.2.1, fe, true), u1), bq.drop 32) := (by rw [← hz, ht1, hfe]; exact z7l hl); have he : z.1 = 0 := (by rw [hz1])
    ·skip
     refine (j0) ?_
     refine zz 0 32 (Uu 9) rfl rfl rfl rfl ⟨_, rfl⟩ (by omega) (by omega) rfl ?_
     refine (Av (sv (bq.take 32))) ?_
     refine (Ca (Xd (bq.take 32) (fun x hx => hf0_3 x (List.mem_of_mem_take hx)) (by rw [List.length_take]; omega))) ?_
     refine z6 (show _ = Value.agg (arr .u8 32 fe) by rw [hfe]; exact congrArg Value.agg (zg fun j hj => z2o hj)) ?_
     refine (Qf 205)<|(QtC 0 19) ?_
     refine ye (c' := shC b l vp v0 v1 vt fi ((tq : Nat) : Int) dd y1 ow (r1v.1, r1v.2.1, r1v.2.2.1, r1v.2.2.2.1, fe, r1v.2.2.2.2.2) vk ((u1 : Nat) : Int)) rfl ?_
     refine (Qf 237)<|(QtV 0 20) ?_
     refine ye (c' := shC b l vp v0 v1 vt fi ((tq : Nat) : Int) dd y1 ow (r1v.1, r1v.2.1, r1v.2.2.1, r1v.2.2.2.1, fe, true) vk ((u1 : Nat) : Int)) rfl ?_
     refine Qn<|(g6) ?_
     refine zz 32 bq.length (Uu 9) rfl rfl rfl ⟨_, rfl⟩ rfl (by omega) (by omega) rfl ?_
     refine z6 (show _ = sv z.2.2 by rw [hz1]; exact congrArg sv ZE) ?_
     refine (g3)<|Qp<|(QD 0)<|(Qf 205)<|(Qv 19 0) ?_
     refine (Ca (Xu hI b l vp v0 v1 vt fi ((tq : Nat) : Int) dd y1 (r1v.1, r1v.2.1, r1v.2.2.1, r1v.2.2.2.1, fe, true) ow vk ((u1 : Nat) : Int) fe ps hk h1 hf0_1.1 hfb)) ?_
     refine z6 (show _ = .agg (shC b l vp v0 v1 vt fi ((tq : Nat) : Int) dd z.2.1.1 ow z.2.1.2.1 vk ((z.2.1.2.2 : Nat) : Int)) by rw [hz1]) ?_
     refine z4 (i := 0) (Uz 37) rfl rfl (z3 _ _) (ze h1) rfl z7 (.inl rfl) ?_
     refine Qn<|(g6)<|(QN)<|(gw)<|(gk) ?_
     refine QzL ⟨i + 1, _, _, _, _, rfl, rfl, rfl, by omega, (by rw [← hz]; exact xD hf0_1 hf0_3), (by have h9 := hf0_2.trans (xG (by omega) (hz.trans (show z = (0, z.2.1, z.2.2) from Prod.ext he rfl))); first | exact h9 | (rw [hzn] at h9; exact h9)), (by first | exact hf0_3 | (rw [← hz]; exact wN hf0_3)), (by first | exact hf0_4 | omega)⟩ ⟨rfl, rfl, rfl, rfl, rfl, rfl, rfl, trivial⟩ ⟨rfl, rfl, rfl, trivial⟩ ?_
     omega
  ·skip
   refine Qp<|(Qc)<|(Qaf)<|(g3)<|(Qcf)<|(g4)<|(Qc)<|(Qat)<|(g3)<|(Qct)<|Qs ?_
   rcases (by cases hh : y1.1; exact .inr rfl; exact .inl rfl : y1.1 = true ∨ y1.1 = false) with hh | hh
   ·skip
    refine Qp<|(Qa) ?_
    refine (Av (ii 32))<|Qn<|(gs)<|(Qf 9)<|(Qf 9)<|(Qf 9)<|(QV 9 0)<|Qn ?_
    refine zh rfl ?_ ?_
    ·intro hc7
     refine (j0)<|(Q2 16) ?_
     refine (Av (ii 48))<|(g3)<|Qs<|Qs ?_
     (obtain ⟨e9, he9⟩ : ∃ e, y8 y1 (bq.take 48) = e := ⟨_, rfl⟩); rcases (by by_cases hl : bq.length < 48; exact .inl hl; by_cases h8 : e9.1 = 0; exact .inr (.inl ⟨hl, h8⟩); exact .inr (.inr ⟨hl, h8⟩) : bq.length < 48 ∨ (¬ bq.length < 48 ∧ e9.1 = 0) ∨ (¬ bq.length < 48 ∧ ¬ e9.1 = 0)) with hl | ⟨hl, he9z⟩ | ⟨hl, he9z⟩
     ·skip
      refine (j0)<|(QU)<|(Qm)<|(Ql)<|(Qat)<|(gu)<|Qs ?_
      (obtain rfl : z = (4, (y1, r1v, u1), []) := by rw [← hz, ht1]; exact Zr (by rw [xt hh]; exact hl)); obtain rfl := hst wn
      ·skip
       refine Qp<|(QD 2) ?_
       refine (Ca (ZY b l vp v0 v1 vt fi ((tq : Nat) : Int) dd y r ow vk ((us : Nat) : Int) 4 h1))<|(ga)<|(Qx) ?_
       refine z4 (i := 1) (Uz 37) rfl rfl (z3 _ _) (ze h1) rfl z7 (.inl rfl) ?_
       refine (gy) ?_
       exact ⟨_, _, _, rfl, yb 1, yt, yt⟩
     ·skip
      refine (j0)<|(QU)<|(Qm)<|(Ql)<|(gw)<|Qs ?_
      (obtain ⟨fk, hfk⟩ : ∃ f, f = (fun j => e9.2.2.getD j 0) := ⟨_, rfl⟩); have hkl : e9.2.2.length = 32 := (by have h8 := Zn (y := y1) (b := bq) (by rw [xt hh]; omega) (by rw [xt hh, he9]; exact he9z); rw [xt hh, he9] at h8; exact h8); have hkb : ∀ x ∈ e9.2.2, x < 256 := (by rw [← he9]; exact Zk (fun x hx => hf0_3 x (List.mem_of_mem_take hx))); have hzz : z = (0, (e9.2.1, (r1v.1, r1v.2.1, fk, true, r1v.2.2.2.2), u1), bq.drop 48) := (by rw [← hz, ht1, hfk]; have h8 := z0C (fi := fi) (ow := ow) (ps := ps) (y := y1) (r := r1v) (us := u1) (b := bq) (w := e9) (by rw [xt hh]; exact hl) (by rw [xt hh]; exact he9) he9z; rw [xt hh] at h8; exact h8); have he : z.1 = 0 := (by rw [hzz])
      ·skip
       refine Qp<|(g3)<|Qs<|(Qq ⟨[], 4, [22], none, none⟩)<|(gz) ?_
       refine (Av (SVy y1))<|(gb) ?_
       refine zz 0 48 (Uu 9) rfl rfl rfl rfl ⟨_, rfl⟩ (by omega) (by omega) rfl ?_
       refine (Av (sv (bq.take 48))) ?_
       refine y3 3 (Uu 9) (Uu 22) (Uu 5) rfl (fun x hx => hf0_3 x (List.mem_of_mem_take hx)) (by rw [List.length_take]; simp only [maxLen]; omega) rfl rfl fun v12_1 oz12_1 ho12_1 => ?_
       refine zI 4 (fun v => .tuple #[SVy e9.2.1, v, ii 0]) rfl rfl (Un 33) (zf za (zH 3 rfl ⟨[], trivial⟩)) ((Yv (G := G ++ oz12_1.toList) (List.mem_append_left _ hI) y1 hf0_1.1 v12_1 (bq.take 48) ((zG ho12_1).mono (fun x h => List.mem_append_right _ h)) (fun x hx => hf0_3 x (List.mem_of_mem_take hx)) e9 he9).2.1 he9z hh) (by simp only [maxLen]; omega) (by rw [List.length_map, Nat.mul_one]) rfl rfl fun v12_2 oz12_2 ho12_2 => ?_
       refine (jk)<|(j1) ?_
       refine ye (c' := shC b l vp v0 v1 vt fi ((tq : Nat) : Int) dd e9.2.1 ow r1v vk ((u1 : Nat) : Int)) rfl ?_
       refine (g8)<|(g6)<|(Qc)<|(Qar)<|(gu)<|(g6) ?_
       refine zx (l := e9.2.2) ho12_2.shows (zH 4 rfl ⟨[], trivial⟩) (Uu 22) (Uu 5) (Uu 9) rfl rfl rfl ?_
       refine (Ca (Xd e9.2.2 hkb hkl)) ?_
       refine z6 (show _ = Value.agg (arr .u8 32 fk) by rw [hfk]) ?_
       refine (Qf 172)<|(QtC 0 17) ?_
       refine ye (c' := shC b l vp v0 v1 vt fi ((tq : Nat) : Int) dd e9.2.1 ow (r1v.1, r1v.2.1, fk, r1v.2.2.2.1, r1v.2.2.2.2) vk ((u1 : Nat) : Int)) rfl ?_
       refine (Qf 204)<|(QtV 0 18) ?_
       refine ye (c' := shC b l vp v0 v1 vt fi ((tq : Nat) : Int) dd z.2.1.1 ow z.2.1.2.1 vk ((z.2.1.2.2 : Nat) : Int)) (by rw [hzz]; rfl) ?_
       refine Qn<|Qp<|(gb) ?_
       refine zz 48 bq.length (Uu 9) rfl rfl rfl ⟨_, rfl⟩ rfl (by omega) (by omega) rfl ?_
       refine z6 (show _ = sv z.2.2 by rw [hzz]; exact congrArg sv ZE) ?_
       refine (jr)<|(gw)<|(gk) ?_
       refine QzL ⟨i + 1, _, _, _, _, rfl, rfl, rfl, by omega, (by rw [← hz]; exact xD hf0_1 hf0_3), (by have h9 := hf0_2.trans (xG (by omega) (hz.trans (show z = (0, z.2.1, z.2.2) from Prod.ext he rfl))); first | exact h9 | (rw [hzn] at h9; exact h9)), (by first | exact hf0_3 | (rw [← hz]; exact wN hf0_3)), (by first | exact hf0_4 | omega)⟩ ⟨rfl, rfl, rfl, rfl, rfl, rfl, rfl, trivial⟩ ⟨rfl, rfl, rfl, trivial⟩ ?_
       omega
     ·skip
      refine (j0)<|(QU)<|(Qm)<|(Ql)<|(gw)<|Qs ?_
      (obtain rfl : z = (e9.1, (e9.2.1, r1v, u1), []) := by rw [← hz, ht1]; exact vS (by rw [xt hh]; exact hl) (by rw [xt hh]; exact he9) he9z); obtain rfl := hst he9z
      ·skip
       refine Qp<|(g3)<|Qs<|(Qq ⟨[], 1, [22], none, none⟩)<|(gz) ?_
       refine (Av (SVy y1))<|(gb) ?_
       refine zz 0 48 (Uu 9) rfl rfl rfl rfl ⟨_, rfl⟩ (by omega) (by omega) rfl ?_
       refine (Av (sv (bq.take 48))) ?_
       refine y3 3 (Uu 9) (Uu 22) (Uu 5) rfl (fun x hx => hf0_3 x (List.mem_of_mem_take hx)) (by rw [List.length_take]; simp only [maxLen]; omega) rfl rfl fun v12_1 oz12_1 ho12_1 => ?_
       refine zi rfl rfl (Un 33) (zf za (zH 3 rfl ⟨[], trivial⟩)) ((Yv (G := G ++ oz12_1.toList) (List.mem_append_left _ hI) y1 hf0_1.1 v12_1 (bq.take 48) ((zG ho12_1).mono (fun x h => List.mem_append_right _ h)) (fun x hx => hf0_3 x (List.mem_of_mem_take hx)) e9 he9).1 he9z) rfl rfl ?_
       refine (jk)<|(j1) ?_
       refine ye (c' := shC b l vp v0 v1 vt fi ((tq : Nat) : Int) dd e9.2.1 ow r1v vk ((u1 : Nat) : Int)) rfl ?_
       refine (g8)<|(g6)<|(Qc)<|(gw)<|(g6)<|(QN)<|(Qat)<|(gu)<|(g4)<|(QD 2)<|(Qm) ?_
       refine (Ca (ZY b l vp v0 v1 vt fi ((tq : Nat) : Int) dd y r ow vk ((us : Nat) : Int) e9.1 h1))<|(ga)<|(Qx) ?_
       refine z4 (i := 1) (Uz 37) rfl rfl (z3 _ _) (ze h1) rfl z7 (.inl rfl) ?_
       refine (gy) ?_
       exact ⟨_, _, _, rfl, yb 1, yt, yt⟩
    ·intro hc7
     rw [hh] at hc7
     cases hc7
   ·skip
    refine Qp<|(Qa) ?_
    refine (Av (ii 32))<|Qn<|(gs)<|(Qf 9)<|(Qf 9)<|(Qf 9)<|(QV 9 0)<|Qn ?_
    refine zh rfl ?_ ?_
    ·intro hc7
     rw [hh] at hc7
     cases hc7
    ·intro hc7
     refine Qk<|Qs<|Qs ?_
     (obtain ⟨e9, he9⟩ : ∃ e, y8 y1 (bq.take 32) = e := ⟨_, rfl⟩); rcases (by by_cases hl : bq.length < 32; exact .inl hl; by_cases h8 : e9.1 = 0; exact .inr (.inl ⟨hl, h8⟩); exact .inr (.inr ⟨hl, h8⟩) : bq.length < 32 ∨ (¬ bq.length < 32 ∧ e9.1 = 0) ∨ (¬ bq.length < 32 ∧ ¬ e9.1 = 0)) with hl | ⟨hl, he9z⟩ | ⟨hl, he9z⟩
     ·skip
      refine (j0)<|(QU)<|(Qm)<|(Ql)<|(Qat)<|(gu)<|Qs ?_
      (obtain rfl : z = (4, (y1, r1v, u1), []) := by rw [← hz, ht1]; exact Zr (by rw [xq hh]; exact hl)); obtain rfl := hst wn
      ·skip
       refine Qp<|(QD 2) ?_
       refine (Ca (ZY b l vp v0 v1 vt fi ((tq : Nat) : Int) dd y r ow vk ((us : Nat) : Int) 4 h1))<|(ga)<|(Qx) ?_
       refine z4 (i := 1) (Uz 37) rfl rfl (z3 _ _) (ze h1) rfl z7 (.inl rfl) ?_
       refine (gy) ?_
       exact ⟨_, _, _, rfl, yb 1, yt, yt⟩
     ·skip
      refine (j0)<|(QU)<|(Qm)<|(Ql)<|(gw)<|Qs ?_
      (obtain ⟨fk, hfk⟩ : ∃ f, f = (fun j => e9.2.2.getD j 0) := ⟨_, rfl⟩); have hkl : e9.2.2.length = 32 := (by have h8 := Zn (y := y1) (b := bq) (by rw [xq hh]; omega) (by rw [xq hh, he9]; exact he9z); rw [xq hh, he9] at h8; exact h8); have hkb : ∀ x ∈ e9.2.2, x < 256 := (by rw [← he9]; exact Zk (fun x hx => hf0_3 x (List.mem_of_mem_take hx))); have hzz : z = (0, (e9.2.1, (r1v.1, r1v.2.1, fk, true, r1v.2.2.2.2), u1), bq.drop 32) := (by rw [← hz, ht1, hfk]; have h8 := z0C (fi := fi) (ow := ow) (ps := ps) (y := y1) (r := r1v) (us := u1) (b := bq) (w := e9) (by rw [xq hh]; exact hl) (by rw [xq hh]; exact he9) he9z; rw [xq hh] at h8; exact h8); have he : z.1 = 0 := (by rw [hzz])
      ·skip
       refine Qp<|(g3)<|Qs<|(Qq ⟨[], 1, [22], none, none⟩)<|(gz) ?_
       refine (Av (SVy y1))<|(gb) ?_
       refine zz 0 32 (Uu 9) rfl rfl rfl rfl ⟨_, rfl⟩ (by omega) (by omega) rfl ?_
       refine (Av (sv (bq.take 32))) ?_
       refine y3 3 (Uu 9) (Uu 22) (Uu 5) rfl (fun x hx => hf0_3 x (List.mem_of_mem_take hx)) (by rw [List.length_take]; simp only [maxLen]; omega) rfl rfl fun v12_1 oz12_1 ho12_1 => ?_
       refine zi rfl rfl (Un 33) (zf za (zH 3 rfl ⟨[], trivial⟩)) ((Yv (G := G ++ oz12_1.toList) (List.mem_append_left _ hI) y1 hf0_1.1 v12_1 (bq.take 32) ((zG ho12_1).mono (fun x h => List.mem_append_right _ h)) (fun x hx => hf0_3 x (List.mem_of_mem_take hx)) e9 he9).2.2 he9z hh).2 rfl rfl ?_
       refine (jk)<|(j1) ?_
       refine ye (c' := shC b l vp v0 v1 vt fi ((tq : Nat) : Int) dd e9.2.1 ow r1v vk ((u1 : Nat) : Int)) rfl ?_
       refine (g8)<|(g6)<|(Qc)<|(Qar)<|(gu)<|(g6) ?_
       refine zx (l := e9.2.2) (show Shows oz12_1.toList 1 _ e9.2.2.length (e9.2.2.map by8) by rw [((Yv (G := G ++ oz12_1.toList) (List.mem_append_left _ hI) y1 hf0_1.1 v12_1 (bq.take 32) ((zG ho12_1).mono (fun x h => List.mem_append_right _ h)) (fun x hx => hf0_3 x (List.mem_of_mem_take hx)) e9 he9).2.2 he9z hh).1]; exact zG ho12_1) (zH 3 rfl ⟨[], trivial⟩) (Uu 22) (Uu 5) (Uu 9) rfl rfl rfl ?_
       refine (Ca (Xd e9.2.2 hkb hkl)) ?_
       refine z6 (show _ = Value.agg (arr .u8 32 fk) by rw [hfk]) ?_
       refine (Qf 172)<|(QtC 0 17) ?_
       refine ye (c' := shC b l vp v0 v1 vt fi ((tq : Nat) : Int) dd e9.2.1 ow (r1v.1, r1v.2.1, fk, r1v.2.2.2.1, r1v.2.2.2.2) vk ((u1 : Nat) : Int)) rfl ?_
       refine (Qf 204)<|(QtV 0 18) ?_
       refine ye (c' := shC b l vp v0 v1 vt fi ((tq : Nat) : Int) dd z.2.1.1 ow z.2.1.2.1 vk ((z.2.1.2.2 : Nat) : Int)) (by rw [hzz]; rfl) ?_
       refine Qn<|Qp<|(gb) ?_
       refine zz 32 bq.length (Uu 9) rfl rfl rfl ⟨_, rfl⟩ rfl (by omega) (by omega) rfl ?_
       refine z6 (show _ = sv z.2.2 by rw [hzz]; exact congrArg sv ZE) ?_
       refine (jr)<|(gw)<|(gk) ?_
       refine QzL ⟨i + 1, _, _, _, _, rfl, rfl, rfl, by omega, (by rw [← hz]; exact xD hf0_1 hf0_3), (by have h9 := hf0_2.trans (xG (by omega) (hz.trans (show z = (0, z.2.1, z.2.2) from Prod.ext he rfl))); first | exact h9 | (rw [hzn] at h9; exact h9)), (by first | exact hf0_3 | (rw [← hz]; exact wN hf0_3)), (by first | exact hf0_4 | omega)⟩ ⟨rfl, rfl, rfl, rfl, rfl, rfl, rfl, trivial⟩ ⟨rfl, rfl, rfl, trivial⟩ ?_
       omega
     ·skip
      refine (j0)<|(QU)<|(Qm)<|(Ql)<|(gw)<|Qs ?_
      (obtain rfl : z = (e9.1, (e9.2.1, r1v, u1), []) := by rw [← hz, ht1]; exact vS (by rw [xq hh]; exact hl) (by rw [xq hh]; exact he9) he9z); obtain rfl := hst he9z
      ·skip
       refine Qp<|(g3)<|Qs<|(Qq ⟨[], 1, [22], none, none⟩)<|(gz) ?_
       refine (Av (SVy y1))<|(gb) ?_
       refine zz 0 32 (Uu 9) rfl rfl rfl rfl ⟨_, rfl⟩ (by omega) (by omega) rfl ?_
       refine (Av (sv (bq.take 32))) ?_
       refine y3 3 (Uu 9) (Uu 22) (Uu 5) rfl (fun x hx => hf0_3 x (List.mem_of_mem_take hx)) (by rw [List.length_take]; simp only [maxLen]; omega) rfl rfl fun v12_1 oz12_1 ho12_1 => ?_
       refine zi rfl rfl (Un 33) (zf za (zH 3 rfl ⟨[], trivial⟩)) ((Yv (G := G ++ oz12_1.toList) (List.mem_append_left _ hI) y1 hf0_1.1 v12_1 (bq.take 32) ((zG ho12_1).mono (fun x h => List.mem_append_right _ h)) (fun x hx => hf0_3 x (List.mem_of_mem_take hx)) e9 he9).1 he9z) rfl rfl ?_
       refine (jk)<|(j1) ?_
       refine ye (c' := shC b l vp v0 v1 vt fi ((tq : Nat) : Int) dd e9.2.1 ow r1v vk ((u1 : Nat) : Int)) rfl ?_
       refine (g8)<|(g6)<|(Qc)<|(gw)<|(g6)<|(QN)<|(Qat)<|(gu)<|(g4)<|(QD 2)<|(Qm) ?_
       refine (Ca (ZY b l vp v0 v1 vt fi ((tq : Nat) : Int) dd y r ow vk ((us : Nat) : Int) e9.1 h1))<|(ga)<|(Qx) ?_
       refine z4 (i := 1) (Uz 37) rfl rfl (z3 _ _) (ze h1) rfl z7 (.inl rfl) ?_
       refine (gy) ?_
       exact ⟨_, _, _, rfl, yb 1, yt, yt⟩
  ·skip
   refine Qp<|(Qc)<|(Qaf)<|(g3)<|(Qcf)<|(g4)<|(Qc)<|(Qaf)<|(g3)<|(Qcf) ?_
   ((obtain ⟨e9, he9⟩ : ∃ e, xM fi ow ps (q.getD i 0) (y1, r1v, u1) = e := ⟨_, rfl⟩); have hzz : z = (e9.1, e9.2, bq) := (by rw [← hz]; exact z7k ht1 he9); have hzx : xM fi ow ps (q.getD i 0) (y1, r1v, u1) = (z.1, z.2.1) := (by subst hzz; exact he9); have hzn : z.2.2 = bq := (by rw [hzz])); by_cases he : z.1 = 0
   ·skip
    refine Qp<|(QD 0)<|(Qm) ?_
    refine (Ca (z0g hI hP b l vp v0 v1 vt fi ((tq : Nat) : Int) dd y1 r1v ow vk u1 ps hk hp h1 hf0_1.1 hf0_1.2 ho (q.getD i 0) (z.1, z.2.1) hzx))<|(gi) ?_
    refine z4 (i := 0) (Uz 37) rfl rfl (z3 _ _) (ze h1) rfl z7 (.inl rfl) ?_
    refine (jr)<|(gw)<|(gk) ?_
    refine QzL ⟨i + 1, _, _, _, _, rfl, rfl, rfl, by omega, (by rw [← hz]; exact xD hf0_1 hf0_3), (by have h9 := hf0_2.trans (xG (by omega) (hz.trans (show z = (0, z.2.1, z.2.2) from Prod.ext he rfl))); first | exact h9 | (rw [hzn] at h9; exact h9)), (by first | exact hf0_3 | (rw [← hz]; exact wN hf0_3)), (by first | exact hf0_4 | omega)⟩ ⟨rfl, rfl, rfl, rfl, rfl, rfl, rfl, trivial⟩ ⟨rfl, rfl, rfl, trivial⟩ ?_
    omega
   ·skip
    refine Qp<|(QD 0)<|(Qm) ?_
    refine (Ca (z0g hI hP b l vp v0 v1 vt fi ((tq : Nat) : Int) dd y1 r1v ow vk u1 ps hk hp h1 hf0_1.1 hf0_1.2 ho (q.getD i 0) (z.1, z.2.1) hzx))<|(gi) ?_
    refine z4 (i := 0) (Uz 37) rfl rfl (z3 _ _) (ze h1) rfl z7 (.inl rfl) ?_
    refine (jr)<|(Qat)<|(gu) ?_
    obtain rfl := hst he
    refine (g4)<|(QD 2)<|(Qm) ?_
    refine (Ca (ZY b l vp v0 v1 vt fi ((tq : Nat) : Int) dd y r ow vk ((us : Nat) : Int) z.1 h1))<|(ga)<|(Qx) ?_
    refine z4 (i := 1) (Uz 37) rfl rfl (z3 _ _) (ze h1) rfl z7 (.inl rfl) ?_
    refine (gy) ?_
    exact ⟨_, _, _, rfl, yb 1, yt, yt⟩
 ·have hz0 : i = q.length := by omega
  have hrun := hf0_2.trans (z0D hz0)
  obtain ⟨e2, he2⟩ : ∃ e, y8 y1 bq = e := ⟨_, rfl⟩
  have hfin : w = (e2.1, (e2.2.1, r1v, u1), e2.2.2) := by rw [← hw]; exact Wl hrun he2
  have hel : e2.2.2.length ≤ bq.length := by rw [← he2]; exact Zp y1 bq
  subst hfin
  refine Qe<|Qs<|QR ⟨[], 1, [22], none, none⟩<|(gz) ?_
  refine (Av (SVy y1))<|(Qm) ?_
  refine y3 3 (Uu 9) (Uu 22) (Uu 5) rfl hf0_3 (by simp only [maxLen]; omega) rfl rfl fun v4_1 oz4_1 ho4_1 => ?_
  refine zi rfl rfl (Un 33) (zf za (zH 3 rfl ⟨[], trivial⟩)) ((Yv (G := G ++ oz4_1.toList) (List.mem_append_left _ hI) y1 hf0_1.1 v4_1 bq ((zG ho4_1).mono (fun x h => List.mem_append_right _ h)) hf0_3 e2 he2).1 h0) rfl rfl ?_
  refine (jk)<|(QH 4) fun r5=>(QW 4)<|(j3)<|(QN)<|(Qat)<|(gu)<|(g4)<|(QD 2)<|(Qm) ?_
  refine (Ca (ZY b l vp v0 v1 vt fi ((tq : Nat) : Int) dd y r ow vk ((us : Nat) : Int) e2.1 h1))<|(ga)<|(Qx) ?_
  refine z4 (i := 1) (Uz 37) rfl rfl (z3 _ _) (ze h1) rfl z7 (.inl rfl) ?_
  refine (gy) ?_
  exact ⟨_, _, _, rfl, yb 1, yt, yt⟩
theorem zd3 (b : LN) (l : Bool) (vp v0 v1 vt : Value) (fi : Bool) (tn : Int) (dd : Bool) (y : SY) (r : RS) (ow : NN) (vk : Value) (us : Int) (p0 p1 : List Int) (tvs : List Value) (ts : List (List Int)) (hvt : Shows G 1 vt tvs.length tvs) (hLI : zm G (v0 :: v1 :: tvs) (p0 :: p1 :: ts)) (vx : Value) (h1 : xl vp v0 v1 vt vk) (hbad : ((((dd || decide (tn < 0)) || decide ((tvs.length : Int) ≤ tn)) || decide (us < 0)) || decide (((zN l p0 p1 ts : Nat) : Int) ≠ 0)) = true) : Fp G 13 #[.agg (shC b l vp v0 v1 vt fi tn dd y ow r vk us), vx] (.tuple #[.agg (shC b l vp v0 v1 vt fi tn dd y ow r vk us), y4, ii 9]) := by
 refine Qf3 Tryz.func13 ?_
 refine (g4)<|(Qh 0) fun r1=>(QH 1) fun r2=>(g8)<|Qs<|(gc) ?_
 refine (Ca (zaf b l vp v0 v1 vt fi tn dd y r ow vk us p0 p1 tvs ts hvt hLI hbad))<|(gi)<|(g8)<|(g6)<|(Q0)<|(Qm)<|(Qo)<|(QT)<|(gu)<|(gc) ?_
 refine z4 (i := 1) (Uz 37) rfl rfl (z3 _ _) (ze h1) rfl z7 (.inl rfl) ?_
 refine (gy) ?_
 exact ⟨_, _, _, rfl, yb 1, yt, yt⟩
theorem z5a (b : LN) (l : Bool) (vp v0 v1 vt : Value) (fi : Bool) (tq : Nat) (dd : Bool) (y : SY) (r : RS) (ow : NN) (vk : Value) (us : Int) (p0 p1 : List Int) (tvs : List Value) (ts : List (List Int)) (hvt : Shows G 1 vt tvs.length tvs) (hLI : zm G (v0 :: v1 :: tvs) (p0 :: p1 :: ts)) (vx : Value) (h1 : xl vp v0 v1 vt vk) (hbad : ((((dd || decide (((tq : Nat) : Int) < 0)) || decide ((tvs.length : Int) ≤ ((tq : Nat) : Int))) || decide (us < 0)) || decide (((zN l p0 p1 ts : Nat) : Int) ≠ 0)) = false) (hmine : ((decide (((tq % 2 : Nat) : Int) = 0) != l) == fi) = true) : Fp G 13 #[.agg (shC b l vp v0 v1 vt fi ((tq : Nat) : Int) dd y ow r vk us), vx] (.tuple #[.agg (shC b l vp v0 v1 vt fi ((tq : Nat) : Int) dd y ow r vk us), y4, ii 9]) := by
 refine Qf3 Tryz.func13 ?_
 refine (g4)<|(Qh 0) fun r1=>(QH 1) fun r2=>(g8)<|Qs<|(gc) ?_
 refine (Ca (YS b l vp v0 v1 vt fi tq dd y r ow vk us p0 p1 tvs ts hvt hLI hbad)) ?_
 refine z6 (show _ = Value.tuple #[.bool true, .bool true] by rw [hmine]) ?_
 refine (gi)<|(g8)<|(g6)<|(Q0)<|(g7)<|(Qm)<|(QF)<|(gu)<|(gc) ?_
 refine z4 (i := 1) (Uz 37) rfl rfl (z3 _ _) (ze h1) rfl z7 (.inl rfl) ?_
 refine (gy) ?_
 exact ⟨_, _, _, rfl, yb 1, yt, yt⟩
theorem z7C (b : LN) (l : Bool) (vp v0 v1 vt : Value) (fi : Bool) (tq : Nat) (dd : Bool) (y : SY) (r : RS) (ow : NN) (vk : Value) (us : Int) (p0 p1 : List Int) (tvs : List Value) (ts : List (List Int)) (hvt : Shows G 1 vt tvs.length tvs) (hLI : zm G (v0 :: v1 :: tvs) (p0 :: p1 :: ts)) (vx : Value) (tx : LN) (hvt2 : Sh G vx tx) (htb : By tx) (h1 : xl vp v0 v1 vt vk) (hbad : ((((dd || decide (((tq : Nat) : Int) < 0)) || decide ((tvs.length : Int) ≤ ((tq : Nat) : Int))) || decide (us < 0)) || decide (((zN l p0 p1 ts : Nat) : Int) ≠ 0)) = false) (hmine : ((decide (((tq % 2 : Nat) : Int) = 0) != l) == fi) = false) (hlt : 800 < tx.length) : Fp G 13 #[.agg (shC b l vp v0 v1 vt fi ((tq : Nat) : Int) dd y ow r vk us), vx] (.tuple #[.agg (shC b l vp v0 v1 vt fi ((tq : Nat) : Int) dd y ow r vk us), y4, ii 1]) := by
 have _u1 := htb
 refine Qf3 Tryz.func13 ?_
 refine (g4)<|(Qh 0) fun r1=>(QH 1) fun r2=>(g8)<|Qs<|(gc) ?_
 refine (Ca (YS b l vp v0 v1 vt fi tq dd y r ow vk us p0 p1 tvs ts hvt hLI hbad)) ?_
 refine z6 (show _ = Value.tuple #[.bool false, .bool true] by rw [hmine]) ?_
 refine (gi)<|(g8)<|(g6)<|(Q0)<|(g7)<|(Qm)<|(QF)<|(gn)<|(ge)<|(QC hvt2)<|(QG)<|(Qat)<|(gu)<|(gc) ?_
 refine z4 (i := 1) (Uz 37) rfl rfl (z3 _ _) (ze h1) rfl z7 (.inl rfl) ?_
 refine (gy) ?_
 exact ⟨_, _, _, rfl, yb 1, yt, yt⟩
theorem Z6 (va vb : Value) (a b : List Int) (ha : Shows G 1 va a.length (a.map iv)) (hb : Shows G 1 vb b.length (b.map iv)) (hz : a.length ≤ 9223372036854775807) : Fp G 48 #[va, vb] (.bool (decide (a = b))) := by
 refine Qf1 Tryz.func48 ?_
 refine (gd)<|(ge)<|(QC ha)<|(Qm)<|(QC hb)<|(QN)<|Qn ?_
 refine zh rfl ?_ ?_
 ·intro hc0
  have hne := of_decide_eq_true hc0
  refine (j4) ?_
  first | rw [show decide (a = b) = false from decide_eq_false (fun h => hne (by rw [h]))] | rw [show decide (a = b) = false from decide_eq_false (fun h => hq (by rw [h]))] | rw [show decide (a = b) = true from decide_eq_true (z19 hlen (fun j hj => hf0_1 j (by omega)))]
  exact ⟨_, rfl, yt⟩
 ·intro hc0
  have hlen : a.length = b.length := by have := of_decide_eq_false hc0; omega
  refine Qk<|(ge)<|(QC ha)<|(Qm)<|Qn<|Qb ?_
  refine QzK [(0, _), (1, _), (12, _)] [] (fun kk E m => ∃ (i : Nat), kk = a.length - i ∧ E = [(13, ii i)] ∧ m = [] ∧ (i ≤ a.length) ∧ (∀ j, j < i → a.getD j 0 = b.getD j 0) ∧ (a.length = b.length)) ⟨0, rfl, rfl, rfl, by omega, fun j hj => absurd hj (Nat.not_lt_zero j), hlen⟩ ⟨rfl, rfl, rfl, rfl, trivial⟩ trivial ?_
  rintro kk E m ⟨i, rfl, rfl, rfl, hf0_0, hf0_1, hf0_2⟩
  simp only [zo, zu]
  refine (gq) ?_
  refine (Qcd) (fun hc1=>?_) fun hc1=>?_
  ·have hc1 : i < a.length := by omega
   refine (jq)<|(g3)<|(gr)<|(gb) ?_
   refine yf ha (Uu 25) (Uz 3) rfl rfl (by omega) rfl ?_
   refine (QS) ?_
   refine zR ha za (Uu 3) rfl rfl (z8u (by omega)) rfl ?_
   refine (gb) ?_
   refine yf hb (Uu 25) (Uz 3) rfl rfl (by omega) rfl ?_
   refine (QS) ?_
   refine zR hb za (Uu 3) rfl rfl (z8u (by omega)) rfl ?_
   refine (QN)<|Qn ?_
   refine zh rfl ?_ ?_
   ·intro hc2
    have hq := of_decide_eq_true hc2
    refine (j4) ?_
    first | rw [show decide (a = b) = false from decide_eq_false (fun h => hne (by rw [h]))] | rw [show decide (a = b) = false from decide_eq_false (fun h => hq (by rw [h]))] | rw [show decide (a = b) = true from decide_eq_true (z19 hlen (fun j hj => hf0_1 j (by omega)))]
    exact ⟨_, rfl, yt⟩
   ·intro hc2
    have hq : a.getD i 0 = b.getD i 0 := by have := of_decide_eq_false hc2; omega
    refine Qk<|(gk) ?_
    refine QzL ⟨i + 1, rfl, rfl, rfl, by omega, fun j hj => by rcases (by omega : j < i ∨ j = i) with h | rfl; exact hf0_1 j h; exact hq, hlen⟩ ⟨rfl, rfl, rfl, rfl, trivial⟩ trivial ?_
    omega
  ·have hz0 : i = a.length := by omega
   refine Qe<|(j4) ?_
   first | rw [show decide (a = b) = false from decide_eq_false (fun h => hne (by rw [h]))] | rw [show decide (a = b) = false from decide_eq_false (fun h => hq (by rw [h]))] | rw [show decide (a = b) = true from decide_eq_true (z19 hlen (fun j hj => hf0_1 j (by omega)))]
   exact ⟨_, rfl, yt⟩
theorem zcS (ba : LN) (la : Bool) (vpa v0a v1a vta : Value) (tva : List Value) (pa q0a q1a : List Int) (ta : List (List Int)) (hbaz : By ba) (hva : Shows G 1 vta tva.length tva) (hLa : zm G (vpa :: v0a :: v1a :: tva) (pa :: q0a :: q1a :: ta)) (bb : LN) (lb : Bool) (vpb v0b v1b vtb : Value) (tvb : List Value) (pb q0b q1b : List Int) (tb : List (List Int)) (hbbz : By bb) (hvb : Shows G 1 vtb tvb.length tvb) (hLb : zm G (vpb :: v0b :: v1b :: tvb) (pb :: q0b :: q1b :: tb)) (hza : ta.length ≤ 9223372036854775807 ∧ ∀ l ∈ pa :: q0a :: q1a :: ta, l.length ≤ 9223372036854775807) : Fp G 25 #[.agg (zgO ba la vpa v0a v1a vta), .agg (zgO bb lb vpb v0b v1b vtb)] (.bool (z8R ba bb la lb pa pb q0a q0b q1a q1b ta tb)) := by
 obtain ⟨ha0, ha1, ha2, ha3, ha4⟩ := z5Z hLa
 obtain ⟨hB0, hB1, hB2, hB3, hB4⟩ := z5Z hLb
 rw [ha3] at hva
 rw [hB3] at hvb
 have hz1 := hza.1
 refine Qf1 Tryz.func25 ?_
 refine (g4)<|(Qh 0) fun r1=>(Qh 1) fun r2=>(j9) ?_
 refine yd [(0, _), (1, _), (2, _), (3, _), (4, _)] [(5, .bool (sp0 ba bb la lb ta.length tb.length pa pb q0a q0b q1a q1b))] [(0, some _), (1, some _)] ⟨rfl, rfl, rfl, rfl, rfl, trivial⟩ ⟨rfl, rfl, trivial⟩ ?_ ?_
 ·skip
  refine (jj)<|(Qf 0)<|(QV 0 1) ?_
  refine z9u rfl rfl rfl hbaz hbbz ?_
  refine (Qm) ?_
  refine zn (fun hb0 => ?_) (fun hb0 => ?_)
  ·skip
   refine (Qy)<|(Qf 1)<|(Qy)<|(QV 1 0)<|(Qy)<|(Qf 1)<|(Qy)<|(QV 1 1)<|(Qy) ?_
   refine XI (Uu 4) rfl rfl rfl ?_
   refine (QT)<|(Qm) ?_
   refine zn (fun hb1 => ?_) (fun hb1 => ?_)
   ·skip
    refine (Qy)<|(Qf 5)<|(Qy)<|(QV 5 0)<|(Qy)<|(QC hva)<|(Qy)<|(Qf 5)<|(Qy)<|(QV 5 1)<|(Qy)<|(QC hvb)<|(Qy)<|(Qc)<|(QT)<|(Qm) ?_
    refine zn (fun hb2 => ?_) (fun hb2 => ?_)
    ·skip
     refine (Qy)<|(Qf 2)<|(Qy)<|(QV 2 0)<|(Qy)<|(Qf 2)<|(Qy)<|(QV 2 1)<|(Qy) ?_
     refine (Ca (Z6 vpa vpb pa pb ha0 hB0 (hza.2 pa (by simp))))<|(QT)<|(Qm) ?_
     refine zn (fun hb3 => ?_) (fun hb3 => ?_)
     ·skip
      refine (Qy)<|(Qf 3)<|(Qy)<|(QA 3 0)<|(Qy)<|(QV 3 0)<|(Qy)<|(Qf 3)<|(Qy)<|(QA 3 0)<|(Qy)<|(QV 3 1)<|(Qy) ?_
      refine (Ca (Z6 v0a v0b q0a q0b ha1 hB1 (hza.2 q0a (by simp))))<|(QT)<|(Qm) ?_
      refine zn (fun hb4 => ?_) (fun hb4 => ?_)
      ·skip
       refine (Qy)<|(Qf 3)<|(Qy)<|(QA 4 1)<|(j7)<|(Qy)<|(Qf 3)<|(Qy)<|(QA 4 1)<|(Qy)<|(QV 4 1)<|(Qy) ?_
       refine (Ca (Z6 v1a v1b q1a q1b ha2 hB2 (hza.2 q1a (by simp))))<|(QT)<|(g3) ?_
       exact ⟨⟨rfl, rfl, rfl, rfl, rfl, trivial⟩, ⟨z5 (by rw [sp0, hb0, hb1, hb2, hb3, hb4] <;> rfl), trivial⟩, ⟨rfl, rfl, trivial⟩⟩
      ·skip
       refine (gg)<|(gx)<|(QF)<|(g3) ?_
       exact ⟨⟨rfl, rfl, rfl, rfl, rfl, trivial⟩, ⟨z5 (by rw [sp0, hb0, hb1, hb2, hb3, hb4] <;> rfl), trivial⟩, ⟨rfl, rfl, trivial⟩⟩
     ·skip
      refine (gg)<|(gx)<|(QF)<|(j6)<|(gx)<|(QF)<|(g3) ?_
      exact ⟨⟨rfl, rfl, rfl, rfl, rfl, trivial⟩, ⟨z5 (by rw [sp0, hb0, hb1, hb2, hb3] <;> rfl), trivial⟩, ⟨rfl, rfl, trivial⟩⟩
    ·skip
     refine (gg)<|(Qo)<|(QF)<|(j6)<|(gx)<|(QF)<|(j6)<|(gx)<|(QF)<|(g3) ?_
     exact ⟨⟨rfl, rfl, rfl, rfl, rfl, trivial⟩, ⟨z5 (by rw [sp0, hb0, hb1, hb2] <;> rfl), trivial⟩, ⟨rfl, rfl, trivial⟩⟩
   ·skip
    refine (gg)<|(gx)<|(QF)<|(j6)<|(Qo)<|(QF)<|(j6)<|(gx)<|(QF)<|(j6)<|(gx)<|(QF)<|(g3) ?_
    exact ⟨⟨rfl, rfl, rfl, rfl, rfl, trivial⟩, ⟨z5 (by rw [sp0, hb0, hb1] <;> rfl), trivial⟩, ⟨rfl, rfl, trivial⟩⟩
  ·skip
   refine (gg)<|(Qo)<|(QF)<|(j6)<|(gx)<|(QF)<|(j6)<|(Qo)<|(QF)<|(j6)<|(gx)<|(QF)<|(j6)<|(gx)<|(QF)<|(g3) ?_
   exact ⟨⟨rfl, rfl, rfl, rfl, rfl, trivial⟩, ⟨z5 (by rw [sp0, hb0] <;> rfl), trivial⟩, ⟨rfl, rfl, trivial⟩⟩
 ·simp only [zo]
  refine Qs<|(gd)<|Qb ?_
  refine QzK [(2, _), (3, _), (4, _)] [(0, _), (1, _)] (fun kk E m => ∃ (k : Nat) (ok : Bool), kk = ta.length - k ∧ E = [(5, .bool ok), (6, ii k)] ∧ m = [] ∧ (k ≤ ta.length) ∧ (ok = spk (sp0 ba bb la lb ta.length tb.length pa pb q0a q0b q1a q1b) ta tb k)) ⟨0, (sp0 ba bb la lb ta.length tb.length pa pb q0a q0b q1a q1b), rfl, rfl, rfl, by omega, (zg3 _ _ _)⟩ ⟨rfl, rfl, rfl, rfl, rfl, trivial⟩ ⟨rfl, rfl, trivial⟩ ?_
  rintro kk E m ⟨k, ok, rfl, rfl, rfl, hf0_0, hf0_1⟩
  simp only [zo, zu]
  refine (gs) ?_
  refine yd [(2, _), (3, _), (4, _), (5, _), (6, _)] [(60, .bool (ok && decide ((k : Int) < (ta.length : Int))))] [(0, some _), (1, some _)] ⟨rfl, rfl, rfl, rfl, rfl, trivial⟩ ⟨rfl, rfl, trivial⟩ ?_ ?_
  ·skip
   refine (gb) ?_
   refine zn (fun hb5 => ?_) (fun hb5 => ?_)
   ·skip
    refine (Qy)<|(g7)<|(Qf 5)<|(Qy)<|(QV 5 0)<|(Qy)<|(QC hva)<|(Qy)<|(Ql)<|(QT)<|Qn ?_
    exact ⟨⟨rfl, rfl, rfl, rfl, rfl, trivial⟩, ⟨z5 (by rw [hb5] <;> rfl), trivial⟩, ⟨rfl, rfl, trivial⟩⟩
   ·skip
    refine (gg)<|(Qo)<|(QF)<|Qn ?_
    exact ⟨⟨rfl, rfl, rfl, rfl, rfl, trivial⟩, ⟨z5 (by rw [hb5] <;> rfl), trivial⟩, ⟨rfl, rfl, trivial⟩⟩
  ·simp only [zo]
   refine zh rfl ?_ ?_
   ·intro hc0
    obtain ⟨hok, hkl⟩ := zbw hc0
    have hlen := z90 (zjq (hf0_1.symm.trans hok))
    refine Qk<|Qs<|Qb<|(Qg)<|(jd)<|(Qm) ?_
    refine yf hva (Uu 27) (Uz 25) rfl rfl (by omega) rfl ?_
    refine (QS) ?_
    refine zR hva za (Uu 25) rfl rfl (zcT (by omega)) rfl ?_
    refine (Qf 5)<|(QV 5 1)<|(Qm) ?_
    refine yf hvb (Uu 27) (Uz 25) rfl rfl (by omega) rfl ?_
    refine (QS) ?_
    refine zR hvb za (Uu 25) rfl rfl (zcT (by omega)) rfl ?_
    refine z9 rfl (Un 48) (Z6 _ _ (ta.getD k []) (tb.getD k []) (ha4 k (by omega)) (hB4 k (by omega)) (ziK (fun l h => hza.2 l (by simp [h])) k)) rfl rfl ?_
    refine (g3)<|(j0)<|(Q2 1)<|(g3) ?_
    refine QzL ⟨k + 1, _, rfl, rfl, rfl, by omega, (zfg (hf0_1.symm.trans hok))⟩ ⟨rfl, rfl, rfl, rfl, rfl, trivial⟩ ⟨rfl, rfl, trivial⟩ ?_
    omega
   ·intro hc0
    have hfin := zbX hf0_1 hf0_0 hc0
    refine Qe<|(g6)<|(gt) ?_
    rw [← hfin]
    exact ⟨_, rfl, yt⟩
theorem z1D (va vb : Value) (ps : List (NN)) (ha : Shows G 32 va ps.length (psC ps)) (hb : Shows G 32 vb ps.length (psC ps)) (hz : ps.length ≤ 9223372036854775807) : Fp G 26 #[va, vb] (.bool true) := by
 refine Qf1 Tryz.func26 ?_
 refine (gd)<|(ge)<|(QC ha)<|(Qm)<|(QC hb)<|(QN) ?_
 refine z6 (show _ = Value.bool false from congrArg Value.bool (by first | exact decide_eq_false (by omega) | simp)) ?_
 refine (gn)<|(ge)<|(QC ha)<|(Qm)<|Qn<|Qb ?_
 refine QzK [(0, _), (1, _), (12, _)] [] (fun kk E m => ∃ (i : Nat), kk = ps.length - i ∧ E = [(13, ii i)] ∧ m = [] ∧ (i ≤ ps.length)) ⟨0, rfl, rfl, rfl, by omega⟩ ⟨rfl, rfl, rfl, rfl, trivial⟩ trivial ?_
 rintro kk E m ⟨i, rfl, rfl, rfl, hf0_0⟩
 simp only [zo, zu]
 refine (gq) ?_
 refine (Qcd) (fun hc1=>?_) fun hc1=>?_
 ·have hc1 : i < ps.length := by omega
  refine (jq)<|(g3)<|(gr)<|(gb) ?_
  refine yf ha (Uu 24) (Uz 30) rfl rfl (by omega) rfl ?_
  refine wz ha za (Uu 30) rfl (Uz 30) rfl (by decide) (by rw [xc vI]; omega) (z37 (by omega)) rfl ?_
  refine z6 (congrArg Value.agg (XK _)) ?_
  refine (gb) ?_
  refine yf hb (Uu 24) (Uz 30) rfl rfl (by omega) rfl ?_
  refine wz hb za (Uu 30) rfl (Uz 30) rfl (by decide) (by rw [xc vI]; omega) (z37 (by omega)) rfl ?_
  refine z6 (congrArg Value.agg (XK _)) ?_
  refine W2 (Uu 30) (Uu 5) (Uz 5) z0Y rfl rfl rfl ?_
  refine z6 (show _ = Value.bool false from congrArg Value.bool (by first | (rw [zS]; rfl) | simp [zS])) ?_
  refine (gn)<|(gk) ?_
  refine QzL ⟨i + 1, rfl, rfl, rfl, by omega⟩ ⟨rfl, rfl, rfl, rfl, trivial⟩ trivial ?_
  omega
 ·have hz0 : i = ps.length := by omega
  refine Qe<|(j4) ?_
  exact ⟨_, rfl, yt⟩
set_option maxRecDepth 20000 in
theorem xB (b : LN) (l : Bool) (vp v0 v1 vt : Value) (fi : Bool) (wp w0 w1 wt : Value) (tn : Int) (dd : Bool) (y : SY) (r : RS) (ow : NN) (vk : Value) (wk : Value) (us : Int) (tv1 tv2 : List Value) (pa p0 p1 : List Int) (ts : List (List Int)) (ps : List (NN)) (hb8 : By b) (hv1 : Shows G 1 vt tv1.length tv1) (hL1 : zm G (vp :: v0 :: v1 :: tv1) (pa :: p0 :: p1 :: ts)) (hk1 : Shows G 32 vk ps.length (psC ps)) (hv2 : Shows G 1 wt tv2.length tv2) (hL2 : zm G (wp :: w0 :: w1 :: tv2) (pa :: p0 :: p1 :: ts)) (hk2 : Shows G 32 wk ps.length (psC ps)) (hz9 : ps.length ≤ 9223372036854775807) (hz : ts.length ≤ 9223372036854775807 ∧ ∀ l ∈ pa :: p0 :: p1 :: ts, l.length ≤ 9223372036854775807) : Fp G 8 #[.agg (shC b l vp v0 v1 vt fi tn dd y ow r vk us), .agg (shC b l wp w0 w1 wt fi tn dd y ow r wk us)] (.bool true) := by
 refine Qf1 Tryz.func8 ?_
 refine (g4)<|(Qh 0) fun r1=>(Qh 1) fun r2=>(j9)<|(Qf 0)<|(QlK 0 0 6) ?_
 refine (Av (.agg (zgO b l vp v0 v1 vt)))<|(Qf 0)<|(QlK 1 0 6) ?_
 refine (Av (.agg (zgO b l wp w0 w1 wt))) ?_
 refine (Ca (zcS b l vp v0 v1 vt tv1 pa p0 p1 ts hb8 hv1 hL1 b l wp w0 w1 wt tv2 pa p0 p1 ts hb8 hv2 hL2 hz)) ?_
 refine (Ab (z79 _ _ _ _ _ _))<|(g7)<|(Qf 238)<|(Qy)<|(QV 21 0)<|(Qy)<|(Qf 238)<|(Qy)<|(QV 21 1)<|(Qy) ?_
 refine (Ca (z1D vk wk ps hk1 hk2 hz9))<|(QT)<|(g7)<|(Qf 6)<|(Qy)<|(QV 6 0)<|(Qy)<|(Qf 6)<|(Qy)<|(QV 6 1)<|(Qy) ?_
 refine XI (Uu 4) rfl rfl rfl ?_
 refine z6 (show _ = Value.bool true from congrArg Value.bool (by first | exact decide_eq_true rfl | exact beq_self_eq_true _ | exact zS | simp)) ?_
 refine (QT)<|(g7)<|(Qf 7)<|(Qy)<|(QV 7 0)<|(Qy)<|(Qf 7)<|(Qy)<|(QV 7 1)<|(Qy)<|(Qc) ?_
 refine z6 (show _ = Value.bool true from congrArg Value.bool (by first | exact decide_eq_true rfl | exact beq_self_eq_true _ | exact zS | simp)) ?_
 refine (QT)<|(g7)<|(Qf 8)<|(Qy)<|(QV 8 0)<|(Qy)<|(Qf 8)<|(Qy)<|(QV 8 1)<|(Qy) ?_
 refine XI (Uu 4) rfl rfl rfl ?_
 refine z6 (show _ = Value.bool true from congrArg Value.bool (by first | exact decide_eq_true rfl | exact beq_self_eq_true _ | exact zS | simp)) ?_
 refine (QT)<|(g7)<|(Qf 9)<|(Qy)<|(QlK 0 9 5) ?_
 refine (Av (SVy y))<|(Qy)<|(Qf 9)<|(Qy)<|(QlK 1 9 5) ?_
 refine (Av (SVy y))<|(Qy) ?_
 refine zdM zkT zkh rfl rfl rfl ?_
 refine z6 (show _ = Value.bool true from congrArg Value.bool (by first | exact decide_eq_true rfl | exact beq_self_eq_true _ | exact zS | simp)) ?_
 refine (QT)<|(g7)<|(Qf 107)<|(Qy)<|(Qv 14 0)<|(Qy)<|(Qf 107)<|(Qy)<|(Qv 14 1)<|(Qy) ?_
 refine Y8 (Uu 30) (Uu 5) (Uz 5) z0Y rfl rfl rfl ?_
 refine z6 (show _ = Value.bool true from congrArg Value.bool (by first | exact decide_eq_true rfl | exact beq_self_eq_true _ | exact zS | simp)) ?_
 refine (QT)<|(g7)<|(Qf 139)<|(Qy)<|(Qv 15 0)<|(Qy)<|(Qf 139)<|(Qy)<|(Qv 15 1)<|(Qy) ?_
 refine Y8 (Uu 30) (Uu 5) (Uz 5) z0Y rfl rfl rfl ?_
 refine z6 (show _ = Value.bool true from congrArg Value.bool (by first | exact decide_eq_true rfl | exact beq_self_eq_true _ | exact zS | simp)) ?_
 refine (QT)<|(g7)<|(Qf 171)<|(Qy)<|(QV 16 0)<|(Qy)<|(Qf 171)<|(Qy)<|(QV 16 1)<|(Qy) ?_
 refine XI (Uu 4) rfl rfl rfl ?_
 refine z6 (show _ = Value.bool true from congrArg Value.bool (by first | exact decide_eq_true rfl | exact beq_self_eq_true _ | exact zS | simp)) ?_
 refine (QT)<|(g7)<|(Qf 172)<|(Qy)<|(Qv 17 0)<|(Qy)<|(Qf 172)<|(Qy)<|(Qv 17 1)<|(Qy) ?_
 refine Y8 (Uu 30) (Uu 5) (Uz 5) z0Y rfl rfl rfl ?_
 refine z6 (show _ = Value.bool true from congrArg Value.bool (by first | exact decide_eq_true rfl | exact beq_self_eq_true _ | exact zS | simp)) ?_
 refine (QT)<|(g7)<|(Qf 204)<|(Qy)<|(QV 18 0)<|(Qy)<|(Qf 204)<|(Qy)<|(QV 18 1)<|(Qy) ?_
 refine XI (Uu 4) rfl rfl rfl ?_
 refine z6 (show _ = Value.bool true from congrArg Value.bool (by first | exact decide_eq_true rfl | exact beq_self_eq_true _ | exact zS | simp)) ?_
 refine (QT)<|(g7)<|(Qf 205)<|(Qy)<|(Qv 19 0)<|(Qy)<|(Qf 205)<|(Qy)<|(Qv 19 1)<|(Qy) ?_
 refine Y8 (Uu 30) (Uu 5) (Uz 5) z0Y rfl rfl rfl ?_
 refine z6 (show _ = Value.bool true from congrArg Value.bool (by first | exact decide_eq_true rfl | exact beq_self_eq_true _ | exact zS | simp)) ?_
 refine (QT)<|(g7)<|(Qf 237)<|(Qy)<|(QV 20 0)<|(Qy)<|(Qf 237)<|(Qy)<|(QV 20 1)<|(Qy) ?_
 refine XI (Uu 4) rfl rfl rfl ?_
 refine z6 (show _ = Value.bool true from congrArg Value.bool (by first | exact decide_eq_true rfl | exact beq_self_eq_true _ | exact zS | simp)) ?_
 refine (QT)<|(g7)<|(Qf 239)<|(Qy)<|(QV 22 0)<|(Qy)<|(Qf 239)<|(Qy)<|(QV 22 1)<|(Qy)<|(Qc) ?_
 refine z6 (show _ = Value.bool true from congrArg Value.bool (by first | exact decide_eq_true rfl | exact beq_self_eq_true _ | exact zS | simp)) ?_
 refine (QT)<|(gt) ?_
 exact ⟨_, rfl, yt⟩
theorem zb8 (n : Nat) (hn : n = 0) : Fq G [] 109 #[y4, ii n] (fun v l1 nw => l1 = [] ∧ ∃ v', v = v' ∧ OwnS 5 1 v' 0 [] nw) := by
 refine QfN Tryz.func109 ?_
 refine (gd)<|(ge)<|(Ql)<|(gw)<|(ge)<|(Qm) ?_
 refine z44 (Uu 22) rfl rfl rfl ?_
 refine (Qm)<|(QC (xa [] 1)) ?_
 refine yP rfl rfl rfl (by omega) (by omega) ?_
 refine (Av (ii 0)) ?_
 refine yP rfl rfl rfl (by omega) (by omega) ?_
 refine (Av (ii n))<|(go)<|(QG)<|(gw)<|(g6)<|(gt) ?_
 exact ⟨_, _, _, 99, rfl, yt, (wT _ _), rfl⟩
theorem zbv (n : Nat) (hn : 0 < n) (hm : n ≤ 1099511627776) : Fq G [] 109 #[y4, ii n] (fun v l1 nw => l1 = [] ∧ ∃ v', v = v' ∧ OwnS 5 1 v' 0 [] nw) := by
 refine QfN Tryz.func109 ?_
 refine (gd)<|(ge)<|(Ql)<|(gw)<|(ge)<|(Qm) ?_
 refine z44 (Uu 22) rfl rfl rfl ?_
 refine (Qm)<|(QC (xa [] 1)) ?_
 refine yP rfl rfl rfl (by omega) (by omega) ?_
 refine (Av (ii 0)) ?_
 refine yP rfl rfl rfl (by omega) (by omega) ?_
 refine (Av (ii n))<|(go)<|(QG)<|(Qat)<|(gu)<|Qp<|(gb) ?_
 refine z44 (Uu 22) rfl rfl rfl ?_
 refine yi 0 0 (xa [] 1) (Uu 22) (Uz 5) rfl rfl rfl rfl ⟨_, rfl⟩ (by omega) (by omega) rfl ?_
 refine (Qm) ?_
 refine zaY 0 (z := 1) (Uu 22) (Uu 3) (Uz 5) (Uy 5) (Ub 5) rfl rfl rfl (by omega) (by simp only [maxLen]; omega) (by omega) rfl fun v3_1 oz3_1 xs3_1 ho3_1 => ?_
 refine (Qm)<|(QC (xa [] 1)) ?_
 refine yi 0 0 ho3_1.shows (Uu 22) (Uz 5) rfl rfl rfl rfl ⟨_, rfl⟩ (by omega) (by omega) rfl ?_
 refine (go)<|(gt) ?_
 exact ⟨_, _, _, 0, rfl, yt, (zw (OwnS.cut ho3_1 (Nat.zero_le _)) rfl rfl), rfl⟩
theorem zgN {G : Mem} (n : Nat) (hm : n ≤ 1099511627776) : Fq G [] 109 #[y4, ii n] (fun v l1 nw => l1 = [] ∧ ∃ v', v = v' ∧ OwnS 5 1 v' 0 [] nw) := by
 by_cases h : n = 0
 ·exact zb8 n h
 ·exact zbv n (by omega) hm
theorem z1N (v : Value) (vs : List Value) (ls : List (LN)) (hv : Shows G 1 v vs.length vs) (hL : z0z G vs ls) (hn : vs.length ≤ 1099511627776) (hm : ls.flatten.length ≤ 1099511627776) : Fq G [] 67 #[v] (fun v l1 nw => l1 = [] ∧ ∃ v', v = v' ∧ OwnS 5 1 v' ls.flatten.length (ls.flatten.map by8) nw) := by
 have hvl := hL.1
 have hup := z85 ls
 refine QfN Tryz.func67 ?_
 refine (gd)<|(gd)<|(ge)<|(QC hv)<|(Qm)<|Qn<|Qb ?_
 refine QzK [(0, _), (2, _), (9, _), (10, _)] [] (fun kk E m => ∃ (i : Nat) (s : Nat), kk = vs.length - i ∧ E = [(3, ii s), (11, ii i)] ∧ m = [] ∧ (i ≤ vs.length) ∧ (s = (Ya ls i).length)) ⟨0, 0, rfl, rfl, rfl, by omega, rfl⟩ ⟨rfl, rfl, rfl, rfl, rfl, rfl, trivial⟩ trivial ?_
 rintro kk E m ⟨i, s, rfl, rfl, rfl, hf0_0, hf0_1⟩
 simp only [zo, zu]
 have hs1 := hup (i + 1)
 have hs2 : i < ls.length → (Ya ls (i + 1)).length = (Ya ls i).length + (ls.getD i []).length := fun h => by rw [wi h, List.length_append]
 refine (gq) ?_
 refine (Qcd) (fun hc0=>?_) fun hc0=>?_
 ·have hc0 : i < vs.length := by omega
  refine Qk<|Qs<|Qb<|(g4) ?_
  refine yf hv (Uu 154) (Uz 22) rfl rfl (by omega) rfl ?_
  refine (QS) ?_
  refine zR hv za (Uu 22) rfl rfl (xA (by omega)) rfl ?_
  refine (go)<|(Qm)<|(QC (hL.2 i (by omega))) ?_
  refine zY rfl rfl rfl (by have := hs2 (by omega); omega) ?_
  refine (go)<|(Ql)<|(gw)<|(gk) ?_
  refine QzL ⟨i + 1, _, rfl, rfl, rfl, by omega, (by rw [wi (by omega), List.length_append, hf0_1])⟩ ⟨rfl, rfl, rfl, rfl, rfl, rfl, trivial⟩ trivial ?_
  omega
 ·have hz0 : i = vs.length := by omega
  refine Qe<|Qs<|QR ⟨[], 4, [], none, none⟩<|(Qm) ?_
  refine zI 0 (fun v => v) rfl rfl (Un 109) za (zgN s (by have := hup i; omega)) (by decide) rfl rfl rfl fun v2_1 oz2_1 ho2_1 => ?_
  refine (g3)<|(ge)<|(QC hv)<|(Qm)<|Qn<|Qb ?_
  refine QzK [(0, _), (2, _), (3, _), (9, _), (10, _), (11, _), (25, _), (26, _)] [] (fun kk E m => ∃ (j : Nat) (w : Value) (oz : Option Blk), kk = vs.length - j ∧ E = [(6, w), (27, ii j)] ∧ m = [(0, oz)] ∧ (j ≤ vs.length) ∧ (OwnS 5 1 w (Ya ls j).length ((Ya ls j).map by8) (Option.toList oz))) ⟨0, v2_1, oz2_1, rfl, rfl, rfl, by omega, ho2_1⟩ ⟨rfl, rfl, rfl, rfl, rfl, rfl, rfl, rfl, rfl, rfl, trivial⟩ ⟨rfl, trivial⟩ ?_
  rintro kk E m ⟨j, w, oz, rfl, rfl, rfl, hf1_0, hf1_1⟩
  simp only [zo, zu]
  have hs3 := hup (j + 1)
  have hs4 : j < ls.length → (Ya ls (j + 1)).length = (Ya ls j).length + (ls.getD j []).length := fun h => by rw [wi h, List.length_append]
  refine (gq) ?_
  refine (Qcd) (fun hc2=>?_) fun hc2=>?_
  ·have hc2 : j < vs.length := by omega
   refine Qk<|Qs<|Qb<|(g4) ?_
   refine yf hv (Uu 154) (Uz 22) rfl rfl (by omega) rfl ?_
   refine (QS) ?_
   refine zR hv za (Uu 22) rfl rfl (xA (by omega)) rfl ?_
   refine (g3)<|Qp<|(gb) ?_
   refine yQ 0 hf1_1 (hL.2 j (by omega)) rfl za (Uu 22) (Uz 5) (Uy 5) (Ub 5) (by rfl) rfl rfl W0 (by have := hs4 (by omega); simp only [maxLen]; omega) (by have := hs4 (by omega); omega) rfl fun v3_2 oz3_2 ho3_2 => ?_
   refine (jb) ?_
   refine QzL ⟨j + 1, _, _, rfl, rfl, rfl, by omega, (zw ho3_2 (by rw [wi (by omega), List.length_append]) (by rw [wi (by omega), List.map_append]))⟩ ⟨rfl, rfl, rfl, rfl, rfl, rfl, rfl, rfl, rfl, rfl, trivial⟩ ⟨rfl, trivial⟩ ?_
   omega
  ·have hz1 : j = vs.length := by omega
   refine Qe<|(g6)<|(gt) ?_
   exact ⟨_, _, _, 0, rfl, yt, (zw hf1_1 (by rw [hz1, hvl, XM]) (by rw [hz1, hvl, XM])), rfl⟩
theorem z4n (n : Nat) : Fq G [] 242 #[ii n] (fun v l1 nw => l1 = [] ∧ ∃ v', v = v' ∧ OwnS 5 1 v' ((16 - n % 16) % 16) ((zrs ((16 - n % 16) % 16)).map by8) nw) := by
 refine QfN Tryz.func242 ?_
 refine (gd)<|(g6)<|(Q4 16) ?_
 refine yP (p := 16) rfl rfl rfl (by omega) (by omega) ?_
 refine (Q4 16) ?_
 refine z3k 0 (Uu 22) (Uz 5) (Uy 5) (Ub 5) rfl rfl rfl (by omega) (by omega) rfl fun r1 => ?_
 refine (gt) ?_
 exact ⟨_, _, _, 0, rfl, yt, (XH (wC _) (by simp only [maxLen]; omega) (fun j hj => zfX hj)), rfl⟩
theorem z21 (n : Nat) : Fq G [] 243 #[ii n] (fun v l1 nw => l1 = [] ∧ ∃ v', v = v' ∧ OwnS 5 1 v' 8 ((xR n 8).map by8) nw) := by
 refine QfN Tryz.func243 ?_
 refine (gd)<|(g4) ?_
 refine z3k 0 (l := 8) (Uu 22) (Uz 5) (Uy 5) (Ub 5) rfl rfl rfl (by omega) (by omega) rfl fun r1 => ?_
 refine (g3)<|(ge) ?_
 refine z92 (Uu 22) rfl rfl rfl ?_
 refine (Qm)<|Qn<|Qb ?_
 refine QzK [(0, _), (2, _), (3, _), (7, _)] [] (fun kk E m => ∃ (i : Nat) (s : Nat → Nat), kk = 8 - i ∧ E = [(8, ii i)] ∧ m = [(0, some ⟨r1, arr .u8 8 s, 5⟩)] ∧ (i ≤ 8) ∧ (∀ t, t < i → s t = (xR n 8).getD t 0)) ⟨0, fun _ => 0, rfl, rfl, rfl, by omega, fun t ht => absurd ht (Nat.not_lt_zero t)⟩ ⟨rfl, rfl, rfl, rfl, rfl, trivial⟩ ⟨rfl, trivial⟩ ?_
 rintro kk E m ⟨i, s, rfl, rfl, rfl, hf0_0, hf0_1⟩
 simp only [zo, zu]
 refine (gq) ?_
 refine (Qcd) (fun hc0=>?_) fun hc0=>?_
 ·have hc0 : i < 8 := by omega
  refine (jq)<|(g3)<|Qp<|(gb)<|(gb)<|(Q7 8) ?_
  refine z2V rfl rfl rfl (by omega) ?_
  refine x8 (Uu 3) (Uu 5) rfl rfl rfl ?_
  refine z3e (i) (Uu 22) (Uz 5) rfl rfl (by omega) (by omega) rfl ?_
  refine (Qu 0)<|(jc) ?_
  refine QzL ⟨i + 1, upd s i _, rfl, rfl, rfl, by omega, yM hf0_1 (zka n (by omega))⟩ ⟨rfl, rfl, rfl, rfl, rfl, trivial⟩ ⟨rfl, trivial⟩ ?_
  omega
 ·have hz0 : i = 8 := by omega
  subst hz0
  refine Qe<|(g6)<|(gt) ?_
  exact ⟨_, _, _, 0, rfl, yt, (XH (zL n 8) (by decide) hf0_1), rfl⟩
theorem Wc (x s : Nat) (hs : s < 32) : Fp G 206 #[uw x, ii s] (uw (wl x s)) := by
 refine Qf1 Tryz.func206 ?_
 refine (gd)<|(g6) ?_
 refine xz (Uu 3) (Uu 158) rfl rfl rfl ?_
 refine (Au (Nat.mod_eq_of_lt (show s < 18446744073709551616 by omega)))<|(Q9 31) ?_
 refine (Au (zky hs))<|(go)<|(Qm) ?_
 refine vw rfl rfl rfl (by omega) ?_
 refine (gb) ?_
 refine xV (p := 32) rfl rfl rfl (by omega) ?_
 refine (Au (show (32 + 18446744073709551616 - s) % 18446744073709551616 = 32 - s by omega)) ?_
 refine vX rfl rfl rfl (by omega) ?_
 refine Y0 rfl rfl rfl  ?_
 refine (gt) ?_
 exact ⟨_, rfl, yt⟩
theorem z1g (f : NN) (r a b c d : Nat) (ha : a < 16) (hb : b < 16) (hc : c < 16) (hd : d < 16) : Fq G [⟨r, arr .u32 16 f, 290⟩] 250 #[ii a, ii b, ii c, ii d, ptr r] (fun v l1 nw => v = .tuple #[] ∧ l1 = [⟨r, arr .u32 16 (qst f a b c d), 290⟩] ∧ nw = []) := by
 refine QfW Tryz.func250 ?_
 refine (gr)<|(Qm)<|(gv)<|(Qm)<|(gv)<|(Qaw)<|(ji)<|(jf)<|(gb)<|(gv)<|(Qm)<|(gv)<|(Qxw) ?_
 refine z9 rfl (Un 206) (Wc _ _ (by decide)) rfl rfl ?_
 refine (ji)<|(jf)<|(Qm)<|(gv)<|(Qm)<|(gv)<|(Qaw)<|(ji)<|(jf)<|(gb)<|(gv)<|(Qm)<|(gv)<|(Qxw) ?_
 refine z9 rfl (Un 206) (Wc _ _ (by decide)) rfl rfl ?_
 refine (ji)<|(jf)<|(Qm)<|(gv)<|(Qm)<|(gv)<|(Qaw)<|(ji)<|(jf)<|(gb)<|(gv)<|(Qm)<|(gv)<|(Qxw) ?_
 refine z9 rfl (Un 206) (Wc _ _ (by decide)) rfl rfl ?_
 refine (ji)<|(jf)<|(Qm)<|(gv)<|(Qm)<|(gv)<|(Qaw)<|(ji)<|Qn<|(Qg)<|(gb)<|(gv)<|(Qm)<|(gv)<|(Qxw) ?_
 refine z9 rfl (Un 206) (Wc _ _ (by decide)) rfl rfl ?_
 refine (ji)<|Qn ?_
 exact ⟨rfl, 0, rfl⟩
theorem zc2 (f : NN) : Fp G 238 #[.agg (arr .u32 16 f)] (.agg (arr .u32 16 (Vw f 10))) := by
 refine Qf1 Tryz.func238 ?_
 refine (g4)<|(Qh 0) fun r1=>(QH 1) fun r2=>(gl)<|(QY)<|(g3)<|(jg) ?_
 refine Qz (fun kk E m => ∃ (n : Nat), kk = 10 - n ∧ E = [(1, ptr r1), (2, ptr r2), (3, .func (.func 250) #[] #[ptr r1]), (7, ii n)] ∧ m = [(0, some ⟨r1, arr .u32 16 (zbB f n), 290⟩), (1, some ⟨r2, arr .u32 16 (fun _ => 0), 290⟩)] ∧ (n ≤ 10)) ⟨0, rfl, rfl, rfl, by omega⟩ ⟨rfl, rfl, rfl, rfl, trivial⟩ ⟨rfl, rfl, trivial⟩ ?_
 rintro kk E m ⟨n, rfl, rfl, rfl, hf0_0⟩
 refine (gq) ?_
 refine (Qcd) (fun hc0=>?_) fun hc0=>?_
 ·refine Qk<|Qs<|Qb<|Qs<|Qs<|Qp<|(Qm)<|Qn<|Qb ?_
  refine Qz (fun kk E m => ∃ (i : Nat), kk = 4 - i ∧ E = [(1, ptr r1), (2, ptr r2), (3, .func (.func 250) #[] #[ptr r1]), (7, ii n), (9, ii i)] ∧ m = [(0, some ⟨r1, arr .u32 16 (zaZ (zbB f n) i), 290⟩), (1, some ⟨r2, arr .u32 16 (fun _ => 0), 290⟩)] ∧ (i ≤ 4)) ⟨0, rfl, rfl, rfl, by omega⟩ ⟨rfl, rfl, rfl, rfl, rfl, trivial⟩ ⟨rfl, rfl, trivial⟩ ?_
  rintro kk E m ⟨i, rfl, rfl, rfl, hf1_0⟩
  refine (gq) ?_
  refine (Qcd) (fun hc1=>?_) fun hc1=>?_
  ·refine Qk<|Qs<|Qb<|Qs<|Qp<|(Qm)<|(Qa)<|Qn<|QR ⟨[], 5, [], none, none⟩<|(Qm)<|(Qm)<|(Qm) ?_
   refine zY (p := 4) rfl rfl rfl (by omega) ?_
   refine (Qm) ?_
   refine zY (p := 8) rfl rfl rfl (by omega) ?_
   refine (Qm) ?_
   refine zY (p := 12) rfl rfl rfl (by omega) ?_
   refine VR 0 rfl rfl (Un 250) rfl (by simp) (z1g (G := []) _ r1 i (4 + i) (8 + i) (12 + i) (by omega) (by omega) (by omega) (by omega)) rfl rfl ?_
   refine (jc) ?_
   refine Qzr ⟨i + 1, rfl, rfl, rfl, by omega⟩ ⟨rfl, rfl, rfl, rfl, rfl, trivial⟩ ⟨rfl, rfl, trivial⟩ ?_
   omega
  ·have hz1 : i = 4 := by omega
   subst hz1
   refine Qe<|(g6)<|Qn<|Qb ?_
   refine Qz (fun kk E m => ∃ (j : Nat), kk = 4 - j ∧ E = [(1, ptr r1), (2, ptr r2), (3, .func (.func 250) #[] #[ptr r1]), (7, ii n), (22, ii j)] ∧ m = [(0, some ⟨r1, arr .u32 16 (zcl (zaZ (zbB f n) 4) j), 290⟩), (1, some ⟨r2, arr .u32 16 (fun _ => 0), 290⟩)] ∧ (j ≤ 4)) ⟨0, rfl, rfl, rfl, by omega⟩ ⟨rfl, rfl, rfl, rfl, rfl, trivial⟩ ⟨rfl, rfl, trivial⟩ ?_
   rintro kk E m ⟨j, rfl, rfl, rfl, hf2_0⟩
   refine (gq) ?_
   refine (Qcd) (fun hc2=>?_) fun hc2=>?_
   ·refine Qk<|Qs<|Qb<|Qs<|Qp<|(Qm)<|(Qa)<|Qn<|QR ⟨[], 5, [], none, none⟩<|(Qm)<|(Qm)<|(Qm)<|(Q2 1)<|(Q4 4) ?_
    refine zY (p := 4) rfl rfl rfl (by omega) ?_
    refine (Qm)<|(Q2 2)<|(Q4 4) ?_
    refine zY (p := 8) rfl rfl rfl (by omega) ?_
    refine (Qm)<|(Q2 3)<|(Q4 4) ?_
    refine zY (p := 12) rfl rfl rfl (by omega) ?_
    refine VR 0 rfl rfl (Un 250) rfl (by simp) (z1g (G := []) _ r1 j (4 + (j + 1) % 4) (8 + (j + 2) % 4) (12 + (j + 3) % 4) (by omega) (by omega) (by omega) (by omega)) rfl rfl ?_
    refine (jc) ?_
    refine Qzr ⟨j + 1, rfl, rfl, rfl, by omega⟩ ⟨rfl, rfl, rfl, rfl, rfl, trivial⟩ ⟨rfl, rfl, trivial⟩ ?_
    omega
   ·have hz2 : j = 4 := by omega
    subst hz2
    refine Qe<|(gk) ?_
    refine Qzr ⟨n + 1, rfl, rfl, rfl, by omega⟩ ⟨rfl, rfl, rfl, rfl, trivial⟩ ⟨rfl, rfl, trivial⟩ ?_
    omega
 ·have hz0 : n = 10 := by omega
  subst hz0
  refine (jn)<|(Qd 0)<|(ja)<|Qr ?_
  rw [← zg (k := .u32) (n := 16) (z27 f 10)]
  exact ⟨_, rfl, ya 1⟩
theorem zeJ (k : NN) (c : Nat) (nn : NN) (hk : L8 32 k) (hn : L8 12 nn) (hc : c < 4294967296) : Fp G 237 #[.agg (arr .u8 32 k), uw c, .agg (arr .u8 12 nn)] (.agg (arr .u32 16 (wrd (WP k c nn)))) := by
 refine Qf1 Tryz.func237 ?_
 refine (g4)<|(Qh 0) fun r1=>(Qh 1) fun r2=>(QH 2) fun r3=>Qn<|(g6) ?_
 refine zX (arr .u32 16 (fun t => if t = 0 then 1634760805 else if t = 1 then 857760878 else if t = 2 then 2036477234 else if t = 3 then 1797285236 else if t = 12 then c else 0)) (Ub 290 rfl) (Uu 290 rfl) (Uz 109 rfl) rfl (by kernel_rfl) rfl ?_
 refine (QH 3) fun r4=>(Qt 3)<|Qn<|(gs)<|(Qd 0)<|(Qm)<|Qn<|Qb ?_
 refine Qz (fun kk E m => ∃ (i : Nat) (s : Nat → Nat), kk = 32 - i ∧ E = [(3, ptr r1), (5, ptr r2), (6, ptr r3), (7, ptr r4), (14, .agg (arr .u8 32 k)), (15, ii i)] ∧ m = [(0, some ⟨r1, arr .u8 32 k, 30⟩), (1, some ⟨r2, arr .u8 12 nn, 146⟩), (2, some ⟨r3, arr .u32 16 (fun _ => 0), 290⟩), (3, some ⟨r4, arr .u32 16 s, 290⟩)] ∧ (i ≤ 32) ∧ (∀ t, t < 16 → s t = stw k c nn i 0 t)) ⟨0, (fun t => if t = 0 then 1634760805 else if t = 1 then 857760878 else if t = 2 then 2036477234 else if t = 3 then 1797285236 else if t = 12 then c else 0), rfl, rfl, rfl, by omega, zad k c nn⟩ ⟨rfl, rfl, rfl, rfl, rfl, rfl, trivial⟩ ⟨rfl, rfl, rfl, rfl, trivial⟩ ?_
 rintro kk E m ⟨i, s, rfl, rfl, rfl, hf0_0, hf0_1⟩
 refine (gq) ?_
 refine (Qcd) (fun hc0=>?_) fun hc0=>?_
 ·refine Qk<|Qs<|Qb<|Qs<|Qp<|(Qm)<|(QX)<|(Qa)<|(Qa)<|Qn<|(Qg)<|(Qm)<|(Q5 4) ?_
  refine zY (p := 4) rfl rfl rfl (by omega) ?_
  refine (Qi)<|(jl)<|(Qcw) ?_
  refine z6 (congrArg uw (Nat.mod_eq_of_lt (Nat.lt_trans (hk i (by omega)) (by decide)))) ?_
  refine (Qm)<|(Q4 4)<|(Q6 8) ?_
  refine vw rfl rfl rfl (by omega) ?_
  refine Y0 rfl rfl rfl  ?_
  refine (Qi)<|(Qu 3)<|(jc) ?_
  refine Qzr ⟨i + 1, upd s (4 + i / 4) _, rfl, rfl, rfl, by omega, zhE hk (by omega) hf0_1⟩ ⟨rfl, rfl, rfl, rfl, rfl, rfl, trivial⟩ ⟨rfl, rfl, rfl, rfl, trivial⟩ ?_
  omega
 ·have hz0 : i = 32 := by omega
  subst hz0
  refine Qe<|(gs)<|(Qd 1)<|(Qm)<|Qn<|Qb ?_
  refine Qz (fun kk E m => ∃ (q : Nat) (s2 : Nat → Nat), kk = 12 - q ∧ E = [(3, ptr r1), (5, ptr r2), (6, ptr r3), (7, ptr r4), (33, .agg (arr .u8 12 nn)), (34, ii q)] ∧ m = [(0, some ⟨r1, arr .u8 32 k, 30⟩), (1, some ⟨r2, arr .u8 12 nn, 146⟩), (2, some ⟨r3, arr .u32 16 (fun _ => 0), 290⟩), (3, some ⟨r4, arr .u32 16 s2, 290⟩)] ∧ (q ≤ 12) ∧ (∀ t, t < 16 → s2 t = stw k c nn 32 q t)) ⟨0, s, rfl, rfl, rfl, by omega, hf0_1⟩ ⟨rfl, rfl, rfl, rfl, rfl, rfl, trivial⟩ ⟨rfl, rfl, rfl, rfl, trivial⟩ ?_
  rintro kk E m ⟨q, s2, rfl, rfl, rfl, hf1_0, hf1_1⟩
  refine (gq) ?_
  refine (Qcd) (fun hc1=>?_) fun hc1=>?_
  ·refine Qk<|Qs<|Qb<|Qs<|Qp<|(Qm)<|(QX)<|(Qa)<|(Qa)<|Qn<|(Qg)<|(Qm)<|(Q5 4) ?_
   refine zY (p := 13) rfl rfl rfl (by omega) ?_
   refine (Qi)<|(jl)<|(Qcw) ?_
   refine z6 (congrArg uw (Nat.mod_eq_of_lt (Nat.lt_trans (hn q (by omega)) (by decide)))) ?_
   refine (Qm)<|(Q4 4)<|(Q6 8) ?_
   refine vw rfl rfl rfl (by omega) ?_
   refine Y0 rfl rfl rfl  ?_
   refine (Qi)<|(Qu 3)<|(jc) ?_
   refine Qzr ⟨q + 1, upd s2 (13 + q / 4) _, rfl, rfl, rfl, by omega, zbL hn (by omega) hf1_1⟩ ⟨rfl, rfl, rfl, rfl, rfl, rfl, trivial⟩ ⟨rfl, rfl, rfl, rfl, trivial⟩ ?_
   omega
  ·have hz1 : q = 12 := by omega
   subst hz1
   refine (jn)<|(Qd 3)<|(Qt 2)<|Qn<|Qr ?_
   rw [← zg (k := .u32) (n := 16) (zhH k nn hc), ← zg (k := .u32) (n := 16) hf1_1]
   exact ⟨_, rfl, ya 2⟩
theorem z5T (k : NN) (c : Nat) (nn : NN) (hk : L8 32 k) (hn : L8 12 nn) (hc : c < 4294967296) : Fp G 224 #[.agg (arr .u8 32 k), uw c, .agg (arr .u8 12 nn)] (.agg (arr .u8 64 (Yi k c nn))) := by
 obtain ⟨w, hw⟩ : ∃ w, w = wrd (WP k c nn) := ⟨_, rfl⟩
 obtain ⟨v, hv⟩ : ∃ v, v = Vw (wrd (WP k c nn)) 10 := ⟨_, rfl⟩
 refine Qf1 Tryz.func224 ?_
 refine (g4)<|(Qh 0) fun r1=>(Qh 1) fun r2=>(QH 2) fun r3=>(gl)<|(Qd 0)<|(Qm)<|(Qd 1) ?_
 refine (Ca (zeJ k c nn hk hn hc)) ?_
 refine z6 (congrArg (fun f => Value.agg (arr .u32 16 f)) hw.symm) ?_
 refine (QH 3) fun r4=>(Qt 3)<|(gl)<|(Qd 3) ?_
 refine (Ca (zc2 w)) ?_
 refine z6 (congrArg (fun f => Value.agg (arr .u32 16 f)) (show Vw w 10 = v by rw [hv, hw])) ?_
 refine (QH 4) fun r5=>(Qt 4)<|(gl)<|(QH 5) fun r6=>Qn<|(jg) ?_
 refine Qz (fun kk E m => ∃ (i : Nat) (s : Nat → Nat), kk = 64 - i ∧ E = [(6, ptr r3), (7, ptr r4), (8, ptr r5), (9, ptr r6), (17, ii i)] ∧ m = [(0, some ⟨r1, arr .u8 32 k, 30⟩), (1, some ⟨r2, arr .u8 12 nn, 146⟩), (2, some ⟨r3, arr .u8 64 (fun _ => 0), 111⟩), (3, some ⟨r4, arr .u32 16 w, 290⟩), (4, some ⟨r5, arr .u32 16 v, 290⟩), (5, some ⟨r6, arr .u8 64 s, 111⟩)] ∧ (i ≤ 64) ∧ (∀ t, t < i → s t = Yi k c nn t)) ⟨0, fun _ => 0, rfl, rfl, rfl, by omega, fun t ht => absurd ht (Nat.not_lt_zero t)⟩ ⟨rfl, rfl, rfl, rfl, rfl, trivial⟩ ⟨rfl, rfl, rfl, rfl, rfl, rfl, trivial⟩ ?_
 rintro kk E m ⟨i, s, rfl, rfl, rfl, hf0_0, hf0_1⟩
 refine (gq) ?_
 refine (Qcd) (fun hc0=>?_) fun hc0=>?_
 ·refine Qk<|Qs<|Qb<|Qs<|Qp<|(Qm)<|(Qa)<|Qn<|(Qg)<|(Qm)<|(Qm)<|(Q5 4)<|(Qi)<|(Q1 4)<|(Qm)<|(Q5 4)<|(Qi)<|(Q1 3) ?_
  refine (Qaw)<|(Qm)<|(Q4 4)<|(Q6 8) ?_
  refine vX rfl rfl rfl (by omega) ?_
  refine x8 (Uu 109) (Uu 5) rfl rfl rfl ?_
  refine (Qi)<|(Qu 5)<|(jc) ?_
  refine Qzr ⟨i + 1, upd s i _, rfl, rfl, rfl, by omega, yM hf0_1 (ziM k c nn hv hw (by omega))⟩ ⟨rfl, rfl, rfl, rfl, rfl, trivial⟩ ⟨rfl, rfl, rfl, rfl, rfl, rfl, trivial⟩ ?_
  omega
 ·have hz0 : i = 64 := by omega
  subst hz0
  refine (jn)<|(Qd 5)<|(Qt 2)<|Qn<|Qr ?_
  rw [← zg (k := .u8) (n := 64) hf0_1]
  exact ⟨_, rfl, ya 2⟩
theorem zbl (n : Nat) (hn : n < 9223372036854775808) : Fp G 236 #[ii n] (u ((n + 63) / 64)) := by
 refine Qf1 Tryz.func236 ?_
 refine (gd)<|(g6) ?_
 refine xz (Uu 3) (Uu 31) rfl rfl rfl ?_
 refine (Au (Nat.mod_eq_of_lt (show n < 18446744073709551616 by omega))) ?_
 refine wR (q := 63) rfl rfl rfl  ?_
 refine (Au (Nat.mod_eq_of_lt (show n + 63 < 18446744073709551616 by omega))) ?_
 refine YL (q := 64) rfl rfl rfl (by omega) (by omega) ?_
 refine (gt) ?_
 exact ⟨_, rfl, yt⟩
theorem zbm (k : NN) (c : Nat) (nn : NN) (v : Value) (l : LN) (hv : Sh G v l) (hk : L8 32 k) (hn : L8 12 nn) (hc : c < 4294967296) (hl : l.length ≤ 1600) (ho : ¬ 64 * (4294967296 - c) < l.length) : Fq G [] 223 #[.agg (arr .u8 32 k), uw c, .agg (arr .u8 12 nn), v] (fun v l1 nw => l1 = [] ∧ ∃ v', v = .tuple #[v', ii 0] ∧ OwnS 5 1 v' (l.length - 0) ((Zc k c nn l 0).map by8) nw) := by
 refine QfM Tryz.func223 ?_
 refine (g4)<|(Qh 0) fun r1=>(Qh 1) fun r2=>(j3)<|(QC hv)<|(QG)<|(gw)<|(ge) ?_
 refine xz (Uu 109) (Uu 31) rfl rfl rfl ?_
 refine (Au (Nat.mod_eq_of_lt (show c < 18446744073709551616 by omega)))<|(Qm)<|(QC hv) ?_
 refine z9 rfl (Un 236) (zbl _ (by omega)) rfl rfl ?_
 refine (Qau) ?_
 refine (Au (Nat.mod_eq_of_lt (show c + (l.length + 63) / 64 < 18446744073709551616 by omega)))<|(QG)<|(gw)<|(g6)<|(QC hv) ?_
 refine z3k 2 (Uu 22) (Uz 5) (Uy 5) (Ub 5) rfl rfl rfl (by omega) (by omega) rfl fun r3 => ?_
 refine (j9)<|(QH 3) fun r4=>Qn<|(ge)<|(QC hv)<|(Qm)<|Qn<|Qb ?_
 refine Qz (fun kk E m => ∃ (i : Nat) (s : Nat → Nat) (p : Nat → Nat), kk = l.length - i ∧ E = [(1, uw c), (4, ptr r1), (6, ptr r2), (10, .slice (some ⟨r3, 0, none⟩) l.length l.length), (11, ptr r4), (27, v), (28, ii l.length), (29, ii i)] ∧ m = [(0, some ⟨r1, arr .u8 32 k, 30⟩), (1, some ⟨r2, arr .u8 12 nn, 146⟩), (2, some ⟨r3, arr .u8 l.length s, 5⟩), (3, some ⟨r4, arr .u8 64 p, 111⟩)] ∧ (i ≤ l.length) ∧ (∀ t, t < i → s t = z1B k c nn l t) ∧ (i % 64 ≠ 0 → ∀ t, t < 64 → p t = Yi k ((c + i / 64 % 4294967296) % 4294967296) nn t)) ⟨0, fun _ => 0, fun _ => 0, rfl, rfl, rfl, by omega, fun t ht => absurd ht (Nat.not_lt_zero t), fun h => absurd rfl h⟩ ⟨rfl, rfl, rfl, rfl, rfl, rfl, rfl, rfl, trivial⟩ ⟨rfl, rfl, rfl, rfl, trivial⟩ ?_
 rintro kk E m ⟨i, s, p, rfl, rfl, rfl, hf0_0, hf0_1, hf0_2⟩
 refine (gq) ?_
 refine (Qcd) (fun hc2=>?_) fun hc2=>?_
 ·refine Qk<|Qs<|Qb<|Qs<|Qp<|(Qm) ?_
  refine yf hv (Uu 22) (Uz 5) rfl rfl (by omega) rfl ?_
  refine (QS) ?_
  refine zR hv za (Uu 5) rfl rfl (z9p (show i < l.length by omega)) rfl ?_
  refine (j3)<|(Q4 64)<|(Qc)<|Qn ?_
  refine (Qcd) (fun hc3=>?_) fun hc3=>?_
  ·refine Qp<|(Qd 0)<|(Qm)<|(Qm)<|(Q5 64) ?_
   refine (Qcw)<|(Qaw)<|(Qd 1) ?_
   refine z9 rfl (Un 224) (z5T k _ nn hk hn (Nat.mod_lt _ (by decide))) rfl rfl ?_
   refine (Qt 3)<|Qn<|Qp<|(gb)<|(gb)<|(Q4 64)<|(Qi)<|(Q1 3) ?_
   refine vu rfl rfl rfl  ?_
   refine z3e (i) (Uu 22) (Uz 5) rfl rfl (by omega) (by omega) rfl ?_
   refine (Qu 2)<|(jc) ?_
   refine Qzr ⟨i + 1, upd s i _, _, rfl, rfl, rfl, by omega, yM hf0_1 (z8B k c nn _ l (by omega) (by first | rfl | exact hf0_2 (by omega) _ (by omega))), fun h t ht => by rw [show (i + 1) / 64 = i / 64 by omega] <;> exact hf0_2 (by omega) t ht⟩ ⟨rfl, rfl, rfl, rfl, rfl, rfl, rfl, rfl, trivial⟩ ⟨rfl, rfl, rfl, rfl, trivial⟩ ?_
   omega
  ·refine Qk<|Qp<|(Qm)<|(Qm)<|(Qm)<|(Qm)<|(Q4 64)<|(Qi)<|(Q1 3) ?_
   refine vu rfl rfl rfl  ?_
   refine z3e (i) (Uu 22) (Uz 5) rfl rfl (by omega) (by omega) rfl ?_
   refine (Qu 2)<|(jc) ?_
   refine Qzr ⟨i + 1, upd s i _, _, rfl, rfl, rfl, by omega, yM hf0_1 (z8B k c nn _ l (by omega) (by first | rfl | exact hf0_2 (by omega) _ (by omega))), fun h t ht => by rw [show (i + 1) / 64 = i / 64 by omega] <;> exact hf0_2 (by omega) t ht⟩ ⟨rfl, rfl, rfl, rfl, rfl, rfl, rfl, rfl, trivial⟩ ⟨rfl, rfl, rfl, rfl, trivial⟩ ?_
   omega
 ·have hz2 : i = l.length := by omega
  subst hz2
  refine Qe<|(g6)<|(gy) ?_
  exact ⟨_, _, _, _, 2, rfl, yt, yt, (zw (XH (wA k c nn l 0) (by simp only [maxLen]; omega) (fun j hj => (hf0_1 j (by omega)).trans (zgt k c nn l (by omega)).symm)) rfl rfl), rfl⟩
theorem Wv : Fp G 261 #[] (f3 QQ) := by
 refine Qf1 Tryz.func261 ?_
 refine (g4)<|(QH 0) fun r1=>(gl) ?_
 refine zX (arr .u64 3 (wd QQ)) (Ub 310 rfl) (Uu 310 rfl) (Uz 31 rfl) rfl (by kernel_rfl) rfl ?_
 refine (Qt 0)<|Qn<|Qr ?_
 exact ⟨_, rfl, ya 0⟩
theorem z1f (f : NN) (hf : L8 16 f) : Fp G 253 #[.agg (arr .u8 16 f)] (f2 (vb f 16)) := by
 refine Qf1 Tryz.func253 ?_
 refine (g4)<|(Qh 0) fun r1=>(QH 1) fun r2=>(gl)<|(QH 2) fun r3=>Qn<|(gs)<|(Qd 0)<|(Qm)<|Qn<|Qb ?_
 refine QzK [(2, _), (3, _), (6, _)] [(0, _), (1, _)] (fun kk E m => ∃ (k : Nat) (s : Nat → Nat), kk = 16 - k ∧ E = [(7, ii k)] ∧ m = [(2, some ⟨r3, arr .u64 2 s, 244⟩)] ∧ (k ≤ 16) ∧ (∀ j, j < 4 → s j = wd (vb f k) j)) ⟨0, fun _ => 0, rfl, rfl, rfl, by omega, fun j _ => by simp [vb, wd]⟩ ⟨rfl, rfl, rfl, rfl, trivial⟩ ⟨rfl, rfl, rfl, trivial⟩ ?_
 rintro kk E m ⟨k, s, rfl, rfl, rfl, hf0_0, hf0_1⟩
 simp only [zo, zu]
 refine (gq) ?_
 refine (Qcd) (fun hc0=>?_) fun hc0=>?_
 ·have hc0 : k < 16 := by omega
  refine (jq)<|(QX)<|(g8)<|(Qg)<|(Qm)<|(Q5 8)<|(Qi)<|(Q1 2)<|(Qm) ?_
  refine xz (Uu 5) (Uu 31) rfl rfl rfl ?_
  refine (Qm)<|(Q4 8)<|(Q6 8) ?_
  refine w7 rfl rfl rfl (by omega) ?_
  refine v4 rfl rfl rfl  ?_
  refine (Qi)<|(Qu 2)<|(jc) ?_
  refine QzL ⟨k + 1, upd s (k / 8) _, rfl, rfl, rfl, by omega, zbE (by omega) hf hf0_1⟩ ⟨rfl, rfl, rfl, rfl, trivial⟩ ⟨rfl, rfl, rfl, trivial⟩ ?_
  omega
 ·have hz0 : k = 16 := by omega
  subst hz0
  refine (jn)<|(Qd 2)<|(ja)<|Qr ?_
  rw [zij (fun j hj => hf0_1 j (by omega))]
  exact ⟨_, rfl, ya 1⟩
theorem we (r : NN) : Fp G 254 #[.agg (arr .u64 2 r)] (.agg (arr .u64 2 (clf r))) := by
 refine Qf1 Tryz.func254 ?_
 refine (g4)<|(Qh 0) fun r1=>(QH 1) fun r2=>(gl)<|(Qj 0)<|(Q1 0)<|(Q9 1152921487695413247)<|(Qj 1)<|(Q1 0)<|(Q9 1152921487695413244) ?_
 refine zX (arr .u64 2 (clf r)) (Ub 244 rfl) (Uu 244 rfl) (Uz 31 rfl) rfl rfl rfl ?_
 refine (ja)<|Qr ?_
 exact ⟨_, rfl, ya 1⟩
theorem z0J (a b : Nat) : Fp G 259 #[f3 a, f3 b] (f3 (a + b)) := by
 refine Qf1 Tryz.func259 ?_
 refine (g4)<|(Qh 0) fun r1=>(Qh 1) fun r2=>(QH 2) fun r3=>(gl)<|(QH 3) fun r4=>Qn<|(gd)<|(jg) ?_
 refine QzK [(2, _), (3, _), (4, _), (5, _)] [(0, _), (1, _), (2, _)] (fun kk E m => ∃ (k : Nat) (s : Nat → Nat), kk = 3 - k ∧ E = [(6, u (car a b k)), (8, ii k)] ∧ m = [(3, some ⟨r4, arr .u64 3 s, 310⟩)] ∧ (k ≤ 3) ∧ (∀ j, j < k → s j = wd (a + b) j)) ⟨0, fun _ => 0, rfl, rfl, rfl, by omega, fun j hj => absurd hj (Nat.not_lt_zero j)⟩ ⟨by rw [z5K]; rfl, rfl, rfl, rfl, rfl, rfl, trivial⟩ ⟨rfl, rfl, rfl, rfl, trivial⟩ ?_
 rintro kk E m ⟨k, s, rfl, rfl, rfl, hf0_0, hf0_1⟩
 simp only [zo, zu]
 have hcl := zdr a b k
 refine (gq) ?_
 refine (Qcd) (fun hc0=>?_) fun hc0=>?_
 ·have hc0 : k < 3 := by omega
  refine (jq)<|(g3)<|(Qq ⟨[r4], 1, [], none, none⟩)<|(gb)<|(Qi) ?_
  refine y6 (i := 0) (Uu 31) rfl rfl rfl (zP (by omega)) rfl ⟨[3], rfl, rfl, trivial⟩ ?_
  refine (Qm)<|(Qi) ?_
  refine y6 (i := 1) (Uu 31) rfl rfl rfl (zP (by omega)) rfl ⟨[3], rfl, rfl, trivial⟩ ?_
  refine (Qm) ?_
  refine Z7 rfl (fun w => z2r _ _ _ (by omega) w) rfl rfl ?_
  refine (gi)<|(Qi) ?_
  refine xU (i := 3) (Uz 31) rfl rfl rfl (by omega) (.inr (by simp)) ?_
  refine (jb) ?_
  refine QzL ⟨k + 1, upd s k _, rfl, rfl, rfl, by omega, yM hf0_1 (VZ a b k)⟩ ⟨by rw [← z59]; rfl, rfl, rfl, rfl, rfl, rfl, trivial⟩ ⟨rfl, rfl, rfl, rfl, trivial⟩ ?_
  omega
 ·have hz0 : k = 3 := by omega
  subst hz0
  refine (jn)<|(Qd 3)<|(Qt 2)<|Qn<|Qr ?_
  rw [Yf hf0_1]
  exact ⟨_, rfl, ya 2⟩
theorem z1K (a b : Nat) (ha : a < 2 ^ 192) (hb : b < 2 ^ 192) : Fp G 260 #[f3 a, f3 b] (.tuple #[f3 (a + 2 ^ 256 - b), u (if a < b then 1 else 0)]) := by
 have hfin : bor a b 3 = if a < b then 1 else 0 := by
  unfold bor
  rw [Nat.mod_eq_of_lt (show a < 2 ^ (64 * 3) from ha), Nat.mod_eq_of_lt (show b < 2 ^ (64 * 3) from hb)]
 refine Qf2 Tryz.func260 ?_
 refine (g4)<|(Qh 0) fun r1=>(Qh 1) fun r2=>(QH 2) fun r3=>(j9)<|(QH 3) fun r4=>Qn<|(gd)<|(jg) ?_
 refine QzK [(2, _), (3, _), (4, _), (5, _), (6, _)] [(0, _), (1, _), (2, _)] (fun kk E m => ∃ (k : Nat) (s : Nat → Nat), kk = 3 - k ∧ E = [(7, u (bor a b k)), (9, ii k)] ∧ m = [(3, some ⟨r4, arr .u64 3 s, 310⟩)] ∧ (k ≤ 3) ∧ (∀ j, j < k → s j = wd (a + 2 ^ 256 - b) j)) ⟨0, fun _ => 0, rfl, rfl, rfl, by omega, fun j hj => absurd hj (Nat.not_lt_zero j)⟩ ⟨by rw [z5d]; rfl, rfl, rfl, rfl, rfl, rfl, rfl, trivial⟩ ⟨rfl, rfl, rfl, rfl, trivial⟩ ?_
 rintro kk E m ⟨k, s, rfl, rfl, rfl, hf0_0, hf0_1⟩
 simp only [zo, zu]
 have hcl := z7c a b k
 have hwl := y7 b k
 refine (gq) ?_
 refine (Qcd) (fun hc0=>?_) fun hc0=>?_
 ·have hc0 : k < 3 := by omega
  refine (jq)<|(g3)<|(Qq ⟨[r4], 1, [], none, none⟩)<|(gb)<|(Qi) ?_
  refine y6 (i := 0) (Uu 31) rfl rfl rfl (zP (by omega)) rfl ⟨[3], rfl, rfl, trivial⟩ ?_
  refine (Qm)<|(Qi) ?_
  refine y6 (i := 1) (Uu 31) rfl rfl rfl (zP (by omega)) rfl ⟨[3], rfl, rfl, trivial⟩ ?_
  refine (Qm) ?_
  refine Z7 rfl (fun w => zir _ _ _ (by omega) (by omega) w) rfl rfl ?_
  refine (gi)<|(Qi) ?_
  refine xU (i := 3) (Uz 31) rfl rfl rfl (by omega) (.inr (by simp)) ?_
  refine (jb) ?_
  refine QzL ⟨k + 1, upd s k _, rfl, rfl, rfl, by omega, yM hf0_1 (z4O a b k (by omega) (by omega))⟩ ⟨by rw [← z61]; rfl, rfl, rfl, rfl, rfl, rfl, rfl, trivial⟩ ⟨rfl, rfl, rfl, rfl, trivial⟩ ?_
  omega
 ·have hz0 : k = 3 := by omega
  subst hz0
  refine (jn)<|(Qd 3)<|(Qm)<|(Qt 2)<|(gt) ?_
  rw [← hfin, Yf hf0_1]
  exact ⟨_, _, rfl, ya 2, yt⟩
theorem YX (a : Nat) (ha : a < 2 ^ 192) : Fp G 257 #[f3 a] (.bool (decide (a < QQ))) := by
 have hQQ := z1i
 refine Qf1 Tryz.func257 ?_
 refine (g4)<|(Qh 0) fun r1=>(g3)<|(gr)<|(Qd 0) ?_
 refine (Ca Wv) ?_
 refine z9 rfl (Un 260) (z1K _ _ (by omega) (by omega)) rfl rfl ?_
 refine (gi)<|(QH 1) fun r2=>(Qt 1)<|(go)<|(Qc) ?_
 refine z6 (z9k _ _) ?_
 refine (gt) ?_
 exact ⟨_, rfl, yt⟩
theorem zbc (a n : Nat) (hn : n ≤ 1) : Fp G 264 #[f3 a, u n] (f3 (a * n)) := by
 refine Qf1 Tryz.func264 ?_
 refine (g4)<|(Qh 0) fun r1=>(QH 1) fun r2=>Qn<|(jg) ?_
 refine QzK [(1, _), (2, _), (4, _)] [(1, _)] (fun kk E m => ∃ (k : Nat) (s : Nat → Nat), kk = 3 - k ∧ E = [(6, ii k)] ∧ m = [(0, some ⟨r1, arr .u64 3 s, 310⟩)] ∧ (k ≤ 3) ∧ (∀ j, j < k → s j = wd (a * n) j) ∧ (∀ j, k ≤ j → s j = wd a j)) ⟨0, wd a, rfl, rfl, rfl, by omega, fun j hj => absurd hj (Nat.not_lt_zero j), fun j _ => rfl⟩ ⟨rfl, rfl, rfl, rfl, trivial⟩ ⟨rfl, rfl, trivial⟩ ?_
 rintro kk E m ⟨k, s, rfl, rfl, rfl, hf0_0, hf0_1, hf0_2⟩
 simp only [zo, zu]
 refine (gq) ?_
 refine (Qcd) (fun hc0=>?_) fun hc0=>?_
 ·have hc0 : k < 3 := by omega
  refine (jq)<|(g3)<|(j0)<|(gv)<|(Qm) ?_
  refine z3I rfl rfl (by omega) ?_
  refine VO rfl rfl rfl  ?_
  refine (ji)<|(jc) ?_
  refine QzL ⟨k + 1, upd s k _, rfl, rfl, rfl, by omega, yM hf0_1 (by rw [hf0_2 k (Nat.le_refl k)]; exact z55 a n k hn), Xk hf0_2⟩ ⟨rfl, rfl, rfl, rfl, trivial⟩ ⟨rfl, rfl, trivial⟩ ?_
  omega
 ·have hz0 : k = 3 := by omega
  subst hz0
  refine (jn)<|(Qd 0)<|(ja)<|Qr ?_
  rw [Yf hf0_1]
  exact ⟨_, rfl, ya 1⟩
theorem z5A (a b c d : Nat) (ha : a < 18446744073709551616) (hb : b < 18446744073709551616) (hc : c < 18446744073709551616) (hd : d < 18446744073709551616) : Fp G 263 #[u a, u b, u c, u d] (.tuple #[u ((a * b + c + d) % 18446744073709551616), u ((a * b + c + d) / 18446744073709551616)]) := by
 have hp := z3o ha hb
 refine Qf2 Tryz.func263 ?_
 refine (g4)<|(g8)<|(g6)<|(Qm) ?_
 refine z9 rfl (Un 256) (z5r _ _ (by omega) (by omega)) rfl rfl ?_
 refine (gi)<|(g8)<|(g6)<|(Qm) ?_
 refine Z7 rfl (fun w => z2r _ _ 0 (by omega) w) rfl rfl ?_
 refine (gi)<|(g8)<|(g6)<|(Qm)<|(Qau)<|(go)<|(Qm) ?_
 refine Z7 rfl (fun w => z2r _ _ 0 (by omega) w) rfl rfl ?_
 refine (gi)<|(g8)<|(g6)<|(gb)<|(Qau)<|(gy) ?_
 rw [← z9c, ← z9x _ _ _ hp hc hd]
 exact ⟨_, _, rfl, yt, yt⟩
theorem zcd (a b : Nat) (ha : a < 2 ^ 192) (hb : b < 2 ^ 128) : Fp G 262 #[f3 a, f2 b] (.agg (arr .u64 5 (wd (a * b)))) := by
 refine Qf1 Tryz.func262 ?_
 refine (g4)<|(Qh 0) fun r1=>(Qh 1) fun r2=>(QH 2) fun r3=>(gl)<|(QH 3) fun r4=>Qn<|(jg) ?_
 refine QzK [(2, _), (3, _), (4, _), (5, _)] [(0, _), (1, _), (2, _)] (fun kk E m => ∃ (k : Nat) (s : Nat → Nat), kk = 3 - k ∧ E = [(9, ii k)] ∧ m = [(3, some ⟨r4, arr .u64 5 s, 294⟩)] ∧ (k ≤ 3) ∧ (∀ t, t < 5 → s t = wd (a % 2 ^ (64 * k) * b) t)) ⟨0, fun _ => 0, rfl, rfl, rfl, by omega, fun t _ => by simp [Nat.mod_one, wd]⟩ ⟨rfl, rfl, rfl, rfl, rfl, trivial⟩ ⟨rfl, rfl, rfl, rfl, trivial⟩ ?_
 rintro kk E m ⟨k, s, rfl, rfl, rfl, hf0_0, hf0_1⟩
 simp only [zo, zu]
 refine (gq) ?_
 refine (Qcd) (fun hc0=>?_) fun hc0=>?_
 ·have hc0 : k < 3 := by omega
  refine (jq)<|(g3)<|(gd)<|(jg) ?_
  refine QzK [(2, _), (3, _), (4, _), (5, _), (6, _), (9, _)] [(0, _), (1, _), (2, _)] (fun kk E m => ∃ (j : Nat) (s2 : Nat → Nat), kk = 2 - j ∧ E = [(7, u (wO a b k j)), (12, ii j)] ∧ m = [(3, some ⟨r4, arr .u64 5 s2, 294⟩)] ∧ (j ≤ 2) ∧ (∀ t, t < k + j → s2 t = wd (wS a b k j) t) ∧ (∀ t, k + j ≤ t → t < 5 → s2 t = wd (a % 2 ^ (64 * k) * b) t)) ⟨0, s, rfl, rfl, rfl, by omega, fun t ht => (hf0_1 t (by omega)).trans (z8s a b k t (by omega)).symm, fun t _ ht => hf0_1 t ht⟩ ⟨by rw [z3Q]; rfl, rfl, rfl, rfl, rfl, rfl, rfl, rfl, trivial⟩ ⟨rfl, rfl, rfl, rfl, trivial⟩ ?_
  rintro kk E m ⟨j, s2, rfl, rfl, rfl, hf1_0, hf1_1, hf1_2⟩
  simp only [zo, zu]
  have ha1 := y7 a k
  have hb1 := y7 b j
  have ho1 := ziD a b k j (by omega)
  have hs2 : j < 2 → s2 (k + j) = wd (a % 2 ^ (64 * k) * b) (k + j) := fun h => hf1_2 (k + j) (by omega) (by omega)
  refine (gq) ?_
  refine (Qcd) (fun hc1=>?_) fun hc1=>?_
  ·have hc1 : j < 2 := by omega
   refine (jq)<|(g3)<|(Qg)<|(gb)<|(Q3)<|(Qm)<|(gv)<|(Qm)<|(Qi)<|(Q1 1)<|(gb)<|(Q3)<|(Qi)<|(jl) ?_
   have hs3 := y7 (a % 2 ^ (64 * k) * b) (k + j); have hs4 := hs2 hc1
   refine z9 rfl (Un 263) (z5A _ _ _ _ (by omega) (by omega) (by omega) (by omega)) rfl rfl ?_
   refine (gi)<|(Qi)<|(Qu 3)<|(jb) ?_
   refine QzL ⟨j + 1, upd s2 (k + j) _, rfl, rfl, rfl, by omega, by rw [hs2 hc1]; exact z2x hf1_1, fun t h1 h2 => by rw [← hf1_2 t (by omega) h2]; unfold upd; rw [if_neg (by omega)]⟩ ⟨by rw [← z47, ← hs2 hc1]; rfl, rfl, rfl, rfl, rfl, rfl, rfl, rfl, trivial⟩ ⟨rfl, rfl, rfl, rfl, trivial⟩ ?_
   omega
  ·have hz1 : j = 2 := by omega
   subst hz1
   refine Qe<|(j0)<|(Q2 2)<|(Qm)<|(Qi)<|(Qu 3)<|(jc) ?_
   refine QzL ⟨k + 1, upd s2 (k + 2) _, rfl, rfl, rfl, by omega, z6M hb hf1_1 hf1_2⟩ ⟨rfl, rfl, rfl, rfl, rfl, trivial⟩ ⟨rfl, rfl, rfl, rfl, trivial⟩ ?_
   omega
 ·have hz0 : k = 3 := by omega
  subst hz0
  refine (jn)<|(Qd 3)<|(Qt 2)<|Qn<|Qr ?_
  rw [Nat.mod_eq_of_lt (show a < 2 ^ (64 * 3) from ha)] at hf0_1
  rw [← zg hf0_1]
  exact ⟨_, rfl, ya 2⟩
end Go.Proofs.YtlidhfijmcelpaaGreatDoor
