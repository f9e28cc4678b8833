import Derived.Test.YtlidhfijmcelpaaGreatDoorKX7
import Derived.Test.YtlidhfijmcelpaaGreatDoorRows
set_option maxHeartbeats 4000000
set_option maxRecDepth 30000
attribute [local simp] Go.Proofs.YtlidhfijmcelpaaGreatDoor.By Go.Proofs.YtlidhfijmcelpaaGreatDoor.L8
namespace Go.Proofs.YtlidhfijmcelpaaGreatDoor
open Go Go.RowKit
theorem zkg : Tryz.prog.eqGuardType Tryz.prog.depth 35 = false := by kernel_rfl
theorem zhx : Tryz.prog.underlying 35 = some (.struct #[.mk "Cipher" 33 0 false "" "" 0, .mk "Chain" 30 34 false "" "" 48, .mk "Hash" 30 66 false "" "" 80]) := by kernel_rfl
theorem zgv : (Tryz.prog.info? 33).map (·.size) = some 34 := by kernel_rfl
theorem zkE {f0 : Bool} {f1 : NN} {f2 : Int} {f3 : NN} {f4 : NN} : z4x Tryz.prog 10000 35 (.agg (cells 98 [pV (.bool f0), pI .u8 32 f1, pV (.int .u64 f2), pI .u8 32 f3, pI .u8 32 f4])) := (V4 zhx (by kernel_rfl) (List.forall_mem_cons.2 ⟨⟨_, za5 (k := 0) (c := 3) z3C rfl zgv rfl rfl rfl (Nat.le_of_ble_eq_true rfl), (V4 z3C (by kernel_rfl) (List.forall_mem_cons.2 ⟨⟨_, vA (k := 0) z0v rfl rfl rfl (Nat.le_of_ble_eq_true rfl), zad z0v⟩, (List.forall_mem_cons.2 ⟨⟨_, Zj (k := 1) vw rfl Xr rfl rfl (Nat.le_of_ble_eq_true rfl), z08 vw z2H z3u⟩, (List.forall_mem_cons.2 ⟨⟨_, vA (k := 2) XY rfl rfl rfl (Nat.le_of_ble_eq_true rfl), zdu XY⟩, (fun _ h => by cases h)⟩)⟩)⟩))⟩, (List.forall_mem_cons.2 ⟨⟨_, Zj (k := 3) vw rfl Xr rfl rfl (Nat.le_of_ble_eq_true rfl), z08 vw z2H z3u⟩, (List.forall_mem_cons.2 ⟨⟨_, Zj (k := 4) vw rfl Xr rfl rfl (Nat.le_of_ble_eq_true rfl), z08 vw z2H z3u⟩, (fun _ h => by cases h)⟩)⟩)⟩))
variable {G : Mem}
theorem za4 (b : LN) (l : Bool) (vp v0 v1 vt : Value) (fi : Bool) (tn : Int) (dd : Bool) (y : SY) (r : RS) (ow : NN) (vk : Value) (us : Int) (t : Nat) : Fp G 57 #[.agg (shC b l vp v0 v1 vt fi tn dd y ow r vk us), ii t] (.tuple #[.agg (arr .u8 32 (ZY fi ow r t)), .agg (arr .u8 32 (Za fi r t)), .bool (Xc fi r t && ZV fi r t)]) := by
 refine Qf3 Tryz.func57 ?_
 refine (g4)<|(Qh 0) fun r1=>(QH 1) fun r2=>(QH 2) fun r3=>(j3) ?_
 refine yd [(0, _), (1, _), (2, _), (4, _), (5, _), (6, _)] [(7, .bool (Zr fi t))] [(0, some _), (1, some _), (2, some _)] ⟨rfl, rfl, rfl, rfl, rfl, rfl, trivial⟩ ⟨rfl, rfl, rfl, trivial⟩ ?_ ?_
 ·skip
  refine (Qm)<|(Qc)<|(Qm) ?_
  refine zo (b := decide ((t : Int) = 6)) (fun hb0 => ?_) (fun hb0 => ?_)
  ·skip
   refine (gw)<|(Qw)<|(Qw)<|(Qo)<|(QT)<|(Qm)<|(gw)<|(Qw)<|(Qw)<|(Qw)<|(Qo)<|(QT)<|(g3) ?_
   exact ⟨⟨rfl, rfl, rfl, rfl, rfl, rfl, trivial⟩, ⟨z4 (by rw [Zr, hb0] <;> rfl), trivial⟩, ⟨rfl, rfl, rfl, trivial⟩⟩
  ·skip
   refine (Qy)<|(g7)<|(Qc)<|(Qy)<|(Qm) ?_
   refine zo (b := decide ((t : Int) = 5)) (fun hb1 => ?_) (fun hb1 => ?_)
   ·skip
    refine (Qy)<|(Qf 6)<|(Qy)<|(QV 6 0)<|(Qy)<|(QT)<|(QF)<|(Qm) ?_
    refine zo (fun hb2 => ?_) (fun hb2 => ?_)
    ·skip
     refine (gw)<|(Qw)<|(Qw)<|(Qw)<|(Qo)<|(QT)<|(g3) ?_
     exact ⟨⟨rfl, rfl, rfl, rfl, rfl, rfl, trivial⟩, ⟨z4 (by rw [Zr, hb0, hb1, hb2] <;> rfl), trivial⟩, ⟨rfl, rfl, rfl, trivial⟩⟩
    ·skip
     refine (Qy)<|(g7)<|(Qc)<|(Qy)<|(Qm) ?_
     refine zo (b := decide ((t : Int) = 4)) (fun hb3 => ?_) (fun hb3 => ?_)
     ·skip
      refine (Qy)<|(Qf 6)<|(Qy)<|(QV 6 0)<|(Qy)<|(Q0)<|(Qy)<|(QT)<|(QF)<|(g3) ?_
      exact ⟨⟨rfl, rfl, rfl, rfl, rfl, rfl, trivial⟩, ⟨z4 (by rw [Zr, hb0, hb1, hb2, hb3] <;> rfl), trivial⟩, ⟨rfl, rfl, rfl, trivial⟩⟩
     ·skip
      refine (gw)<|(Qy)<|(QF)<|(QF)<|(g3) ?_
      exact ⟨⟨rfl, rfl, rfl, rfl, rfl, rfl, trivial⟩, ⟨z4 (by rw [Zr, hb0, hb1, hb2, hb3] <;> rfl), trivial⟩, ⟨rfl, rfl, rfl, trivial⟩⟩
   ·skip
    refine (g5)<|(Qy)<|(QF)<|(QF)<|(gn)<|(Qc)<|(Qy)<|(Qm) ?_
    refine zo (b := decide ((t : Int) = 4)) (fun hb4 => ?_) (fun hb4 => ?_)
    ·skip
     refine (Qy)<|(Qf 6)<|(Qy)<|(QV 6 0)<|(Qy)<|(Q0)<|(Qy)<|(QT)<|(QF)<|(g3) ?_
     exact ⟨⟨rfl, rfl, rfl, rfl, rfl, rfl, trivial⟩, ⟨z4 (by rw [Zr, hb0, hb1, hb4] <;> rfl), trivial⟩, ⟨rfl, rfl, rfl, trivial⟩⟩
    ·skip
     refine (gw)<|(Qy)<|(QF)<|(QF)<|(g3) ?_
     exact ⟨⟨rfl, rfl, rfl, rfl, rfl, rfl, trivial⟩, ⟨z4 (by rw [Zr, hb0, hb1, hb4] <;> rfl), trivial⟩, ⟨rfl, rfl, rfl, trivial⟩⟩
 ·simp only [zq]
  refine (g4) ?_
  refine yd [(0, _), (1, _), (2, _), (4, _), (5, _), (6, _), (7, _)] [(8, .bool (Vo fi t))] [(0, some _), (1, some _), (2, some _)] ⟨rfl, rfl, rfl, rfl, rfl, rfl, rfl, trivial⟩ ⟨rfl, rfl, rfl, trivial⟩ ?_ ?_
  ·skip
   refine (Qm)<|(Qc)<|(Qm) ?_
   refine zo (b := decide ((t : Int) = 6)) (fun hb5 => ?_) (fun hb5 => ?_)
   ·skip
    refine (gw)<|(Qw)<|(Qw)<|(Qo)<|(QT)<|(Qm)<|(gw)<|(Qw)<|(Qw)<|(Qw)<|(Qo)<|(QT)<|(g3) ?_
    exact ⟨⟨rfl, rfl, rfl, rfl, rfl, rfl, rfl, trivial⟩, ⟨z4 (by rw [Vo, hb5] <;> rfl), trivial⟩, ⟨rfl, rfl, rfl, trivial⟩⟩
   ·skip
    refine (Qy)<|(g7)<|(Qc)<|(Qy)<|(Qm) ?_
    refine zo (b := decide ((t : Int) = 4)) (fun hb6 => ?_) (fun hb6 => ?_)
    ·skip
     refine (Qy)<|(Qf 6)<|(Qy)<|(QV 6 0)<|(Qy)<|(QT)<|(QF)<|(Qm) ?_
     refine zo (fun hb7 => ?_) (fun hb7 => ?_)
     ·skip
      refine (gw)<|(Qw)<|(Qw)<|(Qw)<|(Qo)<|(QT)<|(g3) ?_
      exact ⟨⟨rfl, rfl, rfl, rfl, rfl, rfl, rfl, trivial⟩, ⟨z4 (by rw [Vo, hb5, hb6, hb7] <;> rfl), trivial⟩, ⟨rfl, rfl, rfl, trivial⟩⟩
     ·skip
      refine (Qy)<|(g7)<|(Qc)<|(Qy)<|(Qm) ?_
      refine zo (b := decide ((t : Int) = 5)) (fun hb8 => ?_) (fun hb8 => ?_)
      ·skip
       refine (Qy)<|(Qf 6)<|(Qy)<|(QV 6 0)<|(Qy)<|(Q0)<|(Qy)<|(QT)<|(QF)<|(g3) ?_
       exact ⟨⟨rfl, rfl, rfl, rfl, rfl, rfl, rfl, trivial⟩, ⟨z4 (by rw [Vo, hb5, hb6, hb7, hb8] <;> rfl), trivial⟩, ⟨rfl, rfl, rfl, trivial⟩⟩
      ·skip
       refine (gw)<|(Qy)<|(QF)<|(QF)<|(g3) ?_
       exact ⟨⟨rfl, rfl, rfl, rfl, rfl, rfl, rfl, trivial⟩, ⟨z4 (by rw [Vo, hb5, hb6, hb7, hb8] <;> rfl), trivial⟩, ⟨rfl, rfl, rfl, trivial⟩⟩
    ·skip
     refine (g5)<|(Qy)<|(QF)<|(QF)<|(gn)<|(Qc)<|(Qy)<|(Qm) ?_
     refine zo (b := decide ((t : Int) = 5)) (fun hb9 => ?_) (fun hb9 => ?_)
     ·skip
      refine (Qy)<|(Qf 6)<|(Qy)<|(QV 6 0)<|(Qy)<|(Q0)<|(Qy)<|(QT)<|(QF)<|(g3) ?_
      exact ⟨⟨rfl, rfl, rfl, rfl, rfl, rfl, rfl, trivial⟩, ⟨z4 (by rw [Vo, hb5, hb6, hb9] <;> rfl), trivial⟩, ⟨rfl, rfl, rfl, trivial⟩⟩
     ·skip
      refine (gw)<|(Qy)<|(QF)<|(QF)<|(g3) ?_
      exact ⟨⟨rfl, rfl, rfl, rfl, rfl, rfl, rfl, trivial⟩, ⟨z4 (by rw [Vo, hb5, hb6, hb9] <;> rfl), trivial⟩, ⟨rfl, rfl, rfl, trivial⟩⟩
  ·simp only [zq]
   refine Qs ?_
   cases hl1 : Zr fi t
   ·skip
    refine (Qq ⟨[], 1, [], (some [r1]), (some (4, r2))⟩)<|(Qf 139) ?_
    refine YQ (i := 0) 15 (Uu 30) rfl (Uz 30) rfl rfl rfl (by decide) rfl ⟨[], trivial, _, rfl, by simp⟩ ?_
    refine (Qf 171) ?_
    refine Zd (i := 0) 16 (Uu 4) rfl rfl rfl rfl (by decide) rfl ⟨[], trivial, _, rfl, by simp⟩ ?_
    refine (QH 3) fun r4=>?_
    refine YF (i := 3) (Uz 30) rfl rfl (z9 _ _ _) zU rfl (ye _ _ _ _ _) rfl ⟨[0], rfl, rfl, trivial⟩ (z89 1 rfl (by decide) rfl (by decide)) ?_
    refine (g3)<|(ge)<|(gh) ?_
    rw [show ZY fi ow r t = r.1 by rw [ZY, hl1]; rfl, show Xc fi r t = r.2.1 by rw [Xc, hl1]; rfl]
    refine Qk<|Qs<|(Qq ⟨[], 1, [], (some [r1]), (some (4, r2))⟩)<|(Qf 205) ?_
    refine YQ (i := 0) 19 (Uu 30) rfl (Uz 30) rfl rfl rfl (by decide) rfl ⟨[], trivial, _, rfl, by simp⟩ ?_
    refine (Qf 237) ?_
    refine Zd (i := 0) 20 (Uu 4) rfl rfl rfl rfl (by decide) rfl ⟨[], trivial, _, rfl, by simp⟩ ?_
    refine (QH 4) fun r5=>?_
    refine YF (i := 4) (Uz 30) rfl rfl (z9 _ _ _) zU rfl (ye _ _ _ _ _) rfl ⟨[0], rfl, rfl, trivial⟩ (z89 1 rfl (by decide) rfl (by decide)) ?_
    refine (g3)<|(jg) ?_
    refine zi rfl ?_ ?_
    ·intro hc1
     have ht1 := hc1
     rw [show Za fi r t = r.2.2.1 by rw [Za, ht1]; rfl, show ZV fi r t = r.2.2.2.1 by rw [ZV, ht1]; rfl]
     refine (Qq ⟨[r5], 1, [], none, none⟩)<|(Qf 172) ?_
     refine YQ (i := 0) 17 (Uu 30) rfl (Uz 30) rfl rfl rfl (by decide) rfl ⟨[4], rfl, rfl, trivial⟩ ?_
     refine (Qf 204) ?_
     refine Zd (i := 0) 18 (Uu 4) rfl rfl rfl rfl (by decide) rfl ⟨[4], rfl, rfl, trivial⟩ ?_
     refine z5 (i := 4) (Uz 30) rfl rfl (z9 _ _ _) zU rfl (ye _ _ _ _ _) (.inr (by simp)) ?_
     refine (g3)<|Qs ?_
     cases hh9 : r.2.1
     ·skip
      refine (Qq ⟨[r2, r3], 1, [], none, none⟩) ?_
      refine zF (i := 3) (Uu 30) rfl (Uz 30) rfl rfl (z9 _ _ _) rfl ⟨[1, 2], rfl, rfl, rfl, rfl, trivial⟩ ?_
      refine zF (i := 4) (Uu 30) rfl (Uz 30) rfl rfl (z9 _ _ _) rfl ⟨[1, 2], rfl, rfl, rfl, rfl, trivial⟩ ?_
      refine (gb)<|(Qo)<|(QF) ?_
      refine z5 (i := 1) (Uz 30) rfl rfl (z9 _ _ _) zU rfl (ye _ _ _ _ _) (.inr (by simp)) ?_
      refine z5 (i := 2) (Uz 30) rfl rfl (z9 _ _ _) zU rfl (ye _ _ _ _ _) (.inr (by simp)) ?_
      refine (gt) ?_
      exact ⟨_, _, _, rfl, ya 1, ya 2, yt⟩
     ·skip
      refine (Qq ⟨[r2, r3], 1, [], none, none⟩) ?_
      refine zF (i := 3) (Uu 30) rfl (Uz 30) rfl rfl (z9 _ _ _) rfl ⟨[1, 2], rfl, rfl, rfl, rfl, trivial⟩ ?_
      refine zF (i := 4) (Uu 30) rfl (Uz 30) rfl rfl (z9 _ _ _) rfl ⟨[1, 2], rfl, rfl, rfl, rfl, trivial⟩ ?_
      refine (Qm)<|(g7)<|(Qm)<|(QT) ?_
      refine z5 (i := 1) (Uz 30) rfl rfl (z9 _ _ _) zU rfl (ye _ _ _ _ _) (.inr (by simp)) ?_
      refine z5 (i := 2) (Uz 30) rfl rfl (z9 _ _ _) zU rfl (ye _ _ _ _ _) (.inr (by simp)) ?_
      refine (gt) ?_
      exact ⟨_, _, _, rfl, ya 1, ya 2, yt⟩
    ·intro hc1
     have ht1 := hc1
     rw [show Za fi r t = r.2.2.2.2.1 by rw [Za, ht1]; rfl, show ZV fi r t = r.2.2.2.2.2 by rw [ZV, ht1]; rfl]
     refine Qk<|Qs ?_
     cases hh9 : r.2.1
     ·skip
      refine (Qq ⟨[r2, r3], 1, [], none, none⟩) ?_
      refine zF (i := 3) (Uu 30) rfl (Uz 30) rfl rfl (z9 _ _ _) rfl ⟨[1, 2], rfl, rfl, rfl, rfl, trivial⟩ ?_
      refine zF (i := 4) (Uu 30) rfl (Uz 30) rfl rfl (z9 _ _ _) rfl ⟨[1, 2], rfl, rfl, rfl, rfl, trivial⟩ ?_
      refine (gb)<|(Qo)<|(QF) ?_
      refine z5 (i := 1) (Uz 30) rfl rfl (z9 _ _ _) zU rfl (ye _ _ _ _ _) (.inr (by simp)) ?_
      refine z5 (i := 2) (Uz 30) rfl rfl (z9 _ _ _) zU rfl (ye _ _ _ _ _) (.inr (by simp)) ?_
      refine (gt) ?_
      exact ⟨_, _, _, rfl, ya 1, ya 2, yt⟩
     ·skip
      refine (Qq ⟨[r2, r3], 1, [], none, none⟩) ?_
      refine zF (i := 3) (Uu 30) rfl (Uz 30) rfl rfl (z9 _ _ _) rfl ⟨[1, 2], rfl, rfl, rfl, rfl, trivial⟩ ?_
      refine zF (i := 4) (Uu 30) rfl (Uz 30) rfl rfl (z9 _ _ _) rfl ⟨[1, 2], rfl, rfl, rfl, rfl, trivial⟩ ?_
      refine (Qm)<|(g7)<|(Qm)<|(QT) ?_
      refine z5 (i := 1) (Uz 30) rfl rfl (z9 _ _ _) zU rfl (ye _ _ _ _ _) (.inr (by simp)) ?_
      refine z5 (i := 2) (Uz 30) rfl rfl (z9 _ _ _) zU rfl (ye _ _ _ _ _) (.inr (by simp)) ?_
      refine (gt) ?_
      exact ⟨_, _, _, rfl, ya 1, ya 2, yt⟩
   ·skip
    refine (Qq ⟨[], 1, [], (some [r1]), (some (4, r2))⟩)<|(Qf 139) ?_
    refine YQ (i := 0) 15 (Uu 30) rfl (Uz 30) rfl rfl rfl (by decide) rfl ⟨[], trivial, _, rfl, by simp⟩ ?_
    refine (Qf 171) ?_
    refine Zd (i := 0) 16 (Uu 4) rfl rfl rfl rfl (by decide) rfl ⟨[], trivial, _, rfl, by simp⟩ ?_
    refine (QH 3) fun r4=>?_
    refine YF (i := 3) (Uz 30) rfl rfl (z9 _ _ _) zU rfl (ye _ _ _ _ _) rfl ⟨[0], rfl, rfl, trivial⟩ (z89 1 rfl (by decide) rfl (by decide)) ?_
    refine (g3)<|(ge)<|(gv) ?_
    rw [show ZY fi ow r t = ow by rw [ZY, hl1]; rfl, show Xc fi r t = true by rw [Xc, hl1]; rfl]
    refine Qp<|(Qf 107)<|(Qv 14 0)<|(Qt 3)<|(g3)<|Qs<|(Qq ⟨[], 1, [], (some [r1]), (some (4, r2))⟩)<|(Qf 205) ?_
    refine YQ (i := 0) 19 (Uu 30) rfl (Uz 30) rfl rfl rfl (by decide) rfl ⟨[], trivial, _, rfl, by simp⟩ ?_
    refine (Qf 237) ?_
    refine Zd (i := 0) 20 (Uu 4) rfl rfl rfl rfl (by decide) rfl ⟨[], trivial, _, rfl, by simp⟩ ?_
    refine (QH 4) fun r5=>?_
    refine YF (i := 4) (Uz 30) rfl rfl (z9 _ _ _) zU rfl (ye _ _ _ _ _) rfl ⟨[0], rfl, rfl, trivial⟩ (z89 1 rfl (by decide) rfl (by decide)) ?_
    refine (g3)<|(jg) ?_
    refine zi rfl ?_ ?_
    ·intro hc1
     have ht1 := hc1
     rw [show Za fi r t = r.2.2.1 by rw [Za, ht1]; rfl, show ZV fi r t = r.2.2.2.1 by rw [ZV, ht1]; rfl]
     refine (Qq ⟨[r5], 1, [], none, none⟩)<|(Qf 172) ?_
     refine YQ (i := 0) 17 (Uu 30) rfl (Uz 30) rfl rfl rfl (by decide) rfl ⟨[4], rfl, rfl, trivial⟩ ?_
     refine (Qf 204) ?_
     refine Zd (i := 0) 18 (Uu 4) rfl rfl rfl rfl (by decide) rfl ⟨[4], rfl, rfl, trivial⟩ ?_
     refine z5 (i := 4) (Uz 30) rfl rfl (z9 _ _ _) zU rfl (ye _ _ _ _ _) (.inr (by simp)) ?_
     refine (g3)<|Qs<|(Qq ⟨[r2, r3], 1, [], none, none⟩) ?_
     refine zF (i := 3) (Uu 30) rfl (Uz 30) rfl rfl (z9 _ _ _) rfl ⟨[1, 2], rfl, rfl, rfl, rfl, trivial⟩ ?_
     refine zF (i := 4) (Uu 30) rfl (Uz 30) rfl rfl (z9 _ _ _) rfl ⟨[1, 2], rfl, rfl, rfl, rfl, trivial⟩ ?_
     refine (Qm)<|(g7)<|(Qm)<|(QT) ?_
     refine z5 (i := 1) (Uz 30) rfl rfl (z9 _ _ _) zU rfl (ye _ _ _ _ _) (.inr (by simp)) ?_
     refine z5 (i := 2) (Uz 30) rfl rfl (z9 _ _ _) zU rfl (ye _ _ _ _ _) (.inr (by simp)) ?_
     refine (gt) ?_
     exact ⟨_, _, _, rfl, ya 1, ya 2, yt⟩
    ·intro hc1
     have ht1 := hc1
     rw [show Za fi r t = r.2.2.2.2.1 by rw [Za, ht1]; rfl, show ZV fi r t = r.2.2.2.2.2 by rw [ZV, ht1]; rfl]
     refine Qk<|Qs<|(Qq ⟨[r2, r3], 1, [], none, none⟩) ?_
     refine zF (i := 3) (Uu 30) rfl (Uz 30) rfl rfl (z9 _ _ _) rfl ⟨[1, 2], rfl, rfl, rfl, rfl, trivial⟩ ?_
     refine zF (i := 4) (Uu 30) rfl (Uz 30) rfl rfl (z9 _ _ _) rfl ⟨[1, 2], rfl, rfl, rfl, rfl, trivial⟩ ?_
     refine (Qm)<|(g7)<|(Qm)<|(QT) ?_
     refine z5 (i := 1) (Uz 30) rfl rfl (z9 _ _ _) zU rfl (ye _ _ _ _ _) (.inr (by simp)) ?_
     refine z5 (i := 2) (Uz 30) rfl rfl (z9 _ _ _) zU rfl (ye _ _ _ _ _) (.inr (by simp)) ?_
     refine (gt) ?_
     exact ⟨_, _, _, rfl, ya 1, ya 2, yt⟩
theorem vL (f : NN) (h0 : f 0 < 18446744073709551616) (h1 : f 1 < 18446744073709551616) (h2 : f 2 < 4) : Fp G 244 #[.agg (arr .u64 3 f)] (p5 (w3 f)) := by
 refine Qf1 Tryz.func244 ?_
 refine (g4)<|(Qh 0) fun r1=>(QH 1) fun r2=>(gj)<|(Qj 0)<|(Q1 0)<|(Q9 67108863) ?_
 refine (Au (po0 (f := f)))<|(Qj 0)<|(Q1 0)<|(Q8 26)<|(Q9 67108863) ?_
 refine (Au (po1 (f := f)))<|(Qj 0)<|(Q1 0)<|(Q8 52)<|(Qj 1)<|(Q1 0) ?_
 refine w9 (s := 12) rfl rfl rfl (by omega) ?_
 refine v3 rfl rfl rfl  ?_
 refine (Q9 67108863) ?_
 refine (Au (po2 h0))<|(Qj 1)<|(Q1 0)<|(Q8 14)<|(Q9 67108863) ?_
 refine (Au (po3 h0))<|(Qj 1)<|(Q1 0)<|(Q8 40)<|(Qj 2)<|(Q1 0) ?_
 refine w9 (s := 24) rfl rfl rfl (by omega) ?_
 refine v3 rfl rfl rfl  ?_
 refine (Au (po4 h0 h1 h2)) ?_
 refine zV (arr .u64 5 (d26 (w3 f))) (Ub 295 rfl) (Uu 295 rfl) (Uz 31 rfl) rfl rfl rfl ?_
 refine (j4)<|Qr ?_
 exact ⟨_, rfl, ya 1⟩
theorem z1a (x : Nat) (hx : x < 2 ^ 130) : Fp G 246 #[p5 x] (.agg (arr .u64 3 (wd x))) := by
 refine Qf1 Tryz.func246 ?_
 refine (g4)<|(Qh 0) fun r1=>(QH 1) fun r2=>(gj)<|(Qj 0)<|(Q1 0)<|(Qj 1)<|(Q1 0) ?_
 refine w9 (s := 26) rfl rfl rfl (by omega) ?_
 refine v3 rfl rfl rfl  ?_
 refine (Qj 2)<|(Q1 0) ?_
 refine w9 (s := 52) rfl rfl rfl (by omega) ?_
 refine v3 rfl rfl rfl  ?_
 refine (Au (wh0 hx))<|(Qj 2)<|(Q1 0)<|(Q8 12)<|(Qj 3)<|(Q1 0) ?_
 refine w9 (s := 14) rfl rfl rfl (by omega) ?_
 refine v3 rfl rfl rfl  ?_
 refine (Qj 4)<|(Q1 0) ?_
 refine w9 (s := 40) rfl rfl rfl (by omega) ?_
 refine v3 rfl rfl rfl  ?_
 refine (Au (wh1 hx))<|(Qj 4)<|(Q1 0)<|(Q8 24) ?_
 refine (Au (wh2 hx)) ?_
 refine zV (arr .u64 3 (wd x)) (Ub 245 rfl) (Uu 245 rfl) (Uz 31 rfl) rfl rfl rfl ?_
 refine (j4)<|Qr ?_
 exact ⟨_, rfl, ya 1⟩
theorem ZP (f : NN) (hf : ∀ j, j < 5 → f j < 1152921504606846976) : Fp G 245 #[.agg (arr .u64 5 f)] (p5 (v26 f 5 % QQ)) := by
 refine Qf1 Tryz.func245 ?_
 refine (g4)<|(Qh 0) fun r1=>(QH 1) fun r2=>Qn<|(ji) ?_
 refine Qz (fun kk E m => ∃ (k : Nat) (s : Nat → Nat), kk = 3 - k ∧ E = [(1, ptr r1), (2, ptr r2), (7, ii k)] ∧ m = [(0, some ⟨r1, arr .u64 5 s, 295⟩), (1, some ⟨r2, arr .u64 5 (fun _ => 0), 295⟩)] ∧ (k ≤ 3) ∧ (∀ j, j < 5 → s j < 1152921504606846976) ∧ (v26 s 5 < z7i k) ∧ (v26 s 5 % QQ = v26 f 5 % QQ) ∧ (k = 3 → ∀ j, j < 5 → s j < 67108864)) ⟨0, f, rfl, rfl, rfl, by omega, hf, zaS f hf, rfl, fun h => absurd h (by decide)⟩ ⟨rfl, rfl, rfl, trivial⟩ ⟨rfl, rfl, trivial⟩ ?_
 rintro kk E m ⟨k, s, rfl, rfl, rfl, hf0_0, hf0_1, hf0_2, hf0_3, hf0_4⟩
 refine (gq) ?_
 refine (Qcd) (fun hc0=>?_) fun hc0=>?_
 ·refine Qk<|Qs<|Qb<|Qs<|Qp<|(Qa)<|Qn<|Qs<|Qs<|Qp<|(Qm)<|Qn<|Qb ?_
  refine Qz (fun kk E m => ∃ (i : Nat) (s2 : Nat → Nat) (c : Nat), kk = 5 - i ∧ E = [(1, ptr r1), (2, ptr r2), (7, ii k), (3, u c), (9, ii i)] ∧ m = [(0, some ⟨r1, arr .u64 5 s2, 295⟩), (1, some ⟨r2, arr .u64 5 (fun _ => 0), 295⟩)] ∧ (i ≤ 5) ∧ (v26 s2 i + c * 2 ^ (26 * i) = v26 s i) ∧ (∀ j, i ≤ j → s2 j = s j) ∧ (∀ j, j < i → s2 j < 67108864) ∧ (c < 34359738368)) ⟨0, s, 0, rfl, rfl, rfl, by omega, by rw [Nat.zero_mul]; rfl, fun j _ => rfl, fun j hj => absurd hj (Nat.not_lt_zero j), by decide⟩ ⟨rfl, rfl, rfl, rfl, rfl, trivial⟩ ⟨rfl, rfl, trivial⟩ ?_
  rintro kk E m ⟨i, s2, c, rfl, rfl, rfl, hf1_0, hf1_1, hf1_2, hf1_3, hf1_4⟩
  have hsi : i < 5 → s2 i < 1152921504606846976 := fun h => by rw [hf1_2 i (Nat.le_refl i)]; exact hf0_1 i h
  refine (gq) ?_
  refine (Qcd) (fun hc1=>?_) fun hc1=>?_
  ·have hsi2 := hsi (by omega)
   refine (jr)<|(gm)<|(Qm)<|(gu)<|(Qau) ?_
   refine (Au (Nat.mod_eq_of_lt (show c + s2 i < 18446744073709551616 by omega)))<|(g3)<|Qp<|(gb)<|(Q9 67108863) ?_
   refine (Au (m26 _))<|(Qm)<|(Q8 26) ?_
   refine (Av (u ((c + s2 i) / 67108864)))<|(jj)<|(jb) ?_
   refine Qzr ⟨i + 1, upd s2 i _, (c + s2 i) / 67108864, rfl, rfl, rfl, by omega, zh4 hf1_1 (hf1_2 i (Nat.le_refl i)), YZ hf1_2, z20 hf1_3, by omega⟩ ⟨rfl, rfl, rfl, rfl, rfl, trivial⟩ ⟨rfl, rfl, trivial⟩ ?_
   omega
  ·have hi5 : i = 5 := by omega
   subst hi5
   have hs20 := hf1_3 0 (by decide)
   refine Qe<|Qp<|(Qj 0)<|(Q1 0)<|(Qm) ?_
   refine xl (p := 5) rfl rfl rfl  ?_
   refine (Au (Nat.mod_eq_of_lt (show 5 * c < 18446744073709551616 by omega)))<|(Qau) ?_
   refine (Au (Nat.mod_eq_of_lt (show s2 0 + 5 * c < 18446744073709551616 by omega)))<|(Qj 0)<|(Qu 0)<|(jc) ?_
   refine Qzr ⟨k + 1, upd s2 0 _, rfl, rfl, rfl, by omega, za8 hf1_3 hf1_4, by rw [z1B hf1_1 hf1_3]; exact zbA _ _ hf0_2, by rw [z1B hf1_1 hf1_3, zeW]; exact hf0_3, zeu hf1_1 hf1_3 hf0_2⟩ ⟨rfl, rfl, rfl, trivial⟩ ⟨rfl, rfl, trivial⟩ ?_
   omega
 ·have hk3 : k = 3 := by omega
  subst hk3
  have hs5 := hf0_4 rfl
  have hs0 := hs5 0 (by decide)
  have hT : v26 s 5 < 2 ^ 130 := hf0_2
  refine (jo)<|(Qd 0)<|(QH 2) fun r3=>(Qt 2)<|(gj)<|(Qj 0)<|(Q1 2) ?_
  refine wM (q := 5) rfl rfl rfl  ?_
  refine (Au (Nat.mod_eq_of_lt (show s 0 + 5 < 18446744073709551616 by omega)))<|(Qj 0)<|(Qu 2)<|Qn<|(ji) ?_
  refine Qz (fun kk E m => ∃ (n : Nat) (q : Nat → Nat), kk = 4 - n ∧ E = [(1, ptr r1), (2, ptr r2), (5, ptr r3), (36, ii n)] ∧ m = [(0, some ⟨r1, arr .u64 5 s, 295⟩), (1, some ⟨r2, arr .u64 5 (fun _ => 0), 295⟩), (2, some ⟨r3, arr .u64 5 q, 295⟩)] ∧ (n ≤ 4) ∧ (v26 q 5 = v26 s 5 + 5) ∧ (∀ j, j < n → q j < 67108864) ∧ (∀ j, n < j → j < 5 → q j < 67108864) ∧ (q n < 67108869)) ⟨0, upd s 0 _, rfl, rfl, rfl, by omega, zhk, fun j hj => absurd hj (Nat.not_lt_zero j), fun j h h5 => by rw [Xm (by omega)]; exact hs5 j h5, by rw [z2T]; have := hs5 0 (by decide); omega⟩ ⟨rfl, rfl, rfl, rfl, trivial⟩ ⟨rfl, rfl, rfl, trivial⟩ ?_
  rintro kk E m ⟨n, q, rfl, rfl, rfl, hf2_0, hf2_1, hf2_2, hf2_3, hf2_4⟩
  refine (gq) ?_
  refine (Qcd) (fun hc2=>?_) fun hc2=>?_
  ·have hq1 := hf2_3 (n + 1) (by omega) (by omega)
   refine (jr)<|(g3)<|(gr)<|(Qm)<|(Q2 1)<|(Qi)<|(Q1 2)<|(Qm)<|(Qi)<|(Q1 2)<|(Q8 26) ?_
   refine (Av (u (q n / 67108864)))<|(Qau) ?_
   refine (Au (Nat.mod_eq_of_lt (show q (n + 1) + q n / 67108864 < 18446744073709551616 by omega)))<|(Qi)<|(Qu 2)<|Qn<|(je)<|(Qi)<|(Q1 2) ?_
   refine (Au (Xm (by omega)))<|(Q9 67108863) ?_
   refine (Au (m26 _))<|(Qi)<|(Qu 2)<|(jc) ?_
   refine Qzr ⟨n + 1, upd (upd q (n + 1) _) n _, rfl, rfl, rfl, by omega, (zjr (by omega)).trans hf2_1, zkt hf2_2, zjc hf2_3, zjR (by omega) hf2_3 hf2_4⟩ ⟨rfl, rfl, rfl, rfl, trivial⟩ ⟨rfl, rfl, rfl, trivial⟩ ?_
   omega
  ·have hn4 : n = 4 := by omega
   subst hn4
   refine Qe<|(gs)<|(Qj 4)<|(Q1 2)<|(Q8 26)<|(QG)<|Qn ?_
   refine (Qcd) (fun hc3=>?_) fun hc3=>?_
   ·have hge : QQ ≤ v26 s 5 := (zjx hf2_1 hf2_2 hT).1.1 (by omega)
    refine (g4)<|(Qj 4)<|(Q1 2)<|(Q9 67108863) ?_
    refine (Au (m26 _))<|(Qj 4)<|(Qu 2)<|(gj)<|(Qd 2) ?_
    refine z6 (zi5 (z20 hf2_2) (((zjx hf2_1 hf2_2 hT).2 hge).trans hf0_3)) ?_
    refine (j4)<|Qr ?_
    exact ⟨_, rfl, ya 1⟩
   ·have hlt : v26 s 5 < QQ := Nat.lt_of_not_le fun h => hc3 (by have := (zjx hf2_1 hf2_2 hT).1.2 h; omega)
    refine Qk<|(g4)<|(Qd 0) ?_
    refine z6 (zi5 hs5 ((Nat.mod_eq_of_lt hlt).symm.trans hf0_3)) ?_
    refine (j4)<|Qr ?_
    exact ⟨_, rfl, ya 1⟩
theorem zal (x y : Nat) (hx : x < 2 ^ 130) (hy : y < 2 ^ 130) : Fp G 247 #[p5 x, p5 y] (p5 (x * y % QQ)) := by
 have hvy : v26 (d26 y) 5 = y := (XE y 5).trans (Nat.mod_eq_of_lt hy)
 refine Qf1 Tryz.func247 ?_
 refine (g4)<|(Qh 0) fun r1=>(Qh 1) fun r2=>(QH 2) fun r3=>(gj)<|(QH 3) fun r4=>Qn<|(gs)<|(Qd 0)<|(Qm)<|Qn<|Qb ?_
 refine Qz (fun kk E m => ∃ (i : Nat) (s : Nat → Nat), kk = 5 - i ∧ E = [(2, ptr r1), (3, ptr r2), (4, ptr r3), (5, ptr r4), (11, p5 x), (12, ii i)] ∧ m = [(0, some ⟨r1, arr .u64 5 (d26 x), 295⟩), (1, some ⟨r2, arr .u64 5 (d26 y), 295⟩), (2, some ⟨r3, arr .u64 5 (fun _ => 0), 295⟩), (3, some ⟨r4, arr .u64 5 s, 295⟩)] ∧ (i ≤ 5) ∧ (∀ t, t < 5 → s t ≤ 5 * i * 22517997465763845) ∧ (v26 s 5 % QQ = (v26 (d26 x) i * y + d26 x i * v26 (d26 y) 0 * 2 ^ (26 * i)) % QQ)) ⟨0, fun _ => 0, rfl, rfl, rfl, by omega, fun t _ => Nat.zero_le _, by simp [v26]⟩ ⟨rfl, rfl, rfl, rfl, rfl, rfl, trivial⟩ ⟨rfl, rfl, rfl, rfl, trivial⟩ ?_
 rintro kk E m ⟨i, s, rfl, rfl, rfl, hf0_0, hf0_1, hf0_2⟩
 refine (gq) ?_
 refine (Qcd) (fun hc0=>?_) fun hc0=>?_
 ·refine Qk<|Qs<|Qb<|Qs<|Qp<|(Qm)<|(QX)<|(Qa)<|(Qa)<|Qn<|Qs<|Qp<|(Qd 1)<|(Qm)<|Qn<|Qb ?_
  refine Qz (fun kk E m => ∃ (j : Nat) (s2 : Nat → Nat), kk = 5 - j ∧ E = [(2, ptr r1), (3, ptr r2), (4, ptr r3), (5, ptr r4), (11, p5 x), (12, ii i), (6, ii i), (7, u (d26 x i)), (16, p5 y), (17, ii j)] ∧ m = [(0, some ⟨r1, arr .u64 5 (d26 x), 295⟩), (1, some ⟨r2, arr .u64 5 (d26 y), 295⟩), (2, some ⟨r3, arr .u64 5 (fun _ => 0), 295⟩), (3, some ⟨r4, arr .u64 5 s2, 295⟩)] ∧ (j ≤ 5) ∧ (∀ t, t < 5 → s2 t ≤ (5 * i + j) * 22517997465763845) ∧ (v26 s2 5 % QQ = (v26 (d26 x) i * y + d26 x i * v26 (d26 y) j * 2 ^ (26 * i)) % QQ)) ⟨0, s, rfl, rfl, rfl, by omega, hf0_1, hf0_2⟩ ⟨rfl, rfl, rfl, rfl, rfl, rfl, rfl, rfl, rfl, rfl, trivial⟩ ⟨rfl, rfl, rfl, rfl, trivial⟩ ?_
  rintro kk E m ⟨j, s2, rfl, rfl, rfl, hf1_0, hf1_1, hf1_2⟩
  have hde := zky (x := x) (y := y) (i := i) (j := j)
  have hsr := hf1_1 ((i + j) % 5) (Nat.mod_lt _ (by decide))
  refine (gq) ?_
  refine (Qcd) (fun hc1=>?_) fun hc1=>?_
  ·refine Qk<|Qs<|Qb<|Qs<|Qp<|(Qm)<|(QX)<|(Qa)<|(Qa)<|Qn<|Qs<|Qp<|(Qm)<|(Qm) ?_
   refine xl rfl rfl rfl  ?_
   refine (Au (Nat.mod_eq_of_lt (show d26 x i * d26 y j < 18446744073709551616 by omega)))<|(g3)<|(ge)<|(Qm)<|(Q3)<|(QE)<|Qn ?_
   refine (Qcd) (fun hc2=>?_) fun hc2=>?_
   ·refine Qp<|(Qm) ?_
    refine xl (q := 5) rfl rfl rfl  ?_
    refine (Au (Nat.mod_eq_of_lt (show d26 x i * d26 y j * 5 < 18446744073709551616 by omega)))<|(g3)<|Qp<|(gb)<|(Q3)<|(Q4 5)<|(Qi)<|(jl)<|(Qau) ?_
    refine z6 (congrArg u (Nat.mod_eq_of_lt (show s2 ((i + j) % 5) + _ < 18446744073709551616 by omega))) ?_
    refine (Qi)<|(Qu 3)<|(jc) ?_
    refine Qzr ⟨j + 1, upd s2 ((i + j) % 5) _, rfl, rfl, rfl, by omega, zeh (Nat.mod_lt _ (by decide)) hf1_1 (by omega), z9e (by omega) (by omega) hf1_2 (by first | rw [if_pos (by omega)] | rw [if_neg (by omega)])⟩ ⟨rfl, rfl, rfl, rfl, rfl, rfl, rfl, rfl, rfl, rfl, trivial⟩ ⟨rfl, rfl, rfl, rfl, trivial⟩ ?_
    omega
   ·refine Qk<|Qp<|(Qm)<|(Qm)<|(Q3)<|(Q4 5)<|(Qi)<|(Q1 3)<|(Qm) ?_
    refine (Qau) ?_
    refine z6 (congrArg u (Nat.mod_eq_of_lt (show s2 ((i + j) % 5) + _ < 18446744073709551616 by omega))) ?_
    refine (Qi)<|(Qu 3)<|(jc) ?_
    refine Qzr ⟨j + 1, upd s2 ((i + j) % 5) _, rfl, rfl, rfl, by omega, zeh (Nat.mod_lt _ (by decide)) hf1_1 (by omega), z9e (by omega) (by omega) hf1_2 (by first | rw [if_pos (by omega)] | rw [if_neg (by omega)])⟩ ⟨rfl, rfl, rfl, rfl, rfl, rfl, rfl, rfl, rfl, rfl, trivial⟩ ⟨rfl, rfl, rfl, rfl, trivial⟩ ?_
    omega
  ·have hj5 : j = 5 := by omega
   subst hj5
   refine Qe<|(gl) ?_
   refine Qzr ⟨i + 1, s2, rfl, rfl, rfl, by omega, hf1_1, hf1_2.trans (congrArg (fun z => z % QQ) (zjB hvy))⟩ ⟨rfl, rfl, rfl, rfl, rfl, rfl, trivial⟩ ⟨rfl, rfl, rfl, rfl, trivial⟩ ?_
   omega
 ·have hi5 : i = 5 := by omega
  subst hi5
  refine (jo)<|(Qd 3) ?_
  refine (Ca (ZP s (fun t ht => by have := hf0_1 t ht; omega))) ?_
  refine z6 (congrArg p5 (hf0_2.trans (congrArg (fun z => z % QQ) (zim hx)))) ?_
  refine (Qt 2)<|Qn<|Qr ?_
  exact ⟨_, rfl, ya 2⟩
theorem w7 (n b : Nat) (hb : b ≤ 32) : Fp G 159 #[uw n, ii b] (uw (wj n b)) := by
 refine Qf1 Tryz.func159 ?_
 refine (gc)<|(gr)<|(gb) ?_
 refine vn rfl rfl rfl (by omega) ?_
 refine (gb) ?_
 refine xG (p := 32) rfl rfl rfl (by omega) (by omega) ?_
 refine z6 (congrArg (Value.int .i64) (show (32 : Int) - (b : Int) = ((32 - b : Nat) : Int) by omega)) ?_
 refine Z4 rfl rfl rfl (by omega) ?_
 refine ZJ rfl rfl rfl  ?_
 refine (gt) ?_
 exact ⟨_, rfl, yt⟩
theorem z5R (f : NN) : Fp G 200 #[.agg (arr .u32 16 f)] (.agg (arr .u32 16 (rnd f))) := by
 refine Qf1 Tryz.func200 ?_
 refine (g4)<|(Qh 0) fun r1=>(QH 1) fun r2=>Qn<|(ji) ?_
 refine Qz (fun kk E m => ∃ (k : Nat) (s : Nat → Nat), kk = 4 - k ∧ E = [(1, ptr r1), (2, ptr r2), (8, ii k)] ∧ m = [(0, some ⟨r1, arr .u32 16 s, 199⟩), (1, some ⟨r2, arr .u32 16 (fun _ => 0), 199⟩)] ∧ (k ≤ 4) ∧ (∀ t, t < 16 → s t = if t % 4 < k then rnd f t else f t)) ⟨0, f, rfl, rfl, rfl, by omega, fun t _ => by rw [if_neg (by omega)]⟩ ⟨rfl, rfl, rfl, trivial⟩ ⟨rfl, rfl, trivial⟩ ?_
 rintro kk E m ⟨k, s, rfl, rfl, rfl, hf0_0, hf0_1⟩
 refine (gq) ?_
 refine (Qcd) (fun hc0=>?_) fun hc0=>?_
 ·refine Qk<|Qs<|Qb<|Qs<|Qp<|(Qm)<|(Qa)<|Qn<|Qs<|(Qg)<|(Qm)<|(QA 0 0)<|(Qi)<|(Q1 0)<|(Qm)<|(QA 4 1)<|(QB (4 + k))<|(Q1 0)<|(Qm)<|(QA 8 2)<|(QB (8 + k))<|(Q1 0)<|(Qm)<|(QA 12 3)<|(QB (12 + k))<|(Q1 0)<|(Qa)<|(Qa)<|(Qa)<|(Qa)<|Qn<|Qs<|Qp<|(Qm)<|(Qm) ?_
  refine (Qaw)<|(gm)<|(Qm)<|(Qxw) ?_
  refine zd rfl (Un 159) (w7 _ _ (by decide)) rfl rfl ?_
  refine (gm)<|(Qm)<|(Qaw)<|(gm)<|(Qm)<|(Qxw) ?_
  refine zd rfl (Un 159) (w7 _ _ (by decide)) rfl rfl ?_
  refine (gm)<|(Qm)<|(Qaw)<|(gm)<|(Qm)<|(Qxw) ?_
  refine zd rfl (Un 159) (w7 _ _ (by decide)) rfl rfl ?_
  refine (gm)<|(Qm)<|(Qaw)<|(gm)<|(Qm)<|(Qxw) ?_
  refine zd rfl (Un 159) (w7 _ _ (by decide)) rfl rfl ?_
  refine (g3)<|Qp<|(gb)<|(gb)<|(gb)<|(gb)<|(QA 0 0)<|(jj)<|(QA 4 1)<|(QB (4 + k))<|(Qu 0)<|(QA 8 2)<|(QB (8 + k))<|(Qu 0)<|(QA 12 3)<|(QB (12 + k))<|(Qu 0)<|(jc) ?_
  refine Qzr ⟨k + 1, upd (upd (upd (upd s k _) (4 + k) _) (8 + k) _) (12 + k) _, rfl, rfl, rfl, by omega, zcS (by omega) hf0_1 _ rfl⟩ ⟨rfl, rfl, rfl, trivial⟩ ⟨rfl, rfl, trivial⟩ ?_
  omega
 ·have hk : k = 4 := by omega
  subst hk
  refine (jo)<|(Qd 0)<|(j4)<|Qr ?_
  rw [← zgd hf0_1]
  exact ⟨_, rfl, ya 1⟩
theorem zjA (f : NN) : Fp G 158 #[.agg (arr .u32 16 f), ii 1] (.agg (arr .u32 16 (sh1 f))) := by
 refine Qf1 Tryz.func158 ?_
 refine (g4)<|(Qh 0) fun r1=>(QH 1) fun r2=>(gj)<|(QH 2) fun r3=>Qn<|(ji) ?_
 refine Qz (fun kk E m => ∃ (k : Nat) (s : Nat → Nat), kk = 4 - k ∧ E = [(1, ii 1), (2, ptr r1), (4, ptr r2), (5, ptr r3), (8, ii k)] ∧ m = [(0, some ⟨r1, arr .u32 16 f, 199⟩), (1, some ⟨r2, arr .u32 16 (fun _ => 0), 199⟩), (2, some ⟨r3, arr .u32 16 s, 199⟩)] ∧ (k ≤ 4) ∧ (∀ t, t < 4 * k → s t = sh1 f t)) ⟨0, fun _ => 0, rfl, rfl, rfl, by omega, fun t ht => absurd ht (Nat.not_lt_zero t)⟩ ⟨rfl, rfl, rfl, rfl, rfl, trivial⟩ ⟨rfl, rfl, rfl, trivial⟩ ?_
 rintro kk E m ⟨k, s, rfl, rfl, rfl, hf0_0, hf0_1⟩
 refine (gq) ?_
 refine (Qcd) (fun hc0=>?_) fun hc0=>?_
 ·refine Qk<|Qs<|Qb<|Qs<|Qp<|(Qm)<|(Qa)<|Qn<|Qs<|Qp<|(Qm)<|Qn<|Qb ?_
  refine Qz (fun kk E m => ∃ (j : Nat) (s2 : Nat → Nat), kk = 4 - j ∧ E = [(1, ii 1), (2, ptr r1), (4, ptr r2), (5, ptr r3), (8, ii k), (6, ii k), (11, ii j)] ∧ m = [(0, some ⟨r1, arr .u32 16 f, 199⟩), (1, some ⟨r2, arr .u32 16 (fun _ => 0), 199⟩), (2, some ⟨r3, arr .u32 16 s2, 199⟩)] ∧ (j ≤ 4) ∧ (∀ t, t < 4 * k + j → s2 t = sh1 f t)) ⟨0, s, rfl, rfl, rfl, by omega, hf0_1⟩ ⟨rfl, rfl, rfl, rfl, rfl, rfl, rfl, trivial⟩ ⟨rfl, rfl, rfl, trivial⟩ ?_
  rintro kk E m ⟨j, s2, rfl, rfl, rfl, hf1_0, hf1_1⟩
  refine (gq) ?_
  refine (Qcd) (fun hc1=>?_) fun hc1=>?_
  ·refine Qk<|Qs<|Qb<|Qs<|Qp<|(Qm)<|(Qa)<|Qn<|(Qg)<|(Qm)<|(Qm)<|(Qm)<|(Qm)<|(Q2 4)<|(Qm)<|(Qm) ?_
   refine VL rfl rfl rfl (by omega) ?_
   refine (Q3)<|(Q4 4)<|(QB (4 * k))<|(QB (4 * k + (j + 4 + 1 * k) % 4))<|(Q1 0)<|(QB (4 * k))<|(QB (4 * k + j))<|(Qu 2)<|(jc) ?_
   refine Qzr ⟨j + 1, upd s2 (4 * k + j) _, rfl, rfl, rfl, by omega, z8X sh1 f s2 (zjZ f (by omega)) hf1_1⟩ ⟨rfl, rfl, rfl, rfl, rfl, rfl, rfl, trivial⟩ ⟨rfl, rfl, rfl, trivial⟩ ?_
   omega
  ·have hj4 : j = 4 := by omega
   subst hj4
   refine Qe<|(gl) ?_
   refine Qzr ⟨k + 1, s2, rfl, rfl, rfl, by omega, by rw [show 4 * (k + 1) = 4 * k + 4 by omega]; exact hf1_1⟩ ⟨rfl, rfl, rfl, rfl, rfl, trivial⟩ ⟨rfl, rfl, rfl, trivial⟩ ?_
   omega
 ·have hk : k = 4 := by omega
  subst hk
  refine (jo)<|(Qd 2)<|(j4)<|Qr ?_
  rw [← zh hf0_1]
  exact ⟨_, rfl, ya 1⟩
theorem ziG (f : NN) : Fp G 158 #[.agg (arr .u32 16 f), .int .i64 (-1)] (.agg (arr .u32 16 (shm f))) := by
 refine Qf1 Tryz.func158 ?_
 refine (g4)<|(Qh 0) fun r1=>(QH 1) fun r2=>(gj)<|(QH 2) fun r3=>Qn<|(ji) ?_
 refine Qz (fun kk E m => ∃ (k : Nat) (s : Nat → Nat), kk = 4 - k ∧ E = [(1, .int .i64 (-1)), (2, ptr r1), (4, ptr r2), (5, ptr r3), (8, ii k)] ∧ m = [(0, some ⟨r1, arr .u32 16 f, 199⟩), (1, some ⟨r2, arr .u32 16 (fun _ => 0), 199⟩), (2, some ⟨r3, arr .u32 16 s, 199⟩)] ∧ (k ≤ 4) ∧ (∀ t, t < 4 * k → s t = shm f t)) ⟨0, fun _ => 0, rfl, rfl, rfl, by omega, fun t ht => absurd ht (Nat.not_lt_zero t)⟩ ⟨rfl, rfl, rfl, rfl, rfl, trivial⟩ ⟨rfl, rfl, rfl, trivial⟩ ?_
 rintro kk E m ⟨k, s, rfl, rfl, rfl, hf0_0, hf0_1⟩
 refine (gq) ?_
 refine (Qcd) (fun hc0=>?_) fun hc0=>?_
 ·refine Qk<|Qs<|Qb<|Qs<|Qp<|(Qm)<|(Qa)<|Qn<|Qs<|Qp<|(Qm)<|Qn<|Qb ?_
  refine Qz (fun kk E m => ∃ (j : Nat) (s2 : Nat → Nat), kk = 4 - j ∧ E = [(1, .int .i64 (-1)), (2, ptr r1), (4, ptr r2), (5, ptr r3), (8, ii k), (6, ii k), (11, ii j)] ∧ m = [(0, some ⟨r1, arr .u32 16 f, 199⟩), (1, some ⟨r2, arr .u32 16 (fun _ => 0), 199⟩), (2, some ⟨r3, arr .u32 16 s2, 199⟩)] ∧ (j ≤ 4) ∧ (∀ t, t < 4 * k + j → s2 t = shm f t)) ⟨0, s, rfl, rfl, rfl, by omega, hf0_1⟩ ⟨rfl, rfl, rfl, rfl, rfl, rfl, rfl, trivial⟩ ⟨rfl, rfl, rfl, trivial⟩ ?_
  rintro kk E m ⟨j, s2, rfl, rfl, rfl, hf1_0, hf1_1⟩
  refine (gq) ?_
  refine (Qcd) (fun hc1=>?_) fun hc1=>?_
  ·refine Qk<|Qs<|Qb<|Qs<|Qp<|(Qm)<|(Qa)<|Qn<|(Qg)<|(Qm)<|(Qm)<|(Qm)<|(Qm)<|(Q2 4)<|(Qm)<|(Qm) ?_
   refine z8g rfl rfl rfl (by omega) (by omega) ?_
   refine z9g rfl rfl rfl (by omega) (by omega) ?_
   refine z6 (congrArg (Value.int .i64) (show ((j + 4 : Nat) : Int) + -1 * ((k : Nat) : Int) = ((j + 4 - k : Nat) : Int) by omega)) ?_
   refine (Q4 4)<|(QB (4 * k))<|(QB (4 * k + (j + 4 - k) % 4))<|(Q1 0)<|(QB (4 * k))<|(QB (4 * k + j))<|(Qu 2)<|(jc) ?_
   refine Qzr ⟨j + 1, upd s2 (4 * k + j) _, rfl, rfl, rfl, by omega, z8X shm f s2 (zkV f (by omega)) hf1_1⟩ ⟨rfl, rfl, rfl, rfl, rfl, rfl, rfl, trivial⟩ ⟨rfl, rfl, rfl, trivial⟩ ?_
   omega
  ·have hj4 : j = 4 := by omega
   subst hj4
   refine Qe<|(gl) ?_
   refine Qzr ⟨k + 1, s2, rfl, rfl, rfl, by omega, by rw [show 4 * (k + 1) = 4 * k + 4 by omega]; exact hf1_1⟩ ⟨rfl, rfl, rfl, rfl, rfl, trivial⟩ ⟨rfl, rfl, rfl, trivial⟩ ?_
   omega
 ·have hk : k = 4 := by omega
  subst hk
  refine (jo)<|(Qd 2)<|(j4)<|Qr ?_
  rw [← zh hf0_1]
  exact ⟨_, rfl, ya 1⟩
theorem xQ (n k : Nat) (hn : n < 18446744073709551616) (hk : k ≤ 64) : Fp G 121 #[u n, ii k] (sv (xP n k)) := by
 refine Qf1 Tryz.func121 ?_
 refine (g4) ?_
 refine xB (v := sv []) rfl rfl ?_
 refine (gj) ?_
 refine xB (v := sv []) rfl rfl ?_
 refine Qn<|(ge)<|(Qm)<|Qn<|Qb ?_
 refine Qz (fun kk E m => ∃ (i : Nat), kk = k - i ∧ E = [(0, u (n / 256 ^ i)), (1, ii k), (5, sv (xP n i)), (6, ii k), (7, ii i)] ∧ m = [] ∧ (i ≤ k)) ⟨0, rfl, rfl, rfl, by omega⟩ ⟨by rw [Nat.pow_zero, Nat.div_one]; rfl, rfl, rfl, rfl, rfl, trivial⟩ trivial ?_
 rintro kk E m ⟨i, rfl, rfl, rfl, hf0_0⟩
 have hq : n / 256 ^ i < 18446744073709551616 := Nat.lt_of_le_of_lt (Nat.div_le_self _ _) hn
 have hll := zK n i
 refine (gq) ?_
 refine (Qcd) (fun hc0=>?_) fun hc0=>?_
 ·refine Qk<|Qs<|Qb<|Qs<|Qp<|(Qm)<|(Qm) ?_
  refine yY (Uu 31) (Uu 5) rfl rfl rfl ?_
  refine yj 0 #[by8 (n / 256 ^ i % 256)] (Uu 22 rfl) (Uz 5 rfl) (Ub 5 rfl) (by decide) (by decide) rfl (by kernel_rfl) rfl fun r1 => ?_
  refine zE (l := [n / 256 ^ i % 256]) (xq _ _ (by rfl)) (zZ 0 rfl ⟨[], trivial⟩) (Uu 22) (Uu 5) (Uu 9) rfl rfl rfl ?_
  refine zX rfl rfl rfl (by simp; omega) ?_
  refine (g3)<|(je) ?_
  refine YH (q := 256) rfl rfl rfl (by omega) (by omega) ?_
  refine (jb) ?_
  refine Qzr ⟨i + 1, rfl, rfl, rfl, by omega⟩ ⟨by rw [Nat.pow_succ, ← Nat.div_div_eq_div_mul]; rfl, rfl, by rw [← zbv]; rfl, rfl, rfl, trivial⟩ trivial ?_
  omega
 ·have hik : i = k := by omega
  subst hik
  refine Qe<|(g6)<|(gt) ?_
  exact ⟨_, rfl, yt⟩
theorem xI (l : LN) (hl : l.length ≤ 8) (hb : By l) : Fp G 157 #[sv l] (u (leN l)) := by
 refine Qf1 Tryz.func157 ?_
 refine (gc)<|(gc)<|(ge)<|(QU) ?_
 refine xG (q := 1) rfl rfl rfl (by omega) (by omega) ?_
 refine (g3)<|Qb ?_
 refine Qz (fun kk E m => ∃ (n : Nat), kk = 2 * n ∧ E = [(0, sv l), (3, u (leN (l.drop n))), (4, .int .i64 (((n : Nat) : Int) - 1))] ∧ m = [] ∧ (n ≤ l.length)) ⟨l.length, rfl, rfl, rfl, Nat.le_refl _⟩ ⟨rfl, by rw [List.drop_length]; rfl, rfl, trivial⟩ trivial ?_
 rintro kk E m ⟨n, rfl, rfl, rfl, hf0_0⟩
 refine (ge)<|(QE)<|Qn ?_
 refine (Qcd) (fun hc0=>?_) fun hc0=>?_
 ·obtain ⟨i, rfl⟩ : ∃ i, n = i + 1 := ⟨n - 1, by omega⟩
  have hsm := zah hl hb i
  have hbi : l[i] < 256 := hb _ (List.getElem_mem _)
  refine Qk<|Qs<|Qb<|(je) ?_
  refine xl (q := 256) rfl rfl rfl  ?_
  refine (Au (Nat.mod_eq_of_lt (show leN (l.drop (i + 1)) * 256 < 18446744073709551616 by omega)))<|(gb) ?_
  refine z6 (congrArg (Value.int .i64) (show ((i + 1 : Nat) : Int) - 1 = ((i : Nat) : Int) by omega)) ?_
  refine Zi (Uu 9) rfl rfl (List.getElem?_eq_getElem (show i < l.length by omega)) (hb _ (List.getElem_mem _)) rfl ?_
  refine xx (Uu 5) (Uu 31) rfl rfl rfl ?_
  refine (Au (Nat.mod_eq_of_lt (show l[i] < 18446744073709551616 by omega)))<|(Qau) ?_
  refine (Au (Nat.mod_eq_of_lt (show leN (l.drop (i + 1)) * 256 + l[i] < 18446744073709551616 by omega)))<|(g3)<|(je) ?_
  refine xG (q := 1) rfl rfl rfl (by omega) (by omega) ?_
  refine (g3) ?_
  refine Qzr ⟨i, rfl, rfl, rfl, by omega⟩ ⟨rfl, by rw [zeI (show i < l.length by omega)]; rfl, congrArg (fun z => some (Value.int .i64 z)) (show ((i + 1 : Nat) : Int) - 1 - 1 = ((i : Nat) : Int) - 1 by omega), trivial⟩ trivial ?_
  omega
 ·have hn0 : n = 0 := by omega
  subst hn0
  refine Qe<|(g6)<|(gt) ?_
  exact ⟨_, rfl, yt⟩
theorem z1T (r p a h : NN) (n : Int) (l : LN) (hl : l.length ≤ 16) (hb : By l) (ha0 : a 0 < 18446744073709551616) (ha1 : a 1 < 18446744073709551616) (ha2 : a 2 < 4) (hr0 : r 0 < 18446744073709551616) (hr1 : r 1 < 18446744073709551616) : Fp G 228 #[PV r p a h n, sv l] (PV r p (wd (pst (k3 r) (w3 a) l)) (fun _ => 0) 0) := by
 have hB : leN (l ++ [1]) < 2 ^ 130 := Nat.lt_trans (z11 hb hl) (by decide)
 have hA := zeH ha0 ha1 ha2
 obtain ⟨B, hBe⟩ : ∃ B, B = leN (l ++ [1]) := ⟨_, rfl⟩
 rw [← hBe] at hB
 have hps : pst (k3 r) (w3 a) l = (w3 a + B) % QQ * k3 r % QQ := by rw [hBe]; rfl
 refine Qf1 Tryz.func228 ?_
 refine (g4)<|(Qh 0) fun r1=>(QH 1) fun r2=>Qn<|(g6) ?_
 refine zX (k := [1]) rfl rfl rfl (by simp; omega) ?_
 refine (g3)<|Qs<|Qb ?_
 refine Qz (fun kk E m => ∃ (z : Nat), kk = 24 - z ∧ E = [(1, sv l), (2, ptr r1), (4, ptr r2), (5, sv (bl l z))] ∧ m = [(0, some ⟨r1, cells 24 [pI .u64 2 r, pI .u64 2 p, pI .u64 3 a, pI .u8 16 h, pV (.int .i64 n)], 247⟩), (1, some ⟨r2, cells 24 [pI .u64 2 (fun _ => 0), pI .u64 2 (fun _ => 0), pI .u64 3 (fun _ => 0), pI .u8 16 (fun _ => 0), pV (.int .i64 0)], 247⟩)] ∧ (l.length + 1 + z ≤ 24)) ⟨0, rfl, rfl, rfl, by omega⟩ ⟨rfl, rfl, rfl, by rw [← List.append_nil (l ++ [1])]; rfl, trivial⟩ ⟨rfl, rfl, trivial⟩ ?_
 rintro kk E m ⟨z, rfl, rfl, rfl, hf0_0⟩
 have hbm := zee l z
 refine (ge)<|(QU)<|(Ql)<|Qn ?_
 refine (Qcd) (fun hc0=>?_) fun hc0=>?_
 ·refine Qk<|Qb<|Qp<|(Qm) ?_
  refine zX (k := [0]) rfl rfl rfl (by rw [zee]; simp; omega) ?_
  refine (g3) ?_
  refine Qzr ⟨z + 1, rfl, rfl, rfl, by omega⟩ ⟨rfl, rfl, rfl, by rw [← zh6]; rfl, trivial⟩ ⟨rfl, rfl, trivial⟩ ?_
  omega
 ·have hbm : (bl l z).length = 24 := by omega
  have hbb := zjX hb z
  refine Qe<|(gr)<|(Qm) ?_
  refine yn 0 8 (Uu 9) rfl rfl rfl rfl ⟨_, rfl⟩ (by omega) (by omega) rfl ?_
  refine zd rfl (Un 157) (xI _ (by rw [List.length_take]; omega) (xZ hbb _ _)) rfl rfl ?_
  refine (Av (u (w8 (bl l z) 0)))<|(Qm) ?_
  refine yn 8 16 (Uu 9) rfl rfl rfl ⟨_, rfl⟩ ⟨_, rfl⟩ (by omega) (by omega) rfl ?_
  refine zd rfl (Un 157) (xI _ (by rw [List.length_take]; omega) (xZ hbb _ _)) rfl rfl ?_
  refine (Av (u (w8 (bl l z) 1)))<|(Qm) ?_
  refine yn 16 24 (Uu 9) rfl rfl rfl ⟨_, rfl⟩ ⟨_, rfl⟩ (by omega) (by omega) rfl ?_
  refine zd rfl (Un 157) (xI _ (by rw [List.length_take]; omega) (xZ hbb _ _)) rfl rfl ?_
  refine (Av (u (w8 (bl l z) 2))) ?_
  refine zV (arr .u64 3 (w8 (bl l z))) (Ub 245 rfl) (Uu 245 rfl) (Uz 31 rfl) rfl rfl rfl ?_
  refine (Ca (vL _ (xb hbb 0) (xb hbb 1) (ziI hb hl hbm))) ?_
  refine z6 (congrArg p5 (((zef hbm).trans (zcU l z)).trans hBe.symm)) ?_
  refine (QH 2) fun r3=>(Qt 2)<|(gj)<|(Qf 4)<|(Qv 2 0) ?_
  refine (Ca (vL a ha0 ha1 ha2))<|(QH 3) fun r4=>(Qt 3)<|Qn<|(ji) ?_
  refine Qz (fun kk E m => ∃ (i : Nat) (s : Nat → Nat), kk = 5 - i ∧ E = [(2, ptr r1), (4, ptr r2), (6, ptr r3), (7, ptr r4), (30, ii i)] ∧ m = [(0, some ⟨r1, cells 24 [pI .u64 2 r, pI .u64 2 p, pI .u64 3 a, pI .u8 16 h, pV (.int .i64 n)], 247⟩), (1, some ⟨r2, cells 24 [pI .u64 2 (fun _ => 0), pI .u64 2 (fun _ => 0), pI .u64 3 (fun _ => 0), pI .u8 16 (fun _ => 0), pV (.int .i64 0)], 247⟩), (2, some ⟨r3, arr .u64 5 (d26 B), 295⟩), (3, some ⟨r4, arr .u64 5 s, 295⟩)] ∧ (i ≤ 5) ∧ (∀ j, j < i → s j = d26 (w3 a) j + d26 B j) ∧ (∀ j, i ≤ j → s j = d26 (w3 a) j)) ⟨0, d26 (w3 a), rfl, rfl, rfl, by omega, fun j hj => absurd hj (Nat.not_lt_zero j), fun j _ => rfl⟩ ⟨rfl, rfl, rfl, rfl, rfl, trivial⟩ ⟨rfl, rfl, rfl, rfl, trivial⟩ ?_
  rintro kk E m ⟨i, s, rfl, rfl, rfl, hf1_0, hf1_1, hf1_2⟩
  have hd1 := yT (w3 a) i
  have hd2 := yT B i
  have hsi := hf1_2 i (Nat.le_refl i)
  refine (gq) ?_
  refine (Qcd) (fun hc1=>?_) fun hc1=>?_
  ·refine Qk<|Qs<|Qb<|Qs<|Qp<|(Qm)<|(Qa)<|Qn<|(Qg)<|(Qm)<|(Qi)<|(Q1 3)<|(Qm)<|(Qi)<|(Q1 2) ?_
   refine (Qau) ?_
   refine (Au (Nat.mod_eq_of_lt (show s i + d26 B i < 18446744073709551616 by omega)))<|(Qi)<|(Qu 3)<|(jc) ?_
   refine Qzr ⟨i + 1, upd s i _, rfl, rfl, rfl, by omega, yN hf1_1 (by rw [hf1_2 i (Nat.le_refl i)]), YZ hf1_2⟩ ⟨rfl, rfl, rfl, rfl, rfl, trivial⟩ ⟨rfl, rfl, rfl, rfl, trivial⟩ ?_
   omega
  ·have hi5 : i = 5 := by omega
   subst hi5
   refine Qe<|(gr)<|(Qd 3) ?_
   refine (Aa hf1_1) ?_
   refine zd rfl (Un 245) (ZP _ (fun j _ => by have := yT (w3 a) j; have := yT B j; omega)) rfl rfl ?_
   refine z6 (congrArg (fun z => p5 (z % QQ)) (zbY _ _ hA hB)) ?_
   refine (Qf 0)<|(Qj 0)<|(QI 0 0 0)<|(Qf 0)<|(Qj 1)<|(QI 0 1 0) ?_
   refine zV (arr .u64 3 (upd r 2 0)) (Ub 245 rfl) (Uu 245 rfl) (Uz 31 rfl) rfl rfl rfl ?_
   refine (Ca (vL (upd r 2 0) hr0 hr1 (by rw [z2T]; decide))) ?_
   refine z6 (congrArg p5 (zku r)) ?_
   refine (Ca (zal _ _ (Y9 _) (zkD hr0 hr1))) ?_
   refine z6 (congrArg p5 hps.symm) ?_
   refine (Ca (z1a _ (Y9 _)))<|(Qf 4)<|(QtC 0 2)<|(gj) ?_
   refine wo (Ub 213 rfl) (Uu 213 rfl) z4M rfl ?_
   refine (Qf 7)<|(QtC 0 3)<|(Qf 23)<|(QtV 0 4)<|Qn<|(gd) ?_
   refine (Av (PV r p (wd (pst (k3 r) (w3 a) l)) (fun _ => 0) 0))<|(QW 1)<|Qn<|Qr ?_
   exact ⟨_, rfl, yb 1⟩
theorem vJ (f : NN) (hf : L8 32 f) : Fp G 202 #[.agg (arr .u8 32 f)] (PV (w8 (bL f)) (fun j => w8 (bL f) (j + 2)) (fun _ => 0) (fun _ => 0) 0) := by
 have hLl := z7B f
 have hLb := z2r hf
 refine Qf1 Tryz.func202 ?_
 refine (g4)<|(Qh 0) fun r1=>(QH 1) fun r2=>Qn<|(ji) ?_
 refine Qz (fun kk E m => ∃ (i : Nat) (s : Nat → Nat), kk = 4 - i ∧ E = [(1, ptr r1), (2, ptr r2), (6, ii i)] ∧ m = [(0, some ⟨r1, arr .u8 32 s, 30⟩), (1, some ⟨r2, cells 24 [pI .u64 2 (fun _ => 0), pI .u64 2 (fun _ => 0), pI .u64 3 (fun _ => 0), pI .u8 16 (fun _ => 0), pV (.int .i64 0)], 247⟩)] ∧ (i ≤ 4) ∧ (∀ j, s j = mk1 f i j)) ⟨0, f, rfl, rfl, rfl, by omega, fun j => by unfold mk1; rw [if_neg (by omega)]⟩ ⟨rfl, rfl, rfl, trivial⟩ ⟨rfl, rfl, trivial⟩ ?_
 rintro kk E m ⟨i, s, rfl, rfl, rfl, hf0_0, hf0_1⟩
 refine (gq) ?_
 refine (Qcd) (fun hc0=>?_) fun hc0=>?_
 ·refine Qk<|Qs<|Qb<|Qs<|Qp<|(Qm)<|(Qa)<|Qn<|Qp<|(Qm)<|(Q7 4)<|(Q2 3)<|(Qi)<|(Q1 0) ?_
  refine Vw (q := 15) rfl rfl rfl  ?_
  refine (jj)<|(jc) ?_
  refine Qzr ⟨i + 1, upd s (4 * i + 3) _, rfl, rfl, rfl, by omega, zf6 hf0_1⟩ ⟨rfl, rfl, rfl, trivial⟩ ⟨rfl, rfl, trivial⟩ ?_
  omega
 ·have hi4 : i = 4 := by omega
  subst hi4
  refine Qe<|Qs<|(gc)<|Qb ?_
  refine Qz (fun kk E m => ∃ (e : Nat) (q : Nat → Nat), kk = 3 - e ∧ E = [(1, ptr r1), (2, ptr r2), (4, ii (4 * (e + 1)))] ∧ m = [(0, some ⟨r1, arr .u8 32 q, 30⟩), (1, some ⟨r2, cells 24 [pI .u64 2 (fun _ => 0), pI .u64 2 (fun _ => 0), pI .u64 3 (fun _ => 0), pI .u8 16 (fun _ => 0), pV (.int .i64 0)], 247⟩)] ∧ (e ≤ 3) ∧ (∀ j, q j = mk2 f e j)) ⟨0, s, rfl, rfl, rfl, by omega, fun j => (hf0_1 j).trans (zhG j)⟩ ⟨rfl, rfl, rfl, trivial⟩ ⟨rfl, rfl, trivial⟩ ?_
  rintro kk E m ⟨e, q, rfl, rfl, rfl, hf1_0, hf1_1⟩
  refine (ge)<|(Ql)<|Qn ?_
  refine (Qcd) (fun hc1=>?_) fun hc1=>?_
  ·refine Qk<|Qs<|Qb<|Qp<|(Qm)<|(Qi)<|(Q1 0) ?_
   refine Vw (q := 252) rfl rfl rfl  ?_
   refine (jj)<|Qn<|(je)<|(Q2 4)<|(g3) ?_
   refine Qzr ⟨e + 1, upd q (4 * (e + 1)) _, rfl, rfl, rfl, by omega, ze6 (by omega) hf1_1⟩ ⟨rfl, rfl, rfl, trivial⟩ ⟨rfl, rfl, trivial⟩ ?_
   omega
  ·have he3 : e = 3 := by omega
   subst he3
   refine (jo)<|(Qsa 0 32)<|(QcS 0) ?_
   refine z6 ((wq q 32).trans (congrArg sv (zkL hf1_1))) ?_
   refine (g3)<|(gr)<|(Qm) ?_
   refine yn 0 8 (Uu 9) rfl rfl rfl rfl ⟨_, rfl⟩ (by omega) (by omega) rfl ?_
   refine zd rfl (Un 157) (xI _ (by rw [List.length_take]; omega) (xZ hLb _ _)) rfl rfl ?_
   refine (Av (u (w8 (bL f) 0)))<|(Qm) ?_
   refine yn 8 16 (Uu 9) rfl rfl rfl ⟨_, rfl⟩ ⟨_, rfl⟩ (by omega) (by omega) rfl ?_
   refine zd rfl (Un 157) (xI _ (by rw [List.length_take]; omega) (xZ hLb _ _)) rfl rfl ?_
   refine (Av (u (w8 (bL f) 1))) ?_
   refine zV (arr .u64 2 (w8 (bL f))) (Ub 244 rfl) (Uu 244 rfl) (Uz 31 rfl) rfl rfl rfl ?_
   refine (Qm) ?_
   refine yn 16 24 (Uu 9) rfl rfl rfl ⟨_, rfl⟩ ⟨_, rfl⟩ (by omega) (by omega) rfl ?_
   refine zd rfl (Un 157) (xI _ (by rw [List.length_take]; omega) (xZ hLb _ _)) rfl rfl ?_
   refine (Av (u (w8 (bL f) (0 + 2))))<|(Qm) ?_
   refine yn 24 32 (Uu 9) rfl rfl rfl ⟨_, rfl⟩ hLl.symm (by omega) (by omega) rfl ?_
   refine zd rfl (Un 157) (xI _ (by rw [List.length_take]; omega) (xZ hLb _ _)) rfl rfl ?_
   refine (Av (u (w8 (bL f) (1 + 2)))) ?_
   refine zV (arr .u64 2 (fun j => w8 (bL f) (j + 2))) (Ub 244 rfl) (Uu 244 rfl) (Uz 31 rfl) rfl rfl rfl ?_
   refine zA (cells 24 [pI .u64 2 (w8 (bL f)), pI .u64 2 (fun j => w8 (bL f) (j + 2)), pI .u64 3 (fun _ => 0), pI .u8 16 (fun _ => 0), pV (.int .i64 0)]) (Ub 247 rfl) (Uu 247 rfl) zex rfl rfl rfl ?_
   refine (QW 1)<|Qn<|Qr ?_
   exact ⟨_, rfl, yb 1⟩
theorem VM (r p a h : NN) (n : Int) (ha0 : a 0 < 18446744073709551616) (ha1 : a 1 < 18446744073709551616) (hr0 : r 0 < 18446744073709551616) (hr1 : r 1 < 18446744073709551616) : Fp G 227 #[PV r p a h n] (ii (if (yA r a n && okh n h 16) = true then 0 else 9)) := by
 refine Qf1 Tryz.func227 ?_
 refine (g4)<|(Qh 0) fun r1=>(j3) ?_
 refine wo (Ub 30 rfl) (Uu 30 rfl) z4M rfl ?_
 refine (QH 1) fun r2=>(j4)<|(gr)<|(Qsa 0 32)<|(Qf 0)<|(Qj 0)<|(QI 0 0 0) ?_
 refine (Ca (xQ (r 0) 8 hr0 (by decide)))<|(Qf 0)<|(Qj 1)<|(QI 0 1 0) ?_
 refine (Ca (xQ (r 1) 8 hr1 (by decide))) ?_
 refine zX rfl rfl rfl (by simp [zK]) ?_
 refine (Av (sv (lw r))) ?_
 refine Yy (i := 1) (Uu 22) (Uz 5) rfl rfl (zie r) rfl (by omega) rfl ?_
 refine Qn<|Qs ?_
 rcases zgo r a n with hk0 | ⟨hk0, hk1⟩ | ⟨hk0, hk1, hk2⟩ | ⟨hk0, hk1, hk2, hk3⟩ | ⟨hk0, hk1, hk2, hk3, hk4⟩ | ⟨hk0, hk1, hk2, hk3, hk4⟩
 ·skip
  refine (Qg)<|(Qd 1) ?_
  refine (Aa (Yw r)) ?_
  refine (Ca (vJ (kq r) (z16 r)))<|(QJ 0)<|(j9) ?_
  refine ZS (Uu 244) (Uu 31) (Uz 31) vN rfl rfl rfl ?_
  refine (Ab hk0)<|(Qm)<|(gw)<|(QF)<|(Qm)<|(gw)<|(QF)<|(j5)<|(QF)<|(j5)<|(gg)<|(QF) ?_
  refine (Ab (show false = yA r a n from VU (.inl (hk0))))<|(g3)<|(gs)<|(Qf 7)<|(Qv 3 0)<|(Qm)<|Qn<|Qb ?_
  refine Qz (fun kk E m => ∃ (i : Nat), kk = 16 - i ∧ E = [(1, ptr r1), (2, ii 0), (4, .bool (yA r a n && okh n h i)), (52, .agg (arr .u8 16 h)), (53, ii i)] ∧ m = [(0, some ⟨r1, cells 24 [pI .u64 2 r, pI .u64 2 p, pI .u64 3 a, pI .u8 16 h, pV (.int .i64 n)], 247⟩), (1, some ⟨r2, arr .u8 32 (fun j => if 0 ≤ j ∧ j < 0 + min (lw r).length 32 then (lw r).getD (j - 0) 0 else 0), 30⟩)] ∧ (i ≤ 16)) ⟨0, rfl, rfl, rfl, by omega⟩ ⟨rfl, rfl, by rw [show okh n h 0 = true from rfl, Bool.and_true]; rfl, rfl, rfl, trivial⟩ ⟨rfl, rfl, trivial⟩ ?_
  rintro kk E m ⟨i, rfl, rfl, rfl, hf0_0⟩
  refine (gq) ?_
  refine (Qcd) (fun hc0=>?_) fun hc0=>?_
  ·refine Qk<|Qs<|Qb<|Qs<|Qp<|(Qm)<|(QX)<|(Qa)<|(Qa)<|Qn ?_
   rcases YI (yA r a n) n h i with hok | ⟨hok, hlt⟩ | ⟨hok, hlt⟩
   ·skip
    refine (je) ?_
    refine (Ab hok)<|(j5)<|(Qo)<|(Qw)<|(Qw)<|(Qo)<|(QF) ?_
    refine (Ab (z29 hok))<|(jb) ?_
    refine Qzr ⟨i + 1, rfl, rfl, rfl, by omega⟩ ⟨rfl, rfl, rfl, rfl, rfl, trivial⟩ ⟨rfl, rfl, trivial⟩ ?_
    omega
   ·skip
    refine (je) ?_
    refine (Ab hok)<|(gn)<|(jh)<|(Qy)<|(Ql) ?_
    refine z6 (congrArg Value.bool (decide_eq_true hlt)) ?_
    refine (Qy)<|(Qm)<|(g5)<|(Qy)<|(QT)<|(QT) ?_
    refine (Ab (z2e hok hlt))<|(jb) ?_
    refine Qzr ⟨i + 1, rfl, rfl, rfl, by omega⟩ ⟨rfl, rfl, rfl, rfl, rfl, trivial⟩ ⟨rfl, rfl, trivial⟩ ?_
    omega
   ·skip
    refine (je) ?_
    refine (Ab hok)<|(gn)<|(jh)<|(Qy)<|(Ql) ?_
    refine z6 (congrArg Value.bool (decide_eq_false hlt)) ?_
    refine (Qy)<|(gn)<|(Qc)<|(Qy)<|(QF)<|(QT) ?_
    refine (Ab (z2j hok hlt))<|(jb) ?_
    refine Qzr ⟨i + 1, rfl, rfl, rfl, by omega⟩ ⟨rfl, rfl, rfl, rfl, rfl, trivial⟩ ⟨rfl, rfl, trivial⟩ ?_
    omega
  ·have hi16 : i = 16 := by omega
   subst hi16
   refine Qe<|(ge)<|(Q0)<|Qn ?_
   refine zi rfl ?_ ?_
   ·intro hc1
    have hfin : ¬ (yA r a n && okh n h 16) = true := fun hx => by rw [hx] at hc1; exact absurd hc1 (by decide)
    refine (gz) ?_
    first | rw [if_pos hfin] | rw [if_neg hfin]
    exact ⟨_, rfl, yt⟩
   ·intro hc1
    have hfin : (yA r a n && okh n h 16) = true := by simpa using hc1
    refine Qk<|(gz) ?_
    first | rw [if_pos hfin] | rw [if_neg hfin]
    exact ⟨_, rfl, yt⟩
 ·skip
  refine (Qg)<|(Qd 1) ?_
  refine (Aa (Yw r)) ?_
  refine (Ca (vJ (kq r) (z16 r)))<|(QJ 0)<|(j9) ?_
  refine ZS (Uu 244) (Uu 31) (Uz 31) vN rfl rfl rfl ?_
  refine (Ab hk0)<|(g7)<|(jh)<|(Qy)<|(QE) ?_
  refine z6 (congrArg Value.bool (decide_eq_false hk1)) ?_
  refine (QT)<|(Qm)<|(gw)<|(QF)<|(j5)<|(QF)<|(j5)<|(gg)<|(QF) ?_
  refine (Ab (show false = yA r a n from VU (.inr (.inl (decide_eq_false hk1)))))<|(g3)<|(gs)<|(Qf 7)<|(Qv 3 0)<|(Qm)<|Qn<|Qb ?_
  refine Qz (fun kk E m => ∃ (i : Nat), kk = 16 - i ∧ E = [(1, ptr r1), (2, ii 0), (4, .bool (yA r a n && okh n h i)), (52, .agg (arr .u8 16 h)), (53, ii i)] ∧ m = [(0, some ⟨r1, cells 24 [pI .u64 2 r, pI .u64 2 p, pI .u64 3 a, pI .u8 16 h, pV (.int .i64 n)], 247⟩), (1, some ⟨r2, arr .u8 32 (fun j => if 0 ≤ j ∧ j < 0 + min (lw r).length 32 then (lw r).getD (j - 0) 0 else 0), 30⟩)] ∧ (i ≤ 16)) ⟨0, rfl, rfl, rfl, by omega⟩ ⟨rfl, rfl, by rw [show okh n h 0 = true from rfl, Bool.and_true]; rfl, rfl, rfl, trivial⟩ ⟨rfl, rfl, trivial⟩ ?_
  rintro kk E m ⟨i, rfl, rfl, rfl, hf0_0⟩
  refine (gq) ?_
  refine (Qcd) (fun hc0=>?_) fun hc0=>?_
  ·refine Qk<|Qs<|Qb<|Qs<|Qp<|(Qm)<|(QX)<|(Qa)<|(Qa)<|Qn ?_
   rcases YI (yA r a n) n h i with hok | ⟨hok, hlt⟩ | ⟨hok, hlt⟩
   ·skip
    refine (je) ?_
    refine (Ab hok)<|(j5)<|(Qo)<|(Qw)<|(Qw)<|(Qo)<|(QF) ?_
    refine (Ab (z29 hok))<|(jb) ?_
    refine Qzr ⟨i + 1, rfl, rfl, rfl, by omega⟩ ⟨rfl, rfl, rfl, rfl, rfl, trivial⟩ ⟨rfl, rfl, trivial⟩ ?_
    omega
   ·skip
    refine (je) ?_
    refine (Ab hok)<|(gn)<|(jh)<|(Qy)<|(Ql) ?_
    refine z6 (congrArg Value.bool (decide_eq_true hlt)) ?_
    refine (Qy)<|(Qm)<|(g5)<|(Qy)<|(QT)<|(QT) ?_
    refine (Ab (z2e hok hlt))<|(jb) ?_
    refine Qzr ⟨i + 1, rfl, rfl, rfl, by omega⟩ ⟨rfl, rfl, rfl, rfl, rfl, trivial⟩ ⟨rfl, rfl, trivial⟩ ?_
    omega
   ·skip
    refine (je) ?_
    refine (Ab hok)<|(gn)<|(jh)<|(Qy)<|(Ql) ?_
    refine z6 (congrArg Value.bool (decide_eq_false hlt)) ?_
    refine (Qy)<|(gn)<|(Qc)<|(Qy)<|(QF)<|(QT) ?_
    refine (Ab (z2j hok hlt))<|(jb) ?_
    refine Qzr ⟨i + 1, rfl, rfl, rfl, by omega⟩ ⟨rfl, rfl, rfl, rfl, rfl, trivial⟩ ⟨rfl, rfl, trivial⟩ ?_
    omega
  ·have hi16 : i = 16 := by omega
   subst hi16
   refine Qe<|(ge)<|(Q0)<|Qn ?_
   refine zi rfl ?_ ?_
   ·intro hc1
    have hfin : ¬ (yA r a n && okh n h 16) = true := fun hx => by rw [hx] at hc1; exact absurd hc1 (by decide)
    refine (gz) ?_
    first | rw [if_pos hfin] | rw [if_neg hfin]
    exact ⟨_, rfl, yt⟩
   ·intro hc1
    have hfin : (yA r a n && okh n h 16) = true := by simpa using hc1
    refine Qk<|(gz) ?_
    first | rw [if_pos hfin] | rw [if_neg hfin]
    exact ⟨_, rfl, yt⟩
 ·skip
  refine (Qg)<|(Qd 1) ?_
  refine (Aa (Yw r)) ?_
  refine (Ca (vJ (kq r) (z16 r)))<|(QJ 0)<|(j9) ?_
  refine ZS (Uu 244) (Uu 31) (Uz 31) vN rfl rfl rfl ?_
  refine (Ab hk0)<|(g7)<|(jh)<|(Qy)<|(QE) ?_
  refine z6 (congrArg Value.bool (decide_eq_true hk1)) ?_
  refine (QT)<|(g7)<|(jh)<|(Qy)<|(Ql) ?_
  refine z6 (congrArg Value.bool (decide_eq_false hk2)) ?_
  refine (QT)<|(j5)<|(QF)<|(j5)<|(gg)<|(QF) ?_
  refine (Ab (show false = yA r a n from VU (.inr (.inr (.inl (decide_eq_false hk2))))))<|(g3)<|(gs)<|(Qf 7)<|(Qv 3 0)<|(Qm)<|Qn<|Qb ?_
  refine Qz (fun kk E m => ∃ (i : Nat), kk = 16 - i ∧ E = [(1, ptr r1), (2, ii 0), (4, .bool (yA r a n && okh n h i)), (52, .agg (arr .u8 16 h)), (53, ii i)] ∧ m = [(0, some ⟨r1, cells 24 [pI .u64 2 r, pI .u64 2 p, pI .u64 3 a, pI .u8 16 h, pV (.int .i64 n)], 247⟩), (1, some ⟨r2, arr .u8 32 (fun j => if 0 ≤ j ∧ j < 0 + min (lw r).length 32 then (lw r).getD (j - 0) 0 else 0), 30⟩)] ∧ (i ≤ 16)) ⟨0, rfl, rfl, rfl, by omega⟩ ⟨rfl, rfl, by rw [show okh n h 0 = true from rfl, Bool.and_true]; rfl, rfl, rfl, trivial⟩ ⟨rfl, rfl, trivial⟩ ?_
  rintro kk E m ⟨i, rfl, rfl, rfl, hf0_0⟩
  refine (gq) ?_
  refine (Qcd) (fun hc0=>?_) fun hc0=>?_
  ·refine Qk<|Qs<|Qb<|Qs<|Qp<|(Qm)<|(QX)<|(Qa)<|(Qa)<|Qn ?_
   rcases YI (yA r a n) n h i with hok | ⟨hok, hlt⟩ | ⟨hok, hlt⟩
   ·skip
    refine (je) ?_
    refine (Ab hok)<|(j5)<|(Qo)<|(Qw)<|(Qw)<|(Qo)<|(QF) ?_
    refine (Ab (z29 hok))<|(jb) ?_
    refine Qzr ⟨i + 1, rfl, rfl, rfl, by omega⟩ ⟨rfl, rfl, rfl, rfl, rfl, trivial⟩ ⟨rfl, rfl, trivial⟩ ?_
    omega
   ·skip
    refine (je) ?_
    refine (Ab hok)<|(gn)<|(jh)<|(Qy)<|(Ql) ?_
    refine z6 (congrArg Value.bool (decide_eq_true hlt)) ?_
    refine (Qy)<|(Qm)<|(g5)<|(Qy)<|(QT)<|(QT) ?_
    refine (Ab (z2e hok hlt))<|(jb) ?_
    refine Qzr ⟨i + 1, rfl, rfl, rfl, by omega⟩ ⟨rfl, rfl, rfl, rfl, rfl, trivial⟩ ⟨rfl, rfl, trivial⟩ ?_
    omega
   ·skip
    refine (je) ?_
    refine (Ab hok)<|(gn)<|(jh)<|(Qy)<|(Ql) ?_
    refine z6 (congrArg Value.bool (decide_eq_false hlt)) ?_
    refine (Qy)<|(gn)<|(Qc)<|(Qy)<|(QF)<|(QT) ?_
    refine (Ab (z2j hok hlt))<|(jb) ?_
    refine Qzr ⟨i + 1, rfl, rfl, rfl, by omega⟩ ⟨rfl, rfl, rfl, rfl, rfl, trivial⟩ ⟨rfl, rfl, trivial⟩ ?_
    omega
  ·have hi16 : i = 16 := by omega
   subst hi16
   refine Qe<|(ge)<|(Q0)<|Qn ?_
   refine zi rfl ?_ ?_
   ·intro hc1
    have hfin : ¬ (yA r a n && okh n h 16) = true := fun hx => by rw [hx] at hc1; exact absurd hc1 (by decide)
    refine (gz) ?_
    first | rw [if_pos hfin] | rw [if_neg hfin]
    exact ⟨_, rfl, yt⟩
   ·intro hc1
    have hfin : (yA r a n && okh n h 16) = true := by simpa using hc1
    refine Qk<|(gz) ?_
    first | rw [if_pos hfin] | rw [if_neg hfin]
    exact ⟨_, rfl, yt⟩
 ·skip
  refine (Qg)<|(Qd 1) ?_
  refine (Aa (Yw r)) ?_
  refine (Ca (vJ (kq r) (z16 r)))<|(QJ 0)<|(j9) ?_
  refine ZS (Uu 244) (Uu 31) (Uz 31) vN rfl rfl rfl ?_
  refine (Ab hk0)<|(g7)<|(jh)<|(Qy)<|(QE) ?_
  refine z6 (congrArg Value.bool (decide_eq_true hk1)) ?_
  refine (QT)<|(g7)<|(jh)<|(Qy)<|(Ql) ?_
  refine z6 (congrArg Value.bool (decide_eq_true hk2)) ?_
  refine (QT)<|(g7)<|(Qf 4)<|(Qy)<|(QA 6 2)<|(Qy)<|(QI 2 2 0)<|(Qy)<|(Ql)<|(Qaf)<|(QT)<|(j5)<|(gg)<|(QF) ?_
  refine (Ab (show false = yA r a n from VU (.inr (.inr (.inr (.inl (decide_eq_false hk3)))))))<|(g3)<|(gs)<|(Qf 7)<|(Qv 3 0)<|(Qm)<|Qn<|Qb ?_
  refine Qz (fun kk E m => ∃ (i : Nat), kk = 16 - i ∧ E = [(1, ptr r1), (2, ii 0), (4, .bool (yA r a n && okh n h i)), (52, .agg (arr .u8 16 h)), (53, ii i)] ∧ m = [(0, some ⟨r1, cells 24 [pI .u64 2 r, pI .u64 2 p, pI .u64 3 a, pI .u8 16 h, pV (.int .i64 n)], 247⟩), (1, some ⟨r2, arr .u8 32 (fun j => if 0 ≤ j ∧ j < 0 + min (lw r).length 32 then (lw r).getD (j - 0) 0 else 0), 30⟩)] ∧ (i ≤ 16)) ⟨0, rfl, rfl, rfl, by omega⟩ ⟨rfl, rfl, by rw [show okh n h 0 = true from rfl, Bool.and_true]; rfl, rfl, rfl, trivial⟩ ⟨rfl, rfl, trivial⟩ ?_
  rintro kk E m ⟨i, rfl, rfl, rfl, hf0_0⟩
  refine (gq) ?_
  refine (Qcd) (fun hc0=>?_) fun hc0=>?_
  ·refine Qk<|Qs<|Qb<|Qs<|Qp<|(Qm)<|(QX)<|(Qa)<|(Qa)<|Qn ?_
   rcases YI (yA r a n) n h i with hok | ⟨hok, hlt⟩ | ⟨hok, hlt⟩
   ·skip
    refine (je) ?_
    refine (Ab hok)<|(j5)<|(Qo)<|(Qw)<|(Qw)<|(Qo)<|(QF) ?_
    refine (Ab (z29 hok))<|(jb) ?_
    refine Qzr ⟨i + 1, rfl, rfl, rfl, by omega⟩ ⟨rfl, rfl, rfl, rfl, rfl, trivial⟩ ⟨rfl, rfl, trivial⟩ ?_
    omega
   ·skip
    refine (je) ?_
    refine (Ab hok)<|(gn)<|(jh)<|(Qy)<|(Ql) ?_
    refine z6 (congrArg Value.bool (decide_eq_true hlt)) ?_
    refine (Qy)<|(Qm)<|(g5)<|(Qy)<|(QT)<|(QT) ?_
    refine (Ab (z2e hok hlt))<|(jb) ?_
    refine Qzr ⟨i + 1, rfl, rfl, rfl, by omega⟩ ⟨rfl, rfl, rfl, rfl, rfl, trivial⟩ ⟨rfl, rfl, trivial⟩ ?_
    omega
   ·skip
    refine (je) ?_
    refine (Ab hok)<|(gn)<|(jh)<|(Qy)<|(Ql) ?_
    refine z6 (congrArg Value.bool (decide_eq_false hlt)) ?_
    refine (Qy)<|(gn)<|(Qc)<|(Qy)<|(QF)<|(QT) ?_
    refine (Ab (z2j hok hlt))<|(jb) ?_
    refine Qzr ⟨i + 1, rfl, rfl, rfl, by omega⟩ ⟨rfl, rfl, rfl, rfl, rfl, trivial⟩ ⟨rfl, rfl, trivial⟩ ?_
    omega
  ·have hi16 : i = 16 := by omega
   subst hi16
   refine Qe<|(ge)<|(Q0)<|Qn ?_
   refine zi rfl ?_ ?_
   ·intro hc1
    have hfin : ¬ (yA r a n && okh n h 16) = true := fun hx => by rw [hx] at hc1; exact absurd hc1 (by decide)
    refine (gz) ?_
    first | rw [if_pos hfin] | rw [if_neg hfin]
    exact ⟨_, rfl, yt⟩
   ·intro hc1
    have hfin : (yA r a n && okh n h 16) = true := by simpa using hc1
    refine Qk<|(gz) ?_
    first | rw [if_pos hfin] | rw [if_neg hfin]
    exact ⟨_, rfl, yt⟩
 ·skip
  refine (Qg)<|(Qd 1) ?_
  refine (Aa (Yw r)) ?_
  refine (Ca (vJ (kq r) (z16 r)))<|(QJ 0)<|(j9) ?_
  refine ZS (Uu 244) (Uu 31) (Uz 31) vN rfl rfl rfl ?_
  refine (Ab hk0)<|(g7)<|(jh)<|(Qy)<|(QE) ?_
  refine z6 (congrArg Value.bool (decide_eq_true hk1)) ?_
  refine (QT)<|(g7)<|(jh)<|(Qy)<|(Ql) ?_
  refine z6 (congrArg Value.bool (decide_eq_true hk2)) ?_
  refine (QT)<|(g7)<|(Qf 4)<|(Qy)<|(QA 6 2)<|(Qy)<|(QI 2 2 0)<|(Qy)<|(Ql)<|(Qat)<|(QT)<|(g7)<|(Qf 4)<|(Qy)<|(Qv 2 0)<|(Qy) ?_
  refine (Ca (vL a ha0 ha1 hk3))<|(Qy) ?_
  refine zd rfl (Un 245) (ZP _ (fun j _ => Nat.lt_trans (yT _ j) (by decide))) rfl rfl ?_
  refine z6 (congrArg (fun z => p5 (z % QQ)) (zfx (zeH ha0 ha1 hk3))) ?_
  refine (Qy) ?_
  refine (Ca (z1a _ (Y9 _)))<|(Qy)<|(Qf 4)<|(Qy)<|(Qv 2 0)<|(Qy) ?_
  refine ZS (Uu 245) (Uu 31) (Uz 31) zeo rfl rfl rfl ?_
  refine (Ab hk4)<|(QT) ?_
  refine (Ab (show false = yA r a n from VU (.inr (.inr (.inr (.inr (hk4)))))))<|(g3)<|(gs)<|(Qf 7)<|(Qv 3 0)<|(Qm)<|Qn<|Qb ?_
  refine Qz (fun kk E m => ∃ (i : Nat), kk = 16 - i ∧ E = [(1, ptr r1), (2, ii 0), (4, .bool (yA r a n && okh n h i)), (52, .agg (arr .u8 16 h)), (53, ii i)] ∧ m = [(0, some ⟨r1, cells 24 [pI .u64 2 r, pI .u64 2 p, pI .u64 3 a, pI .u8 16 h, pV (.int .i64 n)], 247⟩), (1, some ⟨r2, arr .u8 32 (fun j => if 0 ≤ j ∧ j < 0 + min (lw r).length 32 then (lw r).getD (j - 0) 0 else 0), 30⟩)] ∧ (i ≤ 16)) ⟨0, rfl, rfl, rfl, by omega⟩ ⟨rfl, rfl, by rw [show okh n h 0 = true from rfl, Bool.and_true]; rfl, rfl, rfl, trivial⟩ ⟨rfl, rfl, trivial⟩ ?_
  rintro kk E m ⟨i, rfl, rfl, rfl, hf0_0⟩
  refine (gq) ?_
  refine (Qcd) (fun hc0=>?_) fun hc0=>?_
  ·refine Qk<|Qs<|Qb<|Qs<|Qp<|(Qm)<|(QX)<|(Qa)<|(Qa)<|Qn ?_
   rcases YI (yA r a n) n h i with hok | ⟨hok, hlt⟩ | ⟨hok, hlt⟩
   ·skip
    refine (je) ?_
    refine (Ab hok)<|(j5)<|(Qo)<|(Qw)<|(Qw)<|(Qo)<|(QF) ?_
    refine (Ab (z29 hok))<|(jb) ?_
    refine Qzr ⟨i + 1, rfl, rfl, rfl, by omega⟩ ⟨rfl, rfl, rfl, rfl, rfl, trivial⟩ ⟨rfl, rfl, trivial⟩ ?_
    omega
   ·skip
    refine (je) ?_
    refine (Ab hok)<|(gn)<|(jh)<|(Qy)<|(Ql) ?_
    refine z6 (congrArg Value.bool (decide_eq_true hlt)) ?_
    refine (Qy)<|(Qm)<|(g5)<|(Qy)<|(QT)<|(QT) ?_
    refine (Ab (z2e hok hlt))<|(jb) ?_
    refine Qzr ⟨i + 1, rfl, rfl, rfl, by omega⟩ ⟨rfl, rfl, rfl, rfl, rfl, trivial⟩ ⟨rfl, rfl, trivial⟩ ?_
    omega
   ·skip
    refine (je) ?_
    refine (Ab hok)<|(gn)<|(jh)<|(Qy)<|(Ql) ?_
    refine z6 (congrArg Value.bool (decide_eq_false hlt)) ?_
    refine (Qy)<|(gn)<|(Qc)<|(Qy)<|(QF)<|(QT) ?_
    refine (Ab (z2j hok hlt))<|(jb) ?_
    refine Qzr ⟨i + 1, rfl, rfl, rfl, by omega⟩ ⟨rfl, rfl, rfl, rfl, rfl, trivial⟩ ⟨rfl, rfl, trivial⟩ ?_
    omega
  ·have hi16 : i = 16 := by omega
   subst hi16
   refine Qe<|(ge)<|(Q0)<|Qn ?_
   refine zi rfl ?_ ?_
   ·intro hc1
    have hfin : ¬ (yA r a n && okh n h 16) = true := fun hx => by rw [hx] at hc1; exact absurd hc1 (by decide)
    refine (gz) ?_
    first | rw [if_pos hfin] | rw [if_neg hfin]
    exact ⟨_, rfl, yt⟩
   ·intro hc1
    have hfin : (yA r a n && okh n h 16) = true := by simpa using hc1
    refine Qk<|(gz) ?_
    first | rw [if_pos hfin] | rw [if_neg hfin]
    exact ⟨_, rfl, yt⟩
 ·skip
  refine (Qg)<|(Qd 1) ?_
  refine (Aa (Yw r)) ?_
  refine (Ca (vJ (kq r) (z16 r)))<|(QJ 0)<|(j9) ?_
  refine ZS (Uu 244) (Uu 31) (Uz 31) vN rfl rfl rfl ?_
  refine (Ab hk0)<|(g7)<|(jh)<|(Qy)<|(QE) ?_
  refine z6 (congrArg Value.bool (decide_eq_true hk1)) ?_
  refine (QT)<|(g7)<|(jh)<|(Qy)<|(Ql) ?_
  refine z6 (congrArg Value.bool (decide_eq_true hk2)) ?_
  refine (QT)<|(g7)<|(Qf 4)<|(Qy)<|(QA 6 2)<|(Qy)<|(QI 2 2 0)<|(Qy)<|(Ql)<|(Qat)<|(QT)<|(g7)<|(Qf 4)<|(Qy)<|(Qv 2 0)<|(Qy) ?_
  refine (Ca (vL a ha0 ha1 hk3))<|(Qy) ?_
  refine zd rfl (Un 245) (ZP _ (fun j _ => Nat.lt_trans (yT _ j) (by decide))) rfl rfl ?_
  refine z6 (congrArg (fun z => p5 (z % QQ)) (zfx (zeH ha0 ha1 hk3))) ?_
  refine (Qy) ?_
  refine (Ca (z1a _ (Y9 _)))<|(Qy)<|(Qf 4)<|(Qy)<|(Qv 2 0)<|(Qy) ?_
  refine ZS (Uu 245) (Uu 31) (Uz 31) zeo rfl rfl rfl ?_
  refine (Ab hk4)<|(QT) ?_
  refine (Ab (zfv hk0 hk1 hk2 hk3 hk4))<|(g3)<|(gs)<|(Qf 7)<|(Qv 3 0)<|(Qm)<|Qn<|Qb ?_
  refine Qz (fun kk E m => ∃ (i : Nat), kk = 16 - i ∧ E = [(1, ptr r1), (2, ii 0), (4, .bool (yA r a n && okh n h i)), (52, .agg (arr .u8 16 h)), (53, ii i)] ∧ m = [(0, some ⟨r1, cells 24 [pI .u64 2 r, pI .u64 2 p, pI .u64 3 a, pI .u8 16 h, pV (.int .i64 n)], 247⟩), (1, some ⟨r2, arr .u8 32 (fun j => if 0 ≤ j ∧ j < 0 + min (lw r).length 32 then (lw r).getD (j - 0) 0 else 0), 30⟩)] ∧ (i ≤ 16)) ⟨0, rfl, rfl, rfl, by omega⟩ ⟨rfl, rfl, by rw [show okh n h 0 = true from rfl, Bool.and_true]; rfl, rfl, rfl, trivial⟩ ⟨rfl, rfl, trivial⟩ ?_
  rintro kk E m ⟨i, rfl, rfl, rfl, hf0_0⟩
  refine (gq) ?_
  refine (Qcd) (fun hc0=>?_) fun hc0=>?_
  ·refine Qk<|Qs<|Qb<|Qs<|Qp<|(Qm)<|(QX)<|(Qa)<|(Qa)<|Qn ?_
   rcases YI (yA r a n) n h i with hok | ⟨hok, hlt⟩ | ⟨hok, hlt⟩
   ·skip
    refine (je) ?_
    refine (Ab hok)<|(j5)<|(Qo)<|(Qw)<|(Qw)<|(Qo)<|(QF) ?_
    refine (Ab (z29 hok))<|(jb) ?_
    refine Qzr ⟨i + 1, rfl, rfl, rfl, by omega⟩ ⟨rfl, rfl, rfl, rfl, rfl, trivial⟩ ⟨rfl, rfl, trivial⟩ ?_
    omega
   ·skip
    refine (je) ?_
    refine (Ab hok)<|(gn)<|(jh)<|(Qy)<|(Ql) ?_
    refine z6 (congrArg Value.bool (decide_eq_true hlt)) ?_
    refine (Qy)<|(Qm)<|(g5)<|(Qy)<|(QT)<|(QT) ?_
    refine (Ab (z2e hok hlt))<|(jb) ?_
    refine Qzr ⟨i + 1, rfl, rfl, rfl, by omega⟩ ⟨rfl, rfl, rfl, rfl, rfl, trivial⟩ ⟨rfl, rfl, trivial⟩ ?_
    omega
   ·skip
    refine (je) ?_
    refine (Ab hok)<|(gn)<|(jh)<|(Qy)<|(Ql) ?_
    refine z6 (congrArg Value.bool (decide_eq_false hlt)) ?_
    refine (Qy)<|(gn)<|(Qc)<|(Qy)<|(QF)<|(QT) ?_
    refine (Ab (z2j hok hlt))<|(jb) ?_
    refine Qzr ⟨i + 1, rfl, rfl, rfl, by omega⟩ ⟨rfl, rfl, rfl, rfl, rfl, trivial⟩ ⟨rfl, rfl, trivial⟩ ?_
    omega
  ·have hi16 : i = 16 := by omega
   subst hi16
   refine Qe<|(ge)<|(Q0)<|Qn ?_
   refine zi rfl ?_ ?_
   ·intro hc1
    have hfin : ¬ (yA r a n && okh n h 16) = true := fun hx => by rw [hx] at hc1; exact absurd hc1 (by decide)
    refine (gz) ?_
    first | rw [if_pos hfin] | rw [if_neg hfin]
    exact ⟨_, rfl, yt⟩
   ·intro hc1
    have hfin : (yA r a n && okh n h 16) = true := by simpa using hc1
    refine Qk<|(gz) ?_
    first | rw [if_pos hfin] | rw [if_neg hfin]
    exact ⟨_, rfl, yt⟩
theorem zfL (r p : NN) (A : Nat) (h : NN) (n : Nat) (v : Value) (l : LN) (hv : Sh G v l) (hlb : By l) (hA : A < 2 ^ 130) (hr0 : r 0 < 18446744073709551616) (hr1 : r 1 < 18446744073709551616) (hn : n < 16) (hh : L8 16 h) (hok : (yA r (wd A) n && okh n h 16) = true) (hlen : l.length + 16 ≤ 9223372036854775807) : Fp G 201 #[PV r p (wd A) h n, v] (.tuple #[PV r p (wd (wB (k3 r) A (sS h n l) ((sS h n l).length / 16))) (fun i => ((sS h n l).drop (16 * ((sS h n l).length / 16))).getD i 0) (((sS h n l).drop (16 * ((sS h n l).length / 16))).length : Int), ii 0]) := by
 have hSl := WL h n l
 have hSb := z8M (n := n) (fun j hj => hh j (by omega)) hlb
 refine Qf2 Tryz.func201 ?_
 refine (g4)<|(Qh 0) fun r1=>(QH 1) fun r2=>(g3)<|Qs<|(gd) ?_
 refine (Ca (VM r p (wd A) h n (y9 _ 0) (y9 _ 1) hr0 hr1)) ?_
 refine (Ai (if_pos hok))<|(jm)<|(go)<|(g4)<|(Qf 7)<|(Qv 3 0)<|(QH 2) fun r3=>(Qt 2)<|(jf)<|(Qf 23)<|(QV 4 0) ?_
 refine xn 0 n (Uu 213) (Uz 5) rfl rfl rfl rfl ⟨_, rfl⟩ (by omega) (by omega) (by omega) rfl ?_
 refine (QcS 2) ?_
 refine z6 (wq h n) ?_
 refine (Qm) ?_
 refine zE hv ze (Uu 22) (Uu 5) (Uu 9) rfl rfl rfl ?_
 refine zX rfl rfl rfl (by simp; omega) ?_
 refine (Av (sv (sS h n l)))<|(g3)<|Qs<|Qb ?_
 refine Qz (fun kk E m => ∃ (k : Nat) (ch : Nat → Nat) (cn : Int), kk = (sS h n l).length - 16 * k ∧ E = [(2, ptr r1), (4, ptr r2), (5, ii 0), (8, sv ((sS h n l).drop (16 * k)))] ∧ m = [(0, some ⟨r1, cells 24 [pI .u64 2 r, pI .u64 2 p, pI .u64 3 (wd (wB (k3 r) A (sS h n l) k)), pI .u8 16 ch, pV (.int .i64 cn)], 247⟩), (1, some ⟨r2, cells 24 [pI .u64 2 (fun _ => 0), pI .u64 2 (fun _ => 0), pI .u64 3 (fun _ => 0), pI .u8 16 (fun _ => 0), pV (.int .i64 0)], 247⟩), (2, some ⟨r3, arr .u8 16 h, 213⟩)] ∧ (16 * k ≤ (sS h n l).length)) ⟨0, h, (n : Int), rfl, rfl, rfl, by omega⟩ ⟨rfl, rfl, rfl, rfl, trivial⟩ ⟨rfl, rfl, rfl, trivial⟩ ?_
 rintro kk E m ⟨k, ch, cn, rfl, rfl, rfl, hf0_0⟩
 have hB := z8t (R := k3 r) (S := sS h n l) hA k
 have hdl : ((sS h n l).drop (16 * k)).length = (sS h n l).length - 16 * k := List.length_drop
 refine (ge)<|(QU)<|(QE)<|Qn ?_
 refine (Qcd) (fun hc1=>?_) fun hc1=>?_
 ·refine Qk<|Qb<|(Qg)<|(QD 0)<|(Qm) ?_
  refine yn 0 16 (Uu 9) rfl rfl rfl rfl ⟨_, rfl⟩ (by omega) (by omega) rfl ?_
  refine zd rfl (Un 228) (z1T r p (wd (wB (k3 r) A (sS h n l) k)) ch cn (((sS h n l).drop (16 * k)).take 16) (by rw [List.length_take]; omega) (xZ hSb _ _) (y9 _ 0) (y9 _ 1) (z3m hB) hr0 hr1) rfl rfl ?_
  refine z6 (congrArg (fun z => PV r p (wd (pst (k3 r) z (((sS h n l).drop (16 * k)).take 16))) (fun _ => 0) 0) (z7S hB)) ?_
  refine (Qm) ?_
  refine yn 16 ((sS h n l).drop (16 * k)).length (Uu 9) rfl rfl rfl ⟨_, rfl⟩ rfl (by omega) (by omega) rfl ?_
  refine z6 (congrArg sv (z9J _ k)) ?_
  refine (QW 0)<|(g3) ?_
  refine Qzr ⟨k + 1, fun _ => 0, 0, rfl, rfl, rfl, by omega⟩ ⟨rfl, rfl, rfl, rfl, trivial⟩ ⟨rfl, rfl, rfl, trivial⟩ ?_
  omega
 ·have hk : k = (sS h n l).length / 16 := by omega
  subst hk
  refine (jo) ?_
  refine wo (Ub 213 rfl) (Uu 213 rfl) z4M rfl ?_
  refine (Qm)<|(QU)<|(Qf 7)<|(QtC 0 3)<|(Qf 23)<|(QtV 0 4)<|(gj)<|(Qf 7)<|(Qsa 0 16)<|(Qm) ?_
  refine z9m (i := 0) 3 (Uu 22) (Uz 5) rfl rfl (fun b hb => hSb b (List.mem_of_mem_drop hb)) rfl rfl (Nat.le_of_ble_eq_true rfl) (by decide) rfl ?_
  refine Qn<|(gd) ?_
  refine z6 (Eq.trans (show _ = PV r p (wd (wB (k3 r) A (sS h n l) ((sS h n l).length / 16))) (fun i => if i < min ((sS h n l).drop (16 * ((sS h n l).length / 16))).length 16 then ((sS h n l).drop (16 * ((sS h n l).length / 16))).getD i 0 else 0) (((sS h n l).drop (16 * ((sS h n l).length / 16))).length : Int) from rfl) (congrArg (fun z => PV r p (wd (wB (k3 r) A (sS h n l) ((sS h n l).length / 16))) z (((sS h n l).drop (16 * ((sS h n l).length / 16))).length : Int)) (zdm _ (by omega)))) ?_
  refine (QW 1)<|(gt) ?_
  exact ⟨_, _, rfl, yb 1, yt⟩
theorem z7m (r p : NN) (A : Nat) (h : NN) (n : Nat) (hr0 : r 0 < 18446744073709551616) (hr1 : r 1 < 18446744073709551616) (hp0 : p 0 < 18446744073709551616) (hp1 : p 1 < 18446744073709551616) (hn : n = 0) (hok : (yA r (wd A) n && okh n h 16) = true) : Fp G 203 #[PV r p (wd A) h n] (.tuple #[.agg (arr .u8 16 (tgn (k3 (wd A)) (k3 p))), ii 0]) := by
 refine Qf2 Tryz.func203 ?_
 refine (g4)<|(Qh 0) fun r1=>(QH 1) fun r2=>(g3)<|Qs<|(gd) ?_
 refine (Ca (VM r p (wd A) h n (y9 _ 0) (y9 _ 1) hr0 hr1)) ?_
 refine (Ai (if_pos hok))<|(jm)<|(jt)<|(Qf 7)<|(Qv 3 0)<|(QH 2) fun r3=>(Qt 2)<|(gj)<|(Qf 23)<|(QV 4 0)<|(QG)<|Qn ?_
 refine zi rfl ?_ ?_
 ·intro hc1
  exact absurd (of_decide_eq_true hc1) (by omega)
 ·intro hc1
  refine Qk<|(g4)<|(QH 3) fun r4=>(jf)<|(Qf 4)<|(QA 4 0)<|(QI 2 0 0) ?_
  refine zd rfl (Un 121) (xQ _ 8 (y9 _ 0) (by decide)) rfl rfl ?_
  refine (Qf 4)<|(QA 5 1)<|(QI 2 1 0) ?_
  refine zd rfl (Un 121) (xQ _ 8 (y9 _ 1) (by decide)) rfl rfl ?_
  refine zX rfl rfl rfl (by simp [zK]) ?_
  refine (Av (sv (lw (wd A))))<|(g3)<|(gr)<|(Qf 2)<|(QA 2 0)<|(QI 1 0 0) ?_
  refine zd rfl (Un 121) (xQ _ 8 hp0 (by decide)) rfl rfl ?_
  refine (Qf 2)<|(QA 3 1)<|(QI 1 1 0) ?_
  refine zd rfl (Un 121) (xQ _ 8 hp1 (by decide)) rfl rfl ?_
  refine zX rfl rfl rfl (by simp [zK]) ?_
  refine (Av (sv (lw p)))<|(g3)<|(gc)<|(ji) ?_
  refine Qz (fun kk E m => ∃ (i : Nat) (s : Nat → Nat), kk = 16 - i ∧ E = [(2, ptr r2), (3, ii 0), (6, ptr r4), (7, sv (lw (wd A))), (8, sv (lw p)), (9, ii (cr (k3 (wd A)) (k3 p) i)), (46, ii i)] ∧ m = [(0, some ⟨r1, cells 24 [pI .u64 2 r, pI .u64 2 p, pI .u64 3 (wd A), pI .u8 16 h, pV (.int .i64 n)], 247⟩), (1, some ⟨r2, arr .u8 16 (fun _ => 0), 213⟩), (2, some ⟨r3, arr .u8 16 h, 213⟩), (3, some ⟨r4, arr .u8 16 s, 213⟩)] ∧ (i ≤ 16) ∧ (∀ j, j < i → s j = tgn (k3 (wd A)) (k3 p) j)) ⟨0, fun _ => 0, rfl, rfl, rfl, by omega, fun j hj => absurd hj (Nat.not_lt_zero j)⟩ ⟨rfl, rfl, rfl, rfl, rfl, by rw [z8v]; rfl, rfl, trivial⟩ ⟨rfl, rfl, rfl, rfl, trivial⟩ ?_
  rintro kk E m ⟨i, s, rfl, rfl, rfl, hf0_0, hf0_1⟩
  have hci := zi3 (k3 (wd A)) (k3 p) i
  have hx8 : (k3 (wd A)) / 256 ^ i % 256 < 256 := Nat.mod_lt _ (by decide)
  have hy8 : (k3 p) / 256 ^ i % 256 < 256 := Nat.mod_lt _ (by decide)
  refine (gq) ?_
  refine (Qcd) (fun hc2=>?_) fun hc2=>?_
  ·refine Qk<|Qs<|Qb<|Qs<|Qp<|(Qm)<|(Qa)<|Qn<|Qs<|(Qg)<|(Qm)<|(Qm)<|(Qm) ?_
   refine Zi (Uu 9) rfl rfl (z05 (y9 _ 0) (by omega)) (by omega) rfl ?_
   refine (Qci)<|(gb) ?_
   refine Zi (Uu 9) rfl rfl (z05 hp0 (by omega)) (by omega) rfl ?_
   refine (Qci)<|(Q3)<|(Q3)<|(gm)<|(Qm) ?_
   refine yY (Uu 3) (Uu 5) rfl rfl rfl ?_
   refine (Qi)<|(Qu 3)<|Qn<|(je)<|(Q5 256)<|(jb) ?_
   refine Qzr ⟨i + 1, upd s i _, rfl, rfl, rfl, by omega, yN hf0_1 (zeb (k3 (wd A)) (k3 p) i)⟩ ⟨rfl, rfl, rfl, rfl, rfl, by rw [← z8z]; rfl, rfl, trivial⟩ ⟨rfl, rfl, rfl, rfl, trivial⟩ ?_
   omega
  ·have hi16 : i = 16 := by omega
   subst hi16
   refine (jo)<|(Qd 3) ?_
   refine (Aa hf0_1)<|(Qt 1)<|(gt) ?_
   exact ⟨_, _, rfl, ya 1, yt⟩
theorem z6z (r p : NN) (A : Nat) (h : NN) (n : Nat) (hr0 : r 0 < 18446744073709551616) (hr1 : r 1 < 18446744073709551616) (hp0 : p 0 < 18446744073709551616) (hp1 : p 1 < 18446744073709551616) (hA : A < 2 ^ 130) (hh : L8 16 h) (hn : 0 < n) (hn2 : n < 16) (hok : (yA r (wd A) n && okh n h 16) = true) : Fp G 203 #[PV r p (wd A) h n] (.tuple #[.agg (arr .u8 16 (tgn (k3 (wd (pst (k3 r) A ((List.range n).map h)))) (k3 p))), ii 0]) := by
 refine Qf2 Tryz.func203 ?_
 refine (g4)<|(Qh 0) fun r1=>(QH 1) fun r2=>(g3)<|Qs<|(gd) ?_
 refine (Ca (VM r p (wd A) h n (y9 _ 0) (y9 _ 1) hr0 hr1)) ?_
 refine (Ai (if_pos hok))<|(jm)<|(jt)<|(Qf 7)<|(Qv 3 0)<|(QH 2) fun r3=>(Qt 2)<|(gj)<|(Qf 23)<|(QV 4 0)<|(QG)<|Qn ?_
 refine zi rfl ?_ ?_
 ·intro hc1
  refine (Qg)<|(QD 0)<|(Qf 23)<|(QV 4 0) ?_
  refine xn 0 n (Uu 213) (Uz 5) rfl rfl rfl rfl ⟨_, rfl⟩ (by omega) (by omega) (by omega) rfl ?_
  refine (QcS 2) ?_
  refine z6 (wq h n) ?_
  refine zd rfl (Un 228) (z1T r p (wd A) h n ((List.range n).map h) (by simp; omega) (by intro b hb; obtain ⟨j, hj, rfl⟩ := List.mem_map.1 hb; exact hh j (by have := List.mem_range.1 hj; omega)) (y9 _ 0) (y9 _ 1) (z3m hA) hr0 hr1) rfl rfl ?_
  refine z6 (congrArg (fun z => PV r p (wd (pst (k3 r) z ((List.range n).map h))) (fun _ => 0) 0) (z7S hA)) ?_
  refine (QW 0)<|(gj)<|(QH 3) fun r4=>(jf)<|(Qf 4)<|(QA 4 0)<|(QI 2 0 0) ?_
  refine zd rfl (Un 121) (xQ _ 8 (y9 _ 0) (by decide)) rfl rfl ?_
  refine (Qf 4)<|(QA 5 1)<|(QI 2 1 0) ?_
  refine zd rfl (Un 121) (xQ _ 8 (y9 _ 1) (by decide)) rfl rfl ?_
  refine zX rfl rfl rfl (by simp [zK]) ?_
  refine (Av (sv (lw (wd (pst (k3 r) A ((List.range n).map h))))))<|(g3)<|(gr)<|(Qf 2)<|(QA 2 0)<|(QI 1 0 0) ?_
  refine zd rfl (Un 121) (xQ _ 8 hp0 (by decide)) rfl rfl ?_
  refine (Qf 2)<|(QA 3 1)<|(QI 1 1 0) ?_
  refine zd rfl (Un 121) (xQ _ 8 hp1 (by decide)) rfl rfl ?_
  refine zX rfl rfl rfl (by simp [zK]) ?_
  refine (Av (sv (lw p)))<|(g3)<|(gc)<|(ji) ?_
  refine Qz (fun kk E m => ∃ (i : Nat) (s : Nat → Nat), kk = 16 - i ∧ E = [(2, ptr r2), (3, ii 0), (6, ptr r4), (7, sv (lw (wd (pst (k3 r) A ((List.range n).map h))))), (8, sv (lw p)), (9, ii (cr (k3 (wd (pst (k3 r) A ((List.range n).map h)))) (k3 p) i)), (46, ii i)] ∧ m = [(0, some ⟨r1, cells 24 [pI .u64 2 r, pI .u64 2 p, pI .u64 3 (wd (pst (k3 r) A ((List.range n).map h))), pI .u8 16 (fun _ => 0), pV (.int .i64 0)], 247⟩), (1, some ⟨r2, arr .u8 16 (fun _ => 0), 213⟩), (2, some ⟨r3, arr .u8 16 h, 213⟩), (3, some ⟨r4, arr .u8 16 s, 213⟩)] ∧ (i ≤ 16) ∧ (∀ j, j < i → s j = tgn (k3 (wd (pst (k3 r) A ((List.range n).map h)))) (k3 p) j)) ⟨0, fun _ => 0, rfl, rfl, rfl, by omega, fun j hj => absurd hj (Nat.not_lt_zero j)⟩ ⟨rfl, rfl, rfl, rfl, rfl, by rw [z8v]; rfl, rfl, trivial⟩ ⟨rfl, rfl, rfl, rfl, trivial⟩ ?_
  rintro kk E m ⟨i, s, rfl, rfl, rfl, hf0_0, hf0_1⟩
  have hci := zi3 (k3 (wd (pst (k3 r) A ((List.range n).map h)))) (k3 p) i
  have hx8 : (k3 (wd (pst (k3 r) A ((List.range n).map h)))) / 256 ^ i % 256 < 256 := Nat.mod_lt _ (by decide)
  have hy8 : (k3 p) / 256 ^ i % 256 < 256 := Nat.mod_lt _ (by decide)
  refine (gq) ?_
  refine (Qcd) (fun hc2=>?_) fun hc2=>?_
  ·refine Qk<|Qs<|Qb<|Qs<|Qp<|(Qm)<|(Qa)<|Qn<|Qs<|(Qg)<|(Qm)<|(Qm)<|(Qm) ?_
   refine Zi (Uu 9) rfl rfl (z05 (y9 _ 0) (by omega)) (by omega) rfl ?_
   refine (Qci)<|(gb) ?_
   refine Zi (Uu 9) rfl rfl (z05 hp0 (by omega)) (by omega) rfl ?_
   refine (Qci)<|(Q3)<|(Q3)<|(gm)<|(Qm) ?_
   refine yY (Uu 3) (Uu 5) rfl rfl rfl ?_
   refine (Qi)<|(Qu 3)<|Qn<|(je)<|(Q5 256)<|(jb) ?_
   refine Qzr ⟨i + 1, upd s i _, rfl, rfl, rfl, by omega, yN hf0_1 (zeb (k3 (wd (pst (k3 r) A ((List.range n).map h)))) (k3 p) i)⟩ ⟨rfl, rfl, rfl, rfl, rfl, by rw [← z8z]; rfl, rfl, trivial⟩ ⟨rfl, rfl, rfl, rfl, trivial⟩ ?_
   omega
  ·have hi16 : i = 16 := by omega
   subst hi16
   refine (jo)<|(Qd 3) ?_
   refine (Aa hf0_1)<|(Qt 1)<|(gt) ?_
   exact ⟨_, _, rfl, ya 1, yt⟩
 ·intro hc1
  exact absurd (of_decide_eq_false hc1) (by omega)
theorem zaK {G : Mem} (f : NN) (m : LN) (v : Value) (l : LN) (hf : L8 32 f) (hm : By m) (hv : Sh G v l) (hlb : By l) (hlen : l.length + 16 ≤ 9223372036854775807) :
  Fn Tryz.prog G 201 #[stP f m, v] (.tuple #[stP f (m ++ l), ii 0]) := by
 have hb := z2r hf
 have h := zfL (G := G) (w8 (bL f)) (fun j => w8 (bL f) (j + 2)) (ZM (k3 (w8 (bL f))) m) (wX m) (yv m).length v l hv hlb (Nat.lt_trans (Xw _ _) z0e) (xb hb 0) (xb hb 1) (by rw [vE]; omega) (fun j _ => Xz hm j) (Xh (vB hf) _ m) hlen
 rw [z3h, z57, z1J] at h
 exact h
theorem z9u {G : Mem} (f : NN) (m : LN) (hf : L8 32 f) (hm : By m) : Fp G 203 #[stP f m] (.tuple #[.agg (arr .u8 16 (ptg f m)), ii 0]) := by
 have hb := z2r hf
 have hok := Xh (vB hf) (k3 (w8 (bL f))) m
 by_cases h0 : (yv m).length = 0
 ·have h := z7m (G := G) (w8 (bL f)) (fun j => w8 (bL f) (j + 2)) (ZM (k3 (w8 (bL f))) m) (wX m) (yv m).length (xb hb 0) (xb hb 1) (xb hb 2) (xb hb 3) h0 hok
  unfold stP cP
  rw [show ZM (k3 (w8 (bL f))) m = zdq (k3 (w8 (bL f))) m from (if_pos h0).symm] at h ⊢
  exact h
 ·have h := z6z (G := G) (w8 (bL f)) (fun j => w8 (bL f) (j + 2)) (ZM (k3 (w8 (bL f))) m) (wX m) (yv m).length (xb hb 0) (xb hb 1) (xb hb 2) (xb hb 3) (Nat.lt_trans (Xw _ _) z0e) (fun j _ => Xz hm j) (by omega) (by rw [vE]; omega) hok
  rw [z2y, show pst (k3 (w8 (bL f))) (ZM (k3 (w8 (bL f))) m) (yv m) = zdq (k3 (w8 (bL f))) m from (if_neg h0).symm] at h
  exact h
theorem ziv (f : NN) (hf : L8 32 f) (l : LN) (hb : By l) (hl : l.length ≤ 140737488351232) : Fp G 173 #[.agg (arr .u8 32 f), sv l] (.agg (arr .u8 16 (ptg f l))) := by
 have hl2 : l.length + 16 ≤ 9223372036854775807 := by omega
 refine Qf1 Tryz.func173 ?_
 refine (g4)<|(Qh 0) fun r1=>(QH 1) fun r2=>Qn<|Qs<|QR ⟨[], 1, [22], none, none⟩<|(Qd 0) ?_
 refine (Ca (vJ f hf)) ?_
 refine z6 (z90 f) ?_
 refine (Qm) ?_
 refine yU 2 (Uu 9) (Uu 22) (Uu 5) rfl hb (by simp only [maxLen]; omega) rfl rfl fun v1_1 oz1_1 ho1_1 => ?_
 refine vj oz1_1.toList rfl rfl (Un 201) (z5P (i := 2) rfl) (zaK (G := oz1_1.toList) f [] v1_1 l hf (by simp) (zY ho1_1) hb hl2) rfl rfl rfl ?_
 refine (Av (Value.tuple #[stP f l, ii 0]))<|(gi)<|(QH 3) fun r4=>(QW 3)<|(j3)<|(QD 3) ?_
 refine (Ca (z9u f l hf hb))<|(gi)<|(QH 4) fun r5=>(Qt 4)<|(j3)<|(Qd 4)<|(j4)<|Qr ?_
 exact ⟨_, rfl, ya 1⟩
theorem z0U (k : NN) (c : Nat) (nn : NN) (hk : L8 32 k) (hn : L8 12 nn) (hc : c < 4294967296) : Fp G 172 #[.agg (arr .u8 32 k), uw c, .agg (arr .u8 12 nn)] (.agg (arr .u8 64 (Y4 k c nn))) := by
 have hal := ze4 k c nn
 have hab := zhw (c := c) hk hn
 obtain ⟨A, hA⟩ : ∃ A, A = Wz k c nn := ⟨_, rfl⟩
 rw [← hA] at hal hab
 have hbl := Yc (Vl (wrd A) 10) (wrd A)
 refine Qf1 Tryz.func172 ?_
 refine (g4)<|(Qh 0) fun r1=>(Qh 1) fun r2=>(QH 2) fun r3=>(jf)<|(Qsa 0 32)<|(QcS 0) ?_
 refine z6 (wq k 32) ?_
 refine zX (l := [101, 120, 112, 97, 110, 100, 32, 51, 50, 45, 98, 121, 116, 101, 32, 107]) rfl rfl rfl (by simp) ?_
 refine (Qm) ?_
 refine xx (Uu 109) (Uu 31) rfl rfl rfl ?_
 refine (Au (Nat.mod_eq_of_lt (show c < 18446744073709551616 by omega))) ?_
 refine (Ca (xQ c 4 (by omega) (by decide))) ?_
 refine zX rfl rfl rfl (by simp [zK]) ?_
 refine (Qsa 0 12)<|(QcS 1) ?_
 refine z6 (wq nn 12) ?_
 refine zX rfl rfl rfl (by simp [zK]) ?_
 refine z6 (congrArg sv hA.symm) ?_
 refine (j3)<|(QH 3) fun r4=>Qn<|(ji) ?_
 refine Qz (fun kk E m => ∃ (i : Nat) (s : Nat → Nat), kk = 16 - i ∧ E = [(6, ptr r3), (7, sv A), (8, ptr r4), (24, ii i)] ∧ m = [(0, some ⟨r1, arr .u8 32 k, 30⟩), (1, some ⟨r2, arr .u8 12 nn, 146⟩), (2, some ⟨r3, arr .u8 64 (fun _ => 0), 111⟩), (3, some ⟨r4, arr .u32 16 s, 199⟩)] ∧ (i ≤ 16) ∧ (∀ t, t < i → s t = wrd A t)) ⟨0, fun _ => 0, rfl, rfl, rfl, by omega, fun t ht => absurd ht (Nat.not_lt_zero t)⟩ ⟨rfl, rfl, rfl, rfl, trivial⟩ ⟨rfl, rfl, rfl, rfl, trivial⟩ ?_
 rintro kk E m ⟨i, s, rfl, rfl, rfl, hf0_0, hf0_1⟩
 refine (gq) ?_
 refine (Qcd) (fun hc0=>?_) fun hc0=>?_
 ·refine Qk<|Qs<|Qb<|Qs<|Qp<|(Qm)<|(Qa)<|Qn<|(Qg)<|(Qm)<|(Q5 4)<|(Qm)<|(Q4 4)<|(Qm)<|(Qm)<|(Q7 4)<|(Qm)<|(Q7 4)<|(Q2 4) ?_
  refine yn (4 * i) (4 * i + 4) (Uu 9) rfl rfl rfl ⟨_, rfl⟩ ⟨_, rfl⟩ (by omega) (by omega) rfl ?_
  refine z6 (congrArg (fun z => sv ((A.drop (4 * i)).take z)) (show 4 * i + 4 - 4 * i = 4 by omega)) ?_
  refine (Ca (xI _ (z64 A i) (z8T hab i)))<|(Qcw) ?_
  refine z6 (congrArg uw (Nat.mod_eq_of_lt (zfz hab i))) ?_
  refine (QB (4 * (i / 4)))<|(QB (i))<|(Qu 3)<|(jc) ?_
  refine Qzr ⟨i + 1, upd s i _, rfl, rfl, rfl, by omega, yN hf0_1 rfl⟩ ⟨rfl, rfl, rfl, rfl, trivial⟩ ⟨rfl, rfl, rfl, rfl, trivial⟩ ?_
  omega
 ·have hi16 : i = 16 := by omega
  subst hi16
  have hse : arr .u32 16 s = arr .u32 16 (wrd A) := zh hf0_1
  rw [hse]
  refine (jo)<|(Qd 3)<|(QH 4) fun r5=>(Qt 4)<|Qn<|(ji) ?_
  refine Qz (fun kk E m => ∃ (n : Nat), kk = 10 - n ∧ E = [(6, ptr r3), (8, ptr r4), (10, ptr r5), (44, ii n)] ∧ m = [(0, some ⟨r1, arr .u8 32 k, 30⟩), (1, some ⟨r2, arr .u8 12 nn, 146⟩), (2, some ⟨r3, arr .u8 64 (fun _ => 0), 111⟩), (3, some ⟨r4, arr .u32 16 (wrd A), 199⟩), (4, some ⟨r5, arr .u32 16 (Vl (wrd A) n), 199⟩)] ∧ (n ≤ 10)) ⟨0, rfl, rfl, rfl, by omega⟩ ⟨rfl, rfl, rfl, rfl, trivial⟩ ⟨rfl, rfl, rfl, rfl, rfl, trivial⟩ ?_
  rintro kk E m ⟨n, rfl, rfl, rfl, hf1_0⟩
  refine (gq) ?_
  refine (Qcd) (fun hc1=>?_) fun hc1=>?_
  ·refine Qk<|Qs<|Qb<|Qp<|(Qd 4) ?_
   refine (Ca (z5R _)) ?_
   refine (Ca (zjA _)) ?_
   refine (Ca (z5R _)) ?_
   refine (Ca (ziG _))<|(Qt 4)<|(jc) ?_
   refine Qzr ⟨n + 1, rfl, rfl, rfl, by omega⟩ ⟨rfl, rfl, rfl, rfl, trivial⟩ ⟨rfl, rfl, rfl, rfl, rfl, trivial⟩ ?_
   omega
  ·have hn10 : n = 10 := by omega
   subst hn10
   refine (jo) ?_
   refine xB (v := sv []) rfl rfl ?_
   refine Qn<|(ji) ?_
   refine Qz (fun kk E m => ∃ (q : Nat), kk = 16 - q ∧ E = [(6, ptr r3), (8, ptr r4), (10, ptr r5), (11, sv (z3d (Vl (wrd A) 10) (wrd A) q)), (52, ii q)] ∧ m = [(0, some ⟨r1, arr .u8 32 k, 30⟩), (1, some ⟨r2, arr .u8 12 nn, 146⟩), (2, some ⟨r3, arr .u8 64 (fun _ => 0), 111⟩), (3, some ⟨r4, arr .u32 16 (wrd A), 199⟩), (4, some ⟨r5, arr .u32 16 (Vl (wrd A) 10), 199⟩)] ∧ (q ≤ 16)) ⟨0, rfl, rfl, rfl, by omega⟩ ⟨rfl, rfl, rfl, rfl, rfl, trivial⟩ ⟨rfl, rfl, rfl, rfl, rfl, trivial⟩ ?_
   rintro kk E m ⟨q, rfl, rfl, rfl, hf2_0⟩
   have hbq := hbl q
   refine (gq) ?_
   refine (Qcd) (fun hc2=>?_) fun hc2=>?_
   ·refine Qk<|Qs<|Qb<|Qs<|Qp<|(Qm)<|(Qa)<|Qn<|(Qg)<|(Qm)<|(Qm)<|(Q5 4)<|(Qm)<|(Q4 4)<|(QB (4 * (q / 4)))<|(QB (q))<|(Q1 4)<|(Qm)<|(Q5 4)<|(Qm)<|(Q4 4)<|(QB (4 * (q / 4)))<|(QB (q))<|(Q1 3) ?_
    refine (Qaw) ?_
    refine xx (Uu 109) (Uu 31) rfl rfl rfl ?_
    refine z6 (congrArg u (Nat.mod_eq_of_lt (Nat.lt_trans (Nat.mod_lt _ (by decide)) (by decide)))) ?_
    refine zd rfl (Un 121) (xQ _ 4 (Nat.lt_trans (Nat.mod_lt _ (by decide)) (by decide)) (by decide)) rfl rfl ?_
    refine zX rfl rfl rfl (by rw [zK]; omega) ?_
    refine (jb) ?_
    refine Qzr ⟨q + 1, rfl, rfl, rfl, by omega⟩ ⟨rfl, rfl, rfl, rfl, rfl, trivial⟩ ⟨rfl, rfl, rfl, rfl, rfl, trivial⟩ ?_
    omega
   ·have hq16 : q = 16 := by omega
    subst hq16
    refine (jo)<|(QH 5) fun r6=>(gj)<|(Qsa 0 64)<|(Qm) ?_
    refine Yy (i := 5) (Uu 22) (Uz 5) rfl rfl (z3k _ _ 16) rfl (by omega) rfl ?_
    refine (gj)<|(Qd 5) ?_
    refine z6 (congrArg Value.agg (zdH _ (hbl 16))) ?_
    refine (Qt 2)<|Qn<|Qr ?_
    subst hA
    exact ⟨_, rfl, ya 2⟩
theorem z4P (k : NN) (c : Nat) (nn : NN) (v : Value) (l : LN) (at_ : Nat) (hv : Sh G v l) (hat : l.length ≤ at_) : Fq G [] 175 #[.agg (arr .u8 32 k), uw c, .agg (arr .u8 12 nn), v, ii at_] (fun v l1 nw => l1 = [] ∧ ∃ v', v = v' ∧ OwnS 5 1 v' (l.length - at_) ((ww k c nn l at_).map by8) nw) := by
 refine QfN Tryz.func175 ?_
 refine (g4)<|(Qh 0) fun r1=>(Qh 1) fun r2=>(g3)<|(ge)<|(Qm)<|(QC hv)<|(QE)<|(Qat)<|(gv)<|(gz) ?_
 exact ⟨_, _, _, 99, rfl, yt, (zy (wL _ _) (by omega) (by rw [z9R k c nn l hat]; rfl)), rfl⟩
theorem zaN (k : NN) (c : Nat) (nn : NN) (v : Value) (l : LN) (at_ : Nat) (hv : Sh G v l) (hk : L8 32 k) (hn : L8 12 nn) (hat : at_ < l.length) (h64 : at_ % 64 = 0) (hlen : l.length ≤ 4294967296) (ih : Fq G [] 175 #[.agg (arr .u8 32 k), uw c, .agg (arr .u8 12 nn), v, ii (at_ + 64)] (fun v l1 nw => l1 = [] ∧ ∃ v', v = v' ∧ OwnS 5 1 v' (l.length - (at_ + 64)) ((ww k c nn l (at_ + 64)).map by8) nw)) : Fq G [] 175 #[.agg (arr .u8 32 k), uw c, .agg (arr .u8 12 nn), v, ii at_] (fun v l1 nw => l1 = [] ∧ ∃ v', v = v' ∧ OwnS 5 1 v' (l.length - at_) ((ww k c nn l at_).map by8) nw) := by
 refine QfN Tryz.func175 ?_
 refine (g4)<|(Qh 0) fun r1=>(Qh 1) fun r2=>(g3)<|(ge)<|(Qm)<|(QC hv)<|(QE)<|(j8)<|(g4)<|(Qd 0)<|(gb)<|(Q5 64)<|(Qcw)<|(Qaw)<|(Qd 1) ?_
 refine zd rfl (Un 172) (z0U k _ nn hk hn (Nat.mod_lt _ (by decide))) rfl rfl ?_
 refine (QH 2) fun r3=>(Qt 2)<|Qn<|(gc)<|(ge)<|(g3)<|Qb ?_
 refine Qz (fun kk E m => ∃ (i : Nat) (vo : Value) (oz : Option Blk), kk = l.length - (at_ + i) ∧ E = [(1, uw c), (3, v), (4, ii at_), (5, ptr r1), (7, ptr r2), (11, ptr r3), (12, vo), (13, ii (at_ + i))] ∧ m = [(0, some ⟨r1, arr .u8 32 k, 30⟩), (1, some ⟨r2, arr .u8 12 nn, 146⟩), (2, some ⟨r3, (arr .u8 64 (Y4 k ((c + at_ / 64 % 4294967296) % 4294967296) nn)), 111⟩), (9, oz)] ∧ (i ≤ 64) ∧ (at_ + i ≤ l.length) ∧ (OwnS 5 1 vo i ((z1x k c nn l at_ i).map by8) (Option.toList oz))) ⟨0, yg, none, rfl, rfl, rfl, by omega, by omega, wL _ _⟩ ⟨rfl, rfl, rfl, rfl, rfl, rfl, rfl, rfl, trivial⟩ ⟨rfl, rfl, rfl, rfl, trivial⟩ ?_
 rintro kk E m ⟨i, vo, oz, rfl, rfl, rfl, hf0_0, hf0_1, hf0_2⟩
 refine Qs<|Qs ?_
 rcases (show at_ + i < l.length ∨ ¬ at_ + i < l.length by omega) with hlt | hlt
 ·skip
  refine Qp<|(gb)<|(QC hv)<|(Ql)<|(Qat)<|(gn)<|(g7)<|(Q2 64)<|(Qy)<|(Ql)<|(QT)<|Qn ?_
  refine (Qcd) (fun hc1=>?_) fun hc1=>?_
  ·refine Qk<|Qs<|Qb<|(Qg)<|(Qm)<|(Qm)<|(Qm) ?_
   refine yf hv (Uu 22) (Uz 5) rfl rfl (by omega) rfl ?_
   refine (QS) ?_
   refine zS hv ze (Uu 5) rfl rfl (by rw [List.getElem?_map, List.getElem?_eq_getElem (show at_ + i < l.length by omega)]; rfl) rfl ?_
   refine (gb) ?_
   refine xG rfl rfl rfl (by omega) (by omega) ?_
   refine z6 (congrArg (Value.int .i64) (show ((at_ + i : Nat) : Int) - ((at_ : Nat) : Int) = ((i : Nat) : Int) by omega)) ?_
   refine (Qi)<|(Q1 2) ?_
   refine Z0 rfl rfl rfl  ?_
   refine z6 (congrArg by8 (zhd k c nn l (show at_ + i < l.length by omega) h64 (show i < 64 by omega))) ?_
   refine yj 3 #[by8 (z1k k c nn l (at_ + i))] (Uu 22 rfl) (Uz 5 rfl) (Ub 5 rfl) (by decide) (by decide) rfl (by kernel_rfl) rfl fun r4 => ?_
   refine yB 9 hf0_2 (xq _ _ (by rfl)) rfl (zZ 3 rfl ⟨[], trivial⟩) (Uu 22) (Uz 5) (Uy 5) (Ub 5) (by rfl) rfl rfl (by simp [Value.oneCell']) (by simp only [maxLen]; omega) (by omega) rfl fun v4_1 oz4_1 ho4_1 => ?_
   refine (g3)<|(je)<|(Q2 1)<|(g3) ?_
   refine Qzr ⟨i + 1, _, _, rfl, rfl, rfl, by omega, by omega, zy ho4_1 rfl (by rw [← z9q, List.map_append]; rfl)⟩ ⟨rfl, rfl, rfl, rfl, rfl, rfl, rfl, rfl, trivial⟩ ⟨rfl, rfl, rfl, rfl, trivial⟩ ?_
   omega
  ·have hfin : (i = 64 ∧ at_ + 64 ≤ l.length) ∨ (at_ + i = l.length) := by omega
   refine Qe<|Qs<|QR ⟨[], 4, [], none, none⟩<|(Qm)<|(Qd 0)<|(Qm)<|(Qd 1)<|(gb)<|(Q2 64) ?_
   refine zG 3 (fun v => v) rfl rfl (Un 175) ze ih (by simp only [maxLen]; omega) (by rw [List.length_map, xv, Nat.mul_one]) rfl rfl fun v4_1 oz4_1 ho4_1 => ?_
   refine yB 9 hf0_2 ho4_1.shows rfl (zL 3 rfl ⟨[], trivial⟩) (Uu 22) (Uz 5) (Uy 5) (Ub 5) (by rfl) rfl rfl vm (by simp only [maxLen]; omega) (by omega) rfl fun v4_2 oz4_2 ho4_2 => ?_
   refine (gt) ?_
   exact ⟨_, _, _, 9, rfl, yt, (zy ho4_2 (by omega) (by rw [← List.map_append, z65 k c nn l hfin (by omega)])), rfl⟩
 ·skip
  refine Qp<|(gb)<|(QC hv)<|(Ql)<|(Qaf)<|(j5)<|(QF)<|(gh) ?_
  have hfin : (i = 64 ∧ at_ + 64 ≤ l.length) ∨ (at_ + i = l.length) := by omega
  refine Qe<|Qs<|QR ⟨[], 4, [], none, none⟩<|(Qm)<|(Qd 0)<|(Qm)<|(Qd 1)<|(gb)<|(Q2 64) ?_
  refine zG 3 (fun v => v) rfl rfl (Un 175) ze ih (by simp only [maxLen]; omega) (by rw [List.length_map, xv, Nat.mul_one]) rfl rfl fun v4_1 oz4_1 ho4_1 => ?_
  refine yB 9 hf0_2 ho4_1.shows rfl (zL 3 rfl ⟨[], trivial⟩) (Uu 22) (Uz 5) (Uy 5) (Ub 5) (by rfl) rfl rfl vm (by simp only [maxLen]; omega) (by omega) rfl fun v4_2 oz4_2 ho4_2 => ?_
  refine (gt) ?_
  exact ⟨_, _, _, 9, rfl, yt, (zy ho4_2 (by omega) (by rw [← List.map_append, z65 k c nn l hfin (by omega)])), rfl⟩
theorem z8e {G : Mem} (k : NN) (c : Nat) (nn : NN) (v : Value) (l : LN) (hv : Sh G v l) (hk : L8 32 k) (hn : L8 12 nn) (hlen : l.length ≤ 4294967296) :
  ∀ m at_, at_ % 64 = 0 → l.length ≤ at_ + 64 * m → Fx Tryz.prog G [] 175 #[.agg (arr .u8 32 k), uw c, .agg (arr .u8 12 nn), v, ii at_] (fun v l1 nw => l1 = [] ∧ ∃ v', v = v' ∧ OwnS 5 1 v' (l.length - at_) ((ww k c nn l at_).map by8) nw)
 | 0, at_, _, h => z4P k c nn v l at_ hv (by omega)
 | m + 1, at_, h64, h => by
  by_cases hat : l.length ≤ at_
  ·exact z4P k c nn v l at_ hv hat
  ·exact zaN k c nn v l at_ hv hk hn (by omega) h64 hlen (z8e k c nn v l hv hk hn hlen m (at_ + 64) (by omega) (by omega))
theorem z5F (k : NN) (c : Nat) (nn : NN) (v : Value) (l : LN) (hv : Sh G v l) (hk : L8 32 k) (hn : L8 12 nn) (hc : c < 4294967296) (hb : l.length ≤ 1600) (ho : ¬ 64 * (4294967296 - c) < l.length) : Fq G [] 136 #[.agg (arr .u8 32 k), uw c, .agg (arr .u8 12 nn), v] (fun v l1 nw => l1 = [] ∧ ∃ v', v = .tuple #[v', ii 0] ∧ OwnS 5 1 v' (l.length - 0) ((ww k c nn l 0).map by8) nw) := by
 refine QfM Tryz.func136 ?_
 refine (g4)<|(Qh 0) fun r1=>(Qh 1) fun r2=>(ja)<|(QC hv)<|(QG)<|(j8)<|(ge)<|(QC hv)<|(Qm)<|(Qci) ?_
 refine xG (p := 4294967296) rfl rfl rfl (by omega) (by omega) ?_
 refine z6 (congrArg (Value.int .i64) (show (4294967296 : Int) - ((c : Nat) : Int) = ((4294967296 - c : Nat) : Int) by omega)) ?_
 refine (Q7 64)<|(QG)<|(j8)<|Qs<|QR ⟨[], 4, [], none, none⟩<|(Qd 0)<|(Qm)<|(Qd 1)<|(Qm) ?_
 refine zG 2 (fun v => v) rfl rfl (Un 175) ze (z8e k c nn v l hv hk hn (by omega) 25 0 rfl (by omega)) (by simp only [maxLen]; omega) (by rw [List.length_map, xv, Nat.mul_one]) rfl rfl fun v3_1 oz3_1 ho3_1 => ?_
 refine (h8) ?_
 exact ⟨_, _, _, _, 2, rfl, yt, yt, ho3_1, rfl⟩
theorem X3 (n : Nat) (hn : n ≤ 1000000) : Fp G 127 #[ii n] (sv (zrs n)) := by
 refine Qf1 Tryz.func127 ?_
 refine (g4) ?_
 refine xB (v := sv []) rfl rfl ?_
 refine Qn<|(g6) ?_
 refine z3l 0 (Uu 22) (Uz 5) (Uy 5) (Ub 5) rfl rfl rfl (by omega) (by omega) rfl fun r1 => ?_
 refine zE (z71 _ _ _) (zZ 0 rfl ⟨[], trivial⟩) (Uu 22) (Uu 5) (Uu 9) rfl rfl rfl ?_
 refine (gt) ?_
 exact ⟨_, rfl, yt⟩
theorem z7Y (l : LN) (hl : l.length ≤ 1000000) : Fp G 174 #[sv l] (sv (Vi l)) := by
 refine Qf1 Tryz.func174 ?_
 refine (g4) ?_
 refine xB (v := sv []) rfl rfl ?_
 refine Qn<|(g6)<|(Qm)<|(QU)<|(Q4 16) ?_
 refine xR (p := 16) rfl rfl rfl (by omega) (by omega) ?_
 refine (Q4 16) ?_
 refine (Ca (X3 ((16 - l.length % 16) % 16) (by omega))) ?_
 refine zX rfl rfl rfl (by rw [wu]; omega) ?_
 refine (Av (sv (Vi l)))<|(gt) ?_
 exact ⟨_, rfl, yt⟩
theorem zdZ (k nn : NN) (ad b : LN) (hk : L8 32 k) (hn : L8 12 nn) (ha : By ad) (hb : By b) (hal : ad.length ≤ 10000) (hbl : b.length ≤ 10000) : Fp G 135 #[.agg (arr .u8 32 k), .agg (arr .u8 12 nn), sv ad, sv b] (sv (zbx k nn ad b)) := by
 have hpa := YJ ad
 have hpb := YJ b
 have hml := WY ad b
 refine Qf1 Tryz.func135 ?_
 refine (g4)<|(Qh 0) fun r1=>(Qh 1) fun r2=>?_
 refine xB (v := sv []) rfl rfl ?_
 refine (gj)<|(Qd 0)<|(Qd 1) ?_
 refine (Ca (z0U k 0 nn hk hn (by decide)))<|(QH 2) fun r3=>(Qt 2)<|(gj)<|(QH 3) fun r4=>(jf)<|(Qsa 0 32) ?_
 refine xn 0 32 (Uu 111) (Uz 5) rfl rfl rfl rfl ⟨_, rfl⟩ (by omega) (by omega) (by omega) rfl ?_
 refine z30 (i := 3) (Uu 22) (Uz 5) (YG r3 64 (Y4 k 0 nn) 111 0 32 64 (by decide) (by decide)) (zZ 2 rfl ⟨[], trivial⟩) rfl rfl rfl (by omega) rfl ?_
 refine (jf)<|(Qd 3) ?_
 refine (Aa (zaG k nn))<|(Qm) ?_
 refine (Ca (z7Y ad (by omega)))<|(Qm) ?_
 refine (Ca (z7Y b (by omega))) ?_
 refine zX rfl rfl rfl (by omega) ?_
 refine (Qm)<|(QU) ?_
 refine WE (Uu 3) (Uu 31) rfl rfl rfl (by omega) ?_
 refine (Ca (xQ ad.length 8 (by omega) (by decide))) ?_
 refine zX rfl rfl rfl (by rw [zK, List.length_append]; omega) ?_
 refine (Qm)<|(QU) ?_
 refine WE (Uu 3) (Uu 31) rfl rfl rfl (by omega) ?_
 refine (Ca (xQ b.length 8 (by omega) (by decide))) ?_
 refine zX rfl rfl rfl (by rw [zK, List.length_append, List.length_append, zK]; omega) ?_
 refine (Av (sv (vO ad b))) ?_
 refine (Ca (ziv (z0T k nn) (z8N k nn) (vO ad b) (z5q ha hb) (by omega)))<|(QH 4) fun r5=>(Qt 4)<|(gj)<|(Qsa 0 16)<|(QcS 4) ?_
 refine z6 (wq (ptg (z0T k nn) (vO ad b)) 16) ?_
 refine (gt) ?_
 exact ⟨_, rfl, yt⟩
theorem z4A (k nn : NN) (va vt : Value) (ad tx : LN) (hva : Sh G va ad) (hvt : Sh G vt tx) (h : ad.length ≤ 200) (h2 : 800 < tx.length) : Fp G 99 #[.agg (arr .u8 32 k), .agg (arr .u8 12 nn), va, vt] (.tuple #[yg, ii 1]) := by
 refine Qf2 Tryz.func99 ?_
 refine (g4)<|(Qh 0) fun r1=>(Qh 1) fun r2=>(ja)<|(QC hva)<|(QG)<|(Qaf)<|(gn)<|(QC hvt)<|(Qy)<|(QG)<|(Qat)<|(QF)<|(gv)<|(g4)<|(h8) ?_
 exact ⟨_, _, rfl, yt, yt⟩
theorem zb0 (k nn : NN) (va vt : Value) (ad tx : LN) (hk : L8 32 k) (hn : L8 12 nn) (hva : Sh G va ad) (hvt : Sh G vt tx) (hab : By ad) (h : ad.length ≤ 200) (h2 : tx.length ≤ 800) : Fq G [] 99 #[.agg (arr .u8 32 k), .agg (arr .u8 12 nn), va, vt] (R2 5 (ve k nn ad tx)) := by
 have hsl := xv k 1 nn tx 0
 have hse := wF k nn ad tx
 refine QfM Tryz.func99 ?_
 refine (g4)<|(Qh 0) fun r1=>(Qh 1) fun r2=>(ja)<|(QC hva)<|(QG)<|(Qaf)<|(gn)<|(QC hvt)<|(Qy)<|(QG)<|(Qaf)<|(QF)<|(go)<|Qs<|QR ⟨[], 4, [], none, none⟩<|(Qd 0)<|(Qd 1)<|(Qm) ?_
 refine zG 2 (fun v => .tuple #[v, ii 0]) rfl rfl (Un 136) ze (z5F k 1 nn vt tx hvt hk hn (by decide) (by omega) (by omega)) (by simp only [maxLen]; omega) (by rw [List.length_map, xv, Nat.mul_one]) rfl rfl fun v2_1 oz2_1 ho2_1 => ?_
 refine (gi)<|(g8)<|Qs<|(Qq ⟨[], 1, [22], none, none⟩)<|(Qm) ?_
 refine zE (l := (ww k 1 nn tx 0)) (zY ho2_1) (zL 2 rfl ⟨[], trivial⟩) (Uu 22) (Uu 5) (Uu 9) rfl rfl rfl ?_
 refine (Qd 0)<|(Qd 1)<|(Qm) ?_
 refine zE (l := ad) hva ze (Uu 22) (Uu 5) (Uu 9) rfl rfl rfl ?_
 refine (Qm) ?_
 refine zE (l := (ww k 1 nn tx 0)) (zY ho2_1) (zL 2 rfl ⟨[], trivial⟩) (Uu 22) (Uu 5) (Uu 9) rfl rfl rfl ?_
 refine zd rfl (Un 135) (zdZ k nn ad (ww k 1 nn tx 0) hk hn hab (z2G _ _ _ _ _) (by omega) (by omega)) rfl rfl ?_
 refine zX rfl rfl rfl (by rw [z53]; omega) ?_
 refine (Av (sv (ve k nn ad tx))) ?_
 refine yU 3 (Uu 9) (Uu 22) (Uu 5) rfl (Wi k nn ad tx) (by simp only [maxLen]; omega) rfl rfl fun v2_2 oz2_2 ho2_2 => ?_
 refine (h8) ?_
 exact ⟨_, _, _, _, 3, rfl, yt, yt, ho2_2, rfl⟩
theorem z00 (n : Nat) (hn : n < 18446744073709551616) : Fp G 98 #[u n] (.agg (arr .u8 12 (wb n))) := by
 refine Qf1 Tryz.func98 ?_
 refine (g4)<|(QH 0) fun r1=>(gj)<|(QH 1) fun r2=>(jf) ?_
 refine xn 4 12 (Uu 146) (Uz 5) rfl rfl rfl ⟨_, rfl⟩ rfl (by omega) (by omega) (by omega) rfl ?_
 refine (Qm) ?_
 refine (Ca (xQ n 8 hn (by decide))) ?_
 refine Yy (i := 1) (Uu 22) (Uz 5) rfl rfl (Z8 _ _) rfl (by omega) rfl ?_
 refine (gj)<|(Qd 1) ?_
 refine (Aa (zaj n))<|(Qt 0)<|Qn<|Qr ?_
 exact ⟨_, rfl, ya 0⟩
theorem vC (has : Bool) (k : NN) (n : Nat) : Fp G 96 #[CV has k n] (ii (if okC has k n = true then 0 else 9)) := by
 refine Qf1 Tryz.func96 ?_
 refine (g4)<|(Qh 0) fun r1=>(g3)<|Qs<|Qs ?_
 rcases zcE has k n with ⟨hk0, hko⟩ | ⟨hk0, hk1, hko⟩ | ⟨hk0, hk1, hk2, hko⟩ | ⟨hk0, hk1, hk2, hko⟩
 ·skip
  refine Qp<|(j0)<|(Q0) ?_
  refine z6 (congrArg (fun z => Value.bool (!z)) hk0) ?_
  refine (j5)<|(Qw)<|(Qw)<|(Qw)<|(Qw)<|(Qo)<|(QF)<|(go)<|(gz) ?_
  rw [hko]
  exact ⟨_, rfl, yt⟩
 ·skip
  refine Qp<|(j0)<|(Q0) ?_
  refine z6 (congrArg (fun z => Value.bool (!z)) hk0) ?_
  refine (g7)<|(Qf 33)<|(Qy)<|(QV 2 0)<|(Qy)<|(QN)<|(Qat)<|(Qy)<|(j5)<|(Qy)<|(QT)<|(QT)<|(gv)<|(gz) ?_
  rw [hko]
  exact ⟨_, rfl, yt⟩
 ·skip
  refine Qp<|(j0)<|(Q0) ?_
  refine z6 (congrArg (fun z => Value.bool (!z)) hk0) ?_
  refine (g7)<|(Qf 33)<|(Qy)<|(QV 2 0)<|(Qy)<|(QN)<|(Qaf)<|(Qy)<|(g7)<|(Qf 1)<|(Qy)<|(Qv 1 0)<|(Qy) ?_
  refine wo (Ub 30 rfl) (Uu 30 rfl) z4M rfl ?_
  refine (Qy) ?_
  refine Xt (Uu 30) (Uu 5) (Uz 5) z0j rfl rfl rfl ?_
  refine z6 (congrArg (fun z => Value.bool (!z)) hk2) ?_
  refine (Qy)<|(QF)<|(QT)<|(gv)<|(gz) ?_
  rw [hko]
  exact ⟨_, rfl, yt⟩
 ·skip
  refine Qp<|(j0)<|(Q0) ?_
  refine z6 (congrArg (fun z => Value.bool (!z)) hk0) ?_
  refine (g7)<|(Qf 33)<|(Qy)<|(QV 2 0)<|(Qy)<|(QN)<|(Qaf)<|(Qy)<|(g7)<|(Qf 1)<|(Qy)<|(Qv 1 0)<|(Qy) ?_
  refine wo (Ub 30 rfl) (Uu 30 rfl) z4M rfl ?_
  refine (Qy) ?_
  refine Xt (Uu 30) (Uu 5) (Uz 5) z0j rfl rfl rfl ?_
  refine z6 (congrArg (fun z => Value.bool (!z)) hk2) ?_
  refine (Qy)<|(QF)<|(QT)<|(go)<|(gz) ?_
  rw [hko]
  exact ⟨_, rfl, yt⟩
end Go.Proofs.YtlidhfijmcelpaaGreatDoor
