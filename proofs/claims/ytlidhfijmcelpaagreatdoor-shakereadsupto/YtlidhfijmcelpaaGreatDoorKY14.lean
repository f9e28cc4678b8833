import Derived.Test.YtlidhfijmcelpaaGreatDoorKY13
set_option maxHeartbeats 8000000
set_option maxRecDepth 30000
attribute [local simp] Go.Proofs.YtlidhfijmcelpaaGreatDoor.By Go.Proofs.YtlidhfijmcelpaaGreatDoor.L8
namespace Go.Proofs.YtlidhfijmcelpaaGreatDoor
open Go Go.RowKit
variable {G : Mem}
theorem z7v (has : Bool) (k : NN) (n : Nat) (ch h : NN) (vt : Value) (tx : LN) (hvt : Sh (DOR :: G) vt tx) (e : Nat) (he : e ≠ 0) (hE : ∀ (G2 : Mem) (va : Value), Sh G2 va ((List.range 32).map h) → Sh G2 vt tx → Fp G2 137 #[CV has k n, va, vt] (.tuple #[CZ, y4, ii e])) : Fp (DOR :: G) 101 #[SV has k n ch h, vt] (.tuple #[(.agg (cells 98 [pV (.bool false), pI .u8 32 (fun _ => 0), pV (.int .u64 0), pI .u8 32 (fun _ => 0), pI .u8 32 (fun _ => 0)])), y4, ii e]) := by
 refine Qf3 Tryz.func101 ?_
 refine (g4)<|(Qh 0) fun r1=>(QH 1) fun r2=>(g8)<|(gr)<|(Qf 0)<|(QlK 0 0 3) ?_
 refine (Av (CV has k n))<|(Qf 66)<|(Qsa 0 32)<|(Qm) ?_
 refine zi rfl rfl (Un 137) (zf (ym 0 rfl ⟨[], trivial⟩) za) (hE ([⟨r1, cS has k n ch h, 35⟩] ++ (DOR :: G)) _ ((Z1 r1 4 35 h rfl (Nat.le_of_ble_eq_true rfl) (Nat.le_of_ble_eq_true rfl)).mono (fun x h => List.mem_append_left _ h)) (hvt.mono (fun x h => List.mem_append_right _ h))) rfl rfl ?_
 refine (jk)<|(QH 2) fun r3=>(QW 2)<|(j3)<|(QN)<|(Qat)<|(gu)<|(g4) ?_
 refine zC (cells 98 [pV (.bool false), pI .u8 32 (fun _ => 0), pV (.int .u64 0), pI .u8 32 (fun _ => 0), pI .u8 32 (fun _ => 0)]) (Ub 35 rfl) (Uu 35 rfl) z0s rfl (by kernel_rfl) rfl ?_
 refine (Qm)<|(QW 1)<|(gy) ?_
 exact ⟨_, _, _, rfl, yb 1, yt, yt⟩
theorem z2B (has : Bool) (k : NN) (n : Nat) (ch h : NN) (vt : Value) (tx out : LN) (hvt : Sh (DOR :: G) vt tx) (htb : By tx) (htl : tx.length ≤ 1000) (hol : out.length ≤ 1000) (hh : L8 32 h) (h2 : Bool) (k2 : NN) (n2 : Nat) (hE : ∀ (G2 : Mem) (va : Value), Sh G2 va ((List.range 32).map h) → Sh G2 vt tx → Fq G2 [] 137 #[CV has k n, va, vt] (fun v l1 nw => l1 = [] ∧ ∃ v', v = .tuple #[CV h2 k2 n2, v', ii 0] ∧ OwnS 5 1 v' out.length (out.map by8) nw)) : Fq (DOR :: G) [] 101 #[SV has k n ch h, vt] (fun v l1 nw => l1 = [] ∧ ∃ v', v = .tuple #[SV h2 k2 n2 ch (hx h tx), v', ii 0] ∧ OwnS 5 1 v' out.length (out.map by8) nw) := by
 refine QfO Tryz.func101 ?_
 refine (g4)<|(Qh 0) fun r1=>(QH 1) fun r2=>(g8)<|Qs<|(Qq ⟨[], 4, [], none, none⟩)<|(Qf 0)<|(QlK 0 0 3) ?_
 refine (Av (CV has k n))<|(Qf 66)<|(Qsa 0 32)<|(Qm) ?_
 refine zI 2 (fun v => .tuple #[CV h2 k2 n2, v, ii 0]) rfl rfl (Un 137) (zf (ym 0 rfl ⟨[], trivial⟩) za) (hE ([⟨r1, cS has k n ch h, 35⟩] ++ (DOR :: G)) _ ((Z1 r1 4 35 h rfl (Nat.le_of_ble_eq_true rfl) (Nat.le_of_ble_eq_true rfl)).mono (fun x h => List.mem_append_left _ h)) (hvt.mono (fun x h => List.mem_append_right _ h))) (by simp only [maxLen]; omega) (by rw [List.length_map, Nat.mul_one]) rfl rfl fun v1_1 oz1_1 ho1_1 => ?_
 refine (jk)<|(QH 3) fun r4=>(QW 3)<|(j3)<|(QN) ?_
 refine z6 (congrArg Value.bool (decide_eq_false (fun h => h rfl))) ?_
 refine (gn)<|(gc) ?_
 refine (Av (SV has k n ch h))<|(QD 3) ?_
 refine (Av (CV h2 k2 n2))<|(Qm) ?_
 refine (Ca (zd1 has k n ch h h2 k2 n2 vt tx hvt htb hh (by omega)))<|(Qm)<|(QW 1)<|(gy) ?_
 exact ⟨_, _, _, _, _, 2, rfl, yb 1, yt, yt, ho1_1, rfl⟩
theorem zaK (has : Bool) (k : NN) (n : Nat) (va vt : Value) (vf : Value) (hok : okC has k n = false) : Fp G 170 #[CV has k n, va, vt, vf] (.tuple #[CZ, y4, ii 9]) := by
 refine Qf3 Tryz.func170 ?_
 refine (g4)<|(Qh 0) fun r1=>(QH 1) fun r2=>(g8)<|Qs<|(gc) ?_
 refine (Ca (Zy has k n)) ?_
 refine (Ai (show (if okC has k n = true then 0 else 9) = 9 by rw [hok]; rfl))<|(jr)<|(gu)<|(g4) ?_
 refine zC (cells 34 [pV (.bool false), pI .u8 32 (fun _ => 0), pV (.int .u64 0)]) (Ub 33 rfl) (Uu 33 rfl) vL rfl (by kernel_rfl) rfl ?_
 refine (Qm)<|(QW 1)<|(gy) ?_
 exact ⟨_, _, _, rfl, yb 1, yt, yt⟩
theorem z7M (k : NN) (n : Nat) (va vt : Value) (vf : Value) (tx : LN) (hvt : Sh G vt tx) (hok : okC false k n = true) (hl : 800 < tx.length) : Fp G 170 #[CV false k n, va, vt, vf] (.tuple #[CZ, y4, ii 1]) := by
 refine Qf3 Tryz.func170 ?_
 refine (g4)<|(Qh 0) fun r1=>(QH 1) fun r2=>(g8)<|Qs<|(gc) ?_
 refine (Ca (Zy false k n)) ?_
 refine (Ai (show (if okC false k n = true then 0 else 9) = 0 by rw [hok]; rfl))<|(jr)<|(gn)<|(gs)<|(jj)<|(Q0)<|(gu)<|(gc)<|(Qm) ?_
 refine (Ca (z6R k n vt tx hvt hl))<|(ga)<|(Qx)<|(QW 1)<|(gy) ?_
 exact ⟨_, _, _, rfl, yb 1, yt, yt⟩
theorem z6l (k : NN) (n : Nat) (va vt : Value) (vf : Value) (tx : LN) (hvt : Sh G vt tx) (hok : okC false k n = true) (hl : tx.length ≤ 800) : Fq G [] 170 #[CV false k n, va, vt, vf] (fun v l1 nw => l1 = [] ∧ ∃ v', v = .tuple #[CV false k n, v', ii 0] ∧ OwnS 5 1 v' tx.length (tx.map by8) nw) := by
 refine QfO Tryz.func170 ?_
 refine (g4)<|(Qh 0) fun r1=>(QH 1) fun r2=>(g8)<|Qs<|(gc) ?_
 refine (Ca (Zy false k n)) ?_
 refine (Ai (show (if okC false k n = true then 0 else 9) = 0 by rw [hok]; rfl))<|(jr)<|(gn)<|(gs)<|(jj)<|(Q0)<|(gu)<|Qs<|QR ⟨[], 4, [], none, none⟩<|(QD 0)<|(Qm) ?_
 refine zI 2 (fun v => .tuple #[CV false k n, v, ii 0]) rfl rfl (Un 196) za (za3 k n vt tx hvt hl) (by simp only [maxLen]; omega) (by rw [List.length_map, Nat.mul_one]) rfl rfl fun v3_1 oz3_1 ho3_1 => ?_
 refine (ga)<|(Qx)<|(QW 1)<|(gy) ?_
 exact ⟨_, _, _, _, _, 2, rfl, yb 1, yt, yt, ho3_1, rfl⟩
theorem z6W (k : NN) (n : Nat) (va vt : Value) (vf : Value) (hn : n = 18446744073709551615) : Fp G 170 #[CV true k n, va, vt, vf] (.tuple #[CZ, y4, ii 11]) := by
 have hok : okC true k n = true := rfl
 refine Qf3 Tryz.func170 ?_
 refine (g4)<|(Qh 0) fun r1=>(QH 1) fun r2=>(g8)<|Qs<|(gc) ?_
 refine (Ca (Zy true k n)) ?_
 refine (Ai (show (if okC true k n = true then 0 else 9) = 0 by rw [hok]; rfl))<|(jr)<|(gn)<|(gs)<|(jj)<|(Q0)<|(gn)<|(gs)<|(Qf 33)<|(QV 2 0)<|(Qc) ?_
 refine (Ab (decide_eq_true (by rw [hn]; decide)))<|(gu)<|(g4) ?_
 refine zC (cells 34 [pV (.bool false), pI .u8 32 (fun _ => 0), pV (.int .u64 0)]) (Ub 33 rfl) (Uu 33 rfl) vL rfl (by kernel_rfl) rfl ?_
 refine (QW 1)<|(gy) ?_
 exact ⟨_, _, _, rfl, yb 1, yt, yt⟩
theorem vM (k : NN) (n : Nat) (va vt : Value) (hn : n < 18446744073709551615) (e : Nat) (he : e ≠ 0) (hE : Fp G 176 #[.agg (arr .u8 32 k), .agg (arr .u8 12 (xy n)), va, vt] (.tuple #[y4, ii e])) : Fp G 170 #[CV true k n, va, vt, .func (.func 176) #[] #[]] (.tuple #[CZ, y4, ii e]) := by
 have hok : okC true k n = true := rfl
 refine Qf3 Tryz.func170 ?_
 refine (g4)<|(Qh 0) fun r1=>(QH 1) fun r2=>(g8)<|Qs<|(gc) ?_
 refine (Ca (Zy true k n)) ?_
 refine (Ai (show (if okC true k n = true then 0 else 9) = 0 by rw [hok]; rfl))<|(jr)<|(gn)<|(gs)<|(jj)<|(Q0)<|(gn)<|(gs)<|(Qf 33)<|(QV 2 0)<|(Qc)<|(gw)<|(gr)<|(Qm)<|(Qf 1)<|(Qv 1 0)<|(Qf 33)<|(QV 2 0) ?_
 refine (Ca (z1W n))<|(gb) ?_
 refine zi rfl rfl (Un 176) za hE rfl rfl ?_
 refine (gi)<|(j3)<|(QN)<|(Qat)<|(gu)<|(g4) ?_
 refine zC (cells 34 [pV (.bool false), pI .u8 32 (fun _ => 0), pV (.int .u64 0)]) (Ub 33 rfl) (Uu 33 rfl) vL rfl (by kernel_rfl) rfl ?_
 refine (Qm)<|(QW 1)<|(gy) ?_
 exact ⟨_, _, _, rfl, yb 1, yt, yt⟩
theorem z1H (k : NN) (n : Nat) (va vt : Value) (hn : n < 18446744073709551615) (out : LN) (hm : out.length ≤ maxLen) (hE : Fq G [] 176 #[.agg (arr .u8 32 k), .agg (arr .u8 12 (xy n)), va, vt] (R2 5 out)) : Fq G [] 170 #[CV true k n, va, vt, .func (.func 176) #[] #[]] (fun v l1 nw => l1 = [] ∧ ∃ v', v = .tuple #[CV true k (n + 1), v', ii 0] ∧ OwnS 5 1 v' out.length (out.map by8) nw) := by
 have hok : okC true k n = true := rfl
 refine QfO Tryz.func170 ?_
 refine (g4)<|(Qh 0) fun r1=>(QH 1) fun r2=>(g8)<|Qs<|(gc) ?_
 refine (Ca (Zy true k n)) ?_
 refine (Ai (show (if okC true k n = true then 0 else 9) = 0 by rw [hok]; rfl))<|(jr)<|(gn)<|(gs)<|(jj)<|(Q0)<|(gn)<|(gs)<|(Qf 33)<|(QV 2 0)<|(Qc)<|(gw)<|Qs<|(Qq ⟨[], 4, [], none, none⟩)<|(Qm)<|(Qf 1)<|(Qv 1 0)<|(Qf 33)<|(QV 2 0) ?_
 refine (Ca (z1W n))<|(gb) ?_
 refine zI 2 (fun v => .tuple #[v, ii 0]) rfl rfl (Un 176) za hE hm (by rw [List.length_map, Nat.mul_one]) rfl rfl fun v4_1 oz4_1 ho4_1 => ?_
 refine (gi)<|(j3)<|(QN) ?_
 refine z6 (congrArg Value.bool (decide_eq_false (fun h => h rfl))) ?_
 refine (gn)<|(g4)<|(Qf 33)<|(QV 2 0) ?_
 refine wR (q := 1) rfl rfl rfl  ?_
 refine (Au (Nat.mod_eq_of_lt (show n + 1 < 18446744073709551616 by omega)))<|(Qf 33)<|(QtV 0 2)<|Qn<|(gc) ?_
 refine (Av (CV true k (n + 1)))<|(Qm)<|(QW 1)<|(gy) ?_
 exact ⟨_, _, _, _, _, 2, rfl, yb 1, yt, yt, ho4_1, rfl⟩
theorem z7d (has : Bool) (k : NN) (n : Nat) (va vt : Value) (e : Nat) (hU : Fp G 170 #[CV has k n, va, vt, .func (.func 176) #[] #[]] (.tuple #[CZ, y4, ii e])) : Fp G 137 #[CV has k n, va, vt] (.tuple #[CZ, y4, ii e]) := by
 refine Qf3 Tryz.func137 ?_
 refine (g4)<|(Qh 0) fun r1=>(QH 1) fun r2=>(g8)<|(gc)<|(gb) ?_
 refine (Ca hU)<|(ga)<|(Qx)<|(QW 1)<|(gy) ?_
 exact ⟨_, _, _, rfl, yb 1, yt, yt⟩
theorem z2A (has : Bool) (k : NN) (n : Nat) (va vt : Value) (h2 : Bool) (k2 : NN) (n2 : Nat) (out : LN) (hm : out.length ≤ maxLen) (hU : Fq G [] 170 #[CV has k n, va, vt, .func (.func 176) #[] #[]] (fun v l1 nw => l1 = [] ∧ ∃ v', v = .tuple #[CV h2 k2 n2, v', ii 0] ∧ OwnS 5 1 v' out.length (out.map by8) nw)) : Fq G [] 137 #[CV has k n, va, vt] (fun v l1 nw => l1 = [] ∧ ∃ v', v = .tuple #[CV h2 k2 n2, v', ii 0] ∧ OwnS 5 1 v' out.length (out.map by8) nw) := by
 refine QfO Tryz.func137 ?_
 refine (g4)<|(Qh 0) fun r1=>(QH 1) fun r2=>(g8)<|Qs<|QR ⟨[], 4, [], none, none⟩<|(QD 0)<|(gb) ?_
 refine zI 2 (fun v => .tuple #[CV h2 k2 n2, v, ii 0]) rfl rfl (Un 170) za hU hm (by rw [List.length_map, Nat.mul_one]) rfl rfl fun v1_1 oz1_1 ho1_1 => ?_
 refine (ga)<|(Qx)<|(QW 1)<|(gy) ?_
 exact ⟨_, _, _, _, _, 2, rfl, yb 1, yt, yt, ho1_1, rfl⟩
theorem zfK {G : Mem} (hO : DOR ∈ G) (y : SY) (hy : okY y) (vt : Value) (tx : LN) (hvt : Sh G vt tx) (htb : By tx) (w : Nat × SY × LN) (hw : y8 y tx = w) :
  (w.1 ≠ 0 → Fn Tryz.prog G 101 #[SVy y, vt] (.tuple #[SVy w.2.1, y4, ii w.1])) ∧ (w.1 = 0 → Fx Tryz.prog G [] 101 #[SVy y, vt] (fun v l1 nw => l1 = [] ∧ ∃ v', v = .tuple #[SVy w.2.1, v', ii 0] ∧ OwnS 5 1 v' w.2.2.length (w.2.2.map by8) nw)) := by
 obtain ⟨has, k, n, ch, h⟩ := y
 obtain ⟨hk, hn, hc, hh⟩ := hy
 have hv2 : Shows (DOR :: G) 1 vt tx.length (tx.map by8) := hvt.mono fun _ hx => List.mem_cons_of_mem _ hx
 have hk : ∀ j, j < 32 → k j < 256 := hk
 have hn : n < 18446744073709551616 := hn
 have hh : ∀ j, j < 32 → h j < 256 := hh
 have ee : ∀ (has : Bool) (e : Nat), e ≠ 0 → (∀ (G2 : Mem) (va : Value), Shows G2 1 va (ky h).length ((ky h).map by8) → Shows G2 1 vt tx.length (tx.map by8) → Fn Tryz.prog G2 170 #[CV has k n, va, vt, .func (.func 176) #[] #[]] (.tuple #[CZ, y4, ii e])) → Fn Tryz.prog G 101 #[SV has k n ch h, vt] (.tuple #[SVy SYZ, y4, ii e]) := fun has e he hU =>
  (z7v (G := G) has k n ch h vt tx hv2 e he (fun G2 va ha ht => z7d has k n va vt e (hU G2 va ha ht))).more (in1 hO)
 by_cases hok : okC has k n = false
 ·obtain rfl : w = (9, SYZ, []) := by rw [← hw]; exact if_pos hok
  exact ⟨fun _ => ee has 9 (by decide) fun _ va _ _ => zaK has k n va vt _ hok, fun h0 => absurd h0 z6z⟩
 have hok2 : okC has k n = true := by simpa using hok
 cases has
 ·by_cases hl : 800 < tx.length
  ·obtain rfl : w = (1, SYZ, []) := by rw [← hw]; exact (if_neg hok).trans ((if_pos rfl).trans (if_pos hl))
   exact ⟨fun _ => ee false 1 (by decide) fun _ va _ ht => z7M k n va vt _ tx ht hok2 hl, fun h0 => absurd h0 Ww⟩
  ·obtain rfl : w = (0, Y5 (false, k, n, ch, h) tx, tx) := by rw [← hw]; exact (if_neg hok).trans ((if_pos rfl).trans (if_neg hl))
   exact ⟨fun h0 => absurd rfl h0, fun _ => (z2B (G := G) false k n ch h vt tx tx hv2 htb (by omega) (by omega) hh false k n (fun G2 va _ ht => z2A false k n va vt false k n tx (by simp only [maxLen]; omega) (z6l k n va vt _ tx ht hok2 (by omega)))).wide (in1 hO)⟩
 have ht : ¬ true = false := by decide
 by_cases hov : n = 18446744073709551615
 ·obtain rfl : w = (11, SYZ, []) := by rw [← hw]; exact (if_neg hok).trans ((if_neg ht).trans (if_pos hov))
  exact ⟨fun _ => ee true 11 (by decide) fun _ va _ _ => z6W k n va vt _ hov, fun h0 => absurd h0 V4⟩
 have hn1 : n < 18446744073709551615 := by omega
 by_cases h2 : 816 < tx.length
 ·obtain rfl : w = (1, SYZ, []) := by rw [← hw]; exact (if_neg hok).trans ((if_neg ht).trans ((if_neg hov).trans (if_pos h2)))
  exact ⟨fun _ => ee true 1 (by decide) fun _ va ha ht => vM k n va vt hn1 1 (by decide) (z7A k (xy n) va vt (ky h) tx ha ht (by simp) h2), fun h0 => absurd h0 Ww⟩
 by_cases h3 : tx.length < 16
 ·obtain rfl : w = (4, SYZ, []) := by rw [← hw]; exact (if_neg hok).trans ((if_neg ht).trans ((if_neg hov).trans ((if_neg h2).trans (if_pos h3))))
  exact ⟨fun _ => ee true 4 (by decide) fun _ va ha ht => vM k n va vt hn1 4 (by decide) (z4y k (xy n) va vt (ky h) tx ha ht (by simp) h3), fun h0 => absurd h0 wn⟩
 by_cases ho : Xa k (xy n) (ky h) tx
 ·obtain rfl : w = (0, (true, k, n + 1, ch, hx h tx), X0 k (xy n) tx) := by rw [← hw]; exact (if_neg hok).trans ((if_neg ht).trans ((if_neg hov).trans ((if_neg h2).trans ((if_neg h3).trans (if_pos ho)))))
  exact ⟨fun h0 => absurd rfl h0, fun _ => (z2B (G := G) true k n ch h vt tx (X0 k (xy n) tx) hv2 htb (by omega) (by rw [wh]; omega) hh true k (n + 1) (fun G2 va ha ht => z2A true k n va vt true k (n + 1) _ (by rw [wh]; simp only [maxLen]; omega) (z1H k n va vt hn1 _ (by rw [wh]; simp only [maxLen]; omega) (zcN k (xy n) va vt (ky h) tx hk (VT n) ha ht (ZH hh) htb (by simp) (by omega) (by omega) ho)))).wide (in1 hO)⟩
 ·obtain rfl : w = (10, SYZ, []) := by rw [← hw]; exact (if_neg hok).trans ((if_neg ht).trans ((if_neg hov).trans ((if_neg h2).trans ((if_neg h3).trans (if_neg ho)))))
  exact ⟨fun _ => ee true 10 (by decide) fun _ va ha ht => vM k n va vt hn1 10 (by decide) (z7L k (xy n) va vt (ky h) tx hk (VT n) ha ht (ZH hh) htb (by simp) (by omega) (by omega) ho), fun h0 => absurd h0 z71⟩
theorem Vl (hO : DOR ∈ G) (b : LN) (l : Bool) (vp v0 v1 vt : Value) (fi : Bool) (tn : Int) (dd : Bool) (y : SY) (r : RS) (ow : NN) (vk : Value) (us : Int) (h1 : xl vp v0 v1 vt vk) (hy : okY y) (vx : Value) (tx : LN) (hvt : Sh G vx tx) (htb : By tx) (w : Nat × SY × LN) (hw : y8 y tx = w) (he : w.1 ≠ 0) : Fp G 59 #[.agg (shC b l vp v0 v1 vt fi tn dd y ow r vk us), vx] (.tuple #[.agg (shC b l vp v0 v1 vt fi tn dd w.2.1 ow r vk us), y4, ii w.1]) := by
 refine Qf3 Tryz.func59 ?_
 refine (g4)<|(Qh 0) fun r1=>(QH 1) fun r2=>(g8)<|(g4)<|(gz) ?_
 refine (Av (SVy y))<|(Qm) ?_
 refine (Ca ((zfK hO y hy vx tx hvt htb w hw).1 he))<|(jk)<|(QH 2) fun r3=>(QW 2)<|(g8)<|(g4)<|(QD 2)<|(j1) ?_
 refine ye (c' := shC b l vp v0 v1 vt fi tn dd w.2.1 ow r vk us) rfl ?_
 refine Qn<|(gc)<|(gb) ?_
 refine z4 (i := 1) (Uz 37) rfl rfl (z3 _ _) (ze h1) rfl z7 (.inl rfl) ?_
 refine (gy) ?_
 exact ⟨_, _, _, rfl, yb 1, yt, yt⟩
theorem z1e (hO : DOR ∈ G) (b : LN) (l : Bool) (vp v0 v1 vt : Value) (fi : Bool) (tn : Int) (dd : Bool) (y : SY) (r : RS) (ow : NN) (vk : Value) (us : Int) (h1 : xl vp v0 v1 vt vk) (hy : okY y) (vx : Value) (tx : LN) (hvt : Sh G vx tx) (htb : By tx) (w : Nat × SY × LN) (hw : y8 y tx = w) (htl : tx.length ≤ 100000) (he : w.1 = 0) : Fq G [] 59 #[.agg (shC b l vp v0 v1 vt fi tn dd y ow r vk us), vx] (fun v l1 nw => l1 = [] ∧ ∃ v', v = .tuple #[.agg (shC b l vp v0 v1 vt fi tn dd w.2.1 ow r vk us), v', ii 0] ∧ OwnS 5 1 v' w.2.2.length (w.2.2.map by8) nw) := by
 have hwl : w.2.2.length ≤ tx.length + 16 := by rw [← hw]; have := Zp y tx; omega
 refine QfO Tryz.func59 ?_
 refine (g4)<|(Qh 0) fun r1=>(QH 1) fun r2=>(g8)<|Qs<|QR ⟨[], 4, [], none, none⟩<|(gz) ?_
 refine (Av (SVy y))<|(Qm) ?_
 refine zI 2 (fun v => .tuple #[SVy w.2.1, v, ii 0]) rfl rfl (Un 101) za ((zfK hO y hy vx tx hvt htb w hw).2 he) (by simp only [maxLen]; omega) (by rw [List.length_map, Nat.mul_one]) rfl rfl fun v1_1 oz1_1 ho1_1 => ?_
 refine (jk)<|(QH 3) fun r4=>(QW 3)<|(g8)<|(g4)<|(QD 3)<|(j1) ?_
 refine ye (c' := shC b l vp v0 v1 vt fi tn dd w.2.1 ow r vk us) rfl ?_
 refine Qn<|(gc)<|(gb) ?_
 refine z4 (i := 1) (Uz 37) rfl rfl (z3 _ _) (ze h1) rfl z7 (.inl rfl) ?_
 refine (gy) ?_
 exact ⟨_, _, _, _, _, 2, rfl, yb 1, yt, yt, ho1_1, rfl⟩
theorem ze8 {G : Mem} (hO : DOR ∈ G) (y : SY) (hy : okY y) (v : Value) (l : LN) (hv : Sh G v l) (hb : By l) (hz : l.length ≤ 1000000) : Fp G 16 #[SVy y, v] (SVy (Y5 y l)) :=
 (WW (G := G) y.1 y.2.1 y.2.2.1 y.2.2.2.1 y.2.2.2.2 v l (hv.mono fun _ h => List.mem_cons_of_mem _ h) hb hy.2.2.2 (by omega)).more (in1 hO)
theorem z45 {G : Mem} (hO : DOR ∈ G) (y : SY) (hy : okY y) (v : Value) (l : LN) (hv : Sh G v l) (hb : By l) (hz : l.length ≤ 1000000) : Fp G 148 #[SVy y, v] (SVy (Xi y l)) := by
 have h := (zeB (G := G) y.1 y.2.1 y.2.2.1 y.2.2.2.1 y.2.2.2.2 v l (hv.mono fun _ h => List.mem_cons_of_mem _ h) hb hy.2.2.1 (by omega)).more (in1 hO)
 unfold Xi
 generalize kB y.2.2.2.1 l = fb at h ⊢
 generalize kA y.2.2.2.1 l = fa at h ⊢
 exact h
theorem zaR (hO : DOR ∈ G) (y : SY) (hy : okY y) (f : NN) (hf : B32 f) : Fp G 68 #[SVy y, .agg (arr .u8 32 f)] (SVy (Y5 y (ky f))) := by
 obtain ⟨y2, hy2⟩ : ∃ y2, y2 = Y5 y (ky f) := ⟨_, rfl⟩
 rw [← hy2]
 refine Qf1 Tryz.func68 ?_
 refine (g4)<|(Qh 0) fun r1=>(Qh 1) fun r2=>(QH 2) fun r3=>(jf)<|(QD 0) ?_
 refine (Av (SVy y))<|(Qsa 0 32) ?_
 refine zi rfl rfl (Un 16) (zf za (ym 1 rfl ⟨[], trivial⟩)) (ze8 (G := G ++ [(⟨r2, arr .u8 32 f, 30⟩ : Blk)]) (List.mem_append_left _ hO) y hy _ (ky f) ((xx _ f _).mono (fun x h => List.mem_append_right _ h)) (ZH hf) (by simp)) rfl rfl ?_
 refine z6 (congrArg SVy hy2.symm) ?_
 refine (QW 2)<|Qn<|Qr ?_
 exact ⟨_, rfl, yb 2⟩
theorem zfo (hO : DOR ∈ G) (b : LN) (l : Bool) (vp v0 v1 vt : Value) (fi : Bool) (tn : Int) (dd : Bool) (y : SY) (r : RS) (ow : NN) (vk : Value) (us : Int) (f : NN) (ps : List (NN)) (hk : Shows G 32 vk ps.length (psC ps)) (h1 : xl vp v0 v1 vt vk) (hy : okY y) (hf : B32 f) : Fp G 111 #[.agg (shC b l vp v0 v1 vt fi tn dd y ow r vk us), .agg (arr .u8 32 f)] (.agg (shC b l vp v0 v1 vt fi tn dd (xr (npk ps) y f) ow r vk us)) := by
 obtain ⟨z, hz⟩ : ∃ z, z = xr (npk ps) y f := ⟨_, rfl⟩
 obtain ⟨y2, hy2⟩ : ∃ y2, y2 = Y5 y (ky f) := ⟨_, rfl⟩
 have hyb : okY y2 := by rw [hy2]; exact Yt hy _
 rw [← hz]
 refine Qf1 Tryz.func111 ?_
 refine (g4)<|(Qh 0) fun r1=>(Qh 1) fun r2=>(QH 2) fun r3=>(gl)<|(gz) ?_
 refine (Av (SVy y))<|(Qd 1) ?_
 refine (Ca (zaR hO y hy f hf)) ?_
 refine z6 (congrArg SVy hy2.symm) ?_
 refine (j1) ?_
 refine ye (c' := shC b l vp v0 v1 vt fi tn dd y2 ow r vk us) rfl ?_
 refine Qn<|(gs)<|(Qf 238)<|(QV 21 0)<|(QC hk)<|(QG)<|Qn ?_
 refine (Qcd) (fun hc0=>?_) fun hc0=>?_
 ·have hz3 : z = Xi y2 (ky f) := by rw [hz, xr, if_pos (by show npk ps = true; exact decide_eq_true (by omega)), ← hy2]
  refine (Qg)<|(gz) ?_
  refine (Av (SVy y2))<|(Qsa 0 32) ?_
  refine zi rfl rfl (Un 148) (zf za (ym 1 rfl ⟨[], trivial⟩)) (z45 (G := G ++ [(⟨r2, arr .u8 32 f, 30⟩ : Blk)]) (List.mem_append_left _ hO) y2 hyb _ (ky f) ((xx _ f _).mono (fun x h => List.mem_append_right _ h)) (ZH hf) (by simp)) rfl rfl ?_
  refine z6 (show _ = SVy z by rw [hz3]) ?_
  refine (j1) ?_
  refine ye (c' := shC b l vp v0 v1 vt fi tn dd z ow r vk us) rfl ?_
  refine Qn<|(gc) ?_
  refine z4 (i := 2) (Uz 37) rfl rfl (z3 _ _) (ze h1) rfl z7 (.inl rfl) ?_
  refine Qn<|Qr ?_
  exact ⟨_, rfl, yb 2⟩
 ·obtain rfl : z = y2 := by rw [hz, xr, if_neg (by show ¬ npk ps = true; rw [npk, decide_eq_false (by omega)]; decide), ← hy2]
  refine Qk<|(gc) ?_
  refine z4 (i := 2) (Uz 37) rfl rfl (z3 _ _) (ze h1) rfl z7 (.inl rfl) ?_
  refine Qn<|Qr ?_
  exact ⟨_, rfl, yb 2⟩
theorem z9Z (hO : DOR ∈ G) (b : LN) (l : Bool) (vp v0 v1 vt : Value) (fi : Bool) (tn : Int) (dd : Bool) (y : SY) (r : RS) (ow : NN) (vk : Value) (us : Int) (f : NN) (ps : List (NN)) (hk : Shows G 32 vk ps.length (psC ps)) (h1 : xl vp v0 v1 vt vk) (hy : okY y) (hf : B32 f) : Fp G 71 #[.agg (shC b l vp v0 v1 vt fi tn dd y ow r vk us), .agg (arr .u8 32 f)] (.agg (shC b l vp v0 v1 vt fi tn dd (xr (npk ps) y f) ow (r.1, r.2.1, r.2.2.1, r.2.2.2.1, f, true) vk us)) := by
 obtain ⟨z, hz⟩ : ∃ z, z = xr (npk ps) y f := ⟨_, rfl⟩
 rw [← hz]
 refine Qf1 Tryz.func71 ?_
 refine (g4)<|(Qh 0) fun r1=>(Qh 1) fun r2=>(QH 2) fun r3=>(gl)<|(Qd 1)<|(Qf 205)<|(QtC 0 19)<|(Qf 237)<|(QtV 0 20) ?_
 refine ye (c' := shC b l vp v0 v1 vt fi tn dd y ow (r.1, r.2.1, r.2.2.1, r.2.2.2.1, f, true) vk us) rfl ?_
 refine Qn<|(gc)<|(Qd 1) ?_
 refine (Ca (zfo hO b l vp v0 v1 vt fi tn dd y (r.1, r.2.1, r.2.2.1, r.2.2.2.1, f, true) ow vk us f ps hk h1 hy hf)) ?_
 refine z6 (show _ = Value.agg (shC b l vp v0 v1 vt fi tn dd z ow (r.1, r.2.1, r.2.2.1, r.2.2.2.1, f, true) vk us) by rw [hz]) ?_
 refine z4 (i := 2) (Uz 37) rfl rfl (z3 _ _) (ze h1) rfl z7 (.inl rfl) ?_
 refine Qn<|Qr ?_
 exact ⟨_, rfl, yb 2⟩
theorem zfP {G : Mem} (hO : DOR ∈ G) (y : SY) (hy : okY y) (v : Value) (l : LN) (hv : Sh G v l) (hb : By l) (hz : l.length ≤ 1000000) : Fp G 166 #[SVy y, v] (SVy (z5f y l)) := by
 have h := (zaz (G := G) y.1 y.2.1 y.2.2.1 y.2.2.2.1 y.2.2.2.2 v l (hv.mono fun _ h => List.mem_cons_of_mem _ h) hb hy.2.2.1 hy.2.2.2 (by omega)).more (in1 hO)
 unfold z5f
 generalize hx y.2.2.2.2 (ky (kB y.2.2.2.1 l)) = fh at h ⊢
 generalize kC y.2.2.2.1 l = fc at h ⊢
 generalize kA y.2.2.2.1 l = fa at h ⊢
 exact h
theorem z8H (t : Nat) : Fp G 167 #[ii t] (.tuple #[ii (WA t), ii (WK t)]) := by
 refine Qf2 Tryz.func167 ?_
 refine (g4)<|(j3)<|Qn<|Qb<|(g4)<|(Qc)<|(g3) ?_
 refine zh rfl ?_ ?_
 ·intro hc0
  obtain rfl : t = 3 := by have := of_decide_eq_true hc0; omega
  refine (g4)<|(gy) ?_
  first | (rw [show WA t = 2 by unfold WA; rw [if_neg hn0, if_neg hn1], show WK t = 2 by unfold WK; rw [if_neg hn0, if_neg hn1, if_neg hn2]]) | skip
  exact ⟨_, _, rfl, yt, yt⟩
 ·intro hc0
  have hn0 : ¬ t = 3 := by have := of_decide_eq_false hc0; omega
  refine (g4)<|(Qc)<|(g3) ?_
  refine zh rfl ?_ ?_
  ·intro hc1
   obtain rfl : t = 4 := by have := of_decide_eq_true hc1; omega
   refine (g4)<|(gy) ?_
   first | (rw [show WA t = 2 by unfold WA; rw [if_neg hn0, if_neg hn1], show WK t = 2 by unfold WK; rw [if_neg hn0, if_neg hn1, if_neg hn2]]) | skip
   exact ⟨_, _, rfl, yt, yt⟩
  ·intro hc1
   have hn1 : ¬ t = 4 := by have := of_decide_eq_false hc1; omega
   refine (g4)<|(Qc)<|(g3) ?_
   refine zh rfl ?_ ?_
   ·intro hc2
    obtain rfl : t = 5 := by have := of_decide_eq_true hc2; omega
    refine (g4)<|(gy) ?_
    first | (rw [show WA t = 2 by unfold WA; rw [if_neg hn0, if_neg hn1], show WK t = 2 by unfold WK; rw [if_neg hn0, if_neg hn1, if_neg hn2]]) | skip
    exact ⟨_, _, rfl, yt, yt⟩
   ·intro hc2
    have hn2 : ¬ t = 5 := by have := of_decide_eq_false hc2; omega
    refine Qk<|(g4)<|(gy) ?_
    first | (rw [show WA t = 2 by unfold WA; rw [if_neg hn0, if_neg hn1], show WK t = 2 by unfold WK; rw [if_neg hn0, if_neg hn1, if_neg hn2]]) | skip
    exact ⟨_, _, rfl, yt, yt⟩
theorem Vo (b : LN) (l : Bool) (vp v0 v1 vt : Value) (fi : Bool) (tn : Int) (dd : Bool) (y : SY) (r : RS) (ow : NN) (vk : Value) (us : Int) (x : Nat) : Fp G 168 #[.agg (shC b l vp v0 v1 vt fi tn dd y ow r vk us), ii x] (.tuple #[.agg (arr .u8 32 (if x = 1 then r.1 else ow)), .bool (if x = 1 then r.2.1 else true)]) := by
 refine Qf2 Tryz.func168 ?_
 refine (g4)<|(Qh 0) fun r1=>(QH 1) fun r2=>(g3)<|(ge)<|(Qc)<|Qn ?_
 refine zh rfl ?_ ?_
 ·intro hc0
  have hx : x = 1 := by have := of_decide_eq_true hc0; omega
  rw [if_pos hx, if_pos hx]
  refine Qs<|(Qq ⟨[r2], 1, [], none, none⟩)<|(Qf 139) ?_
  refine X1 (i := 0) 15 (Uu 30) rfl (Uz 30) rfl rfl rfl (by decide) rfl ⟨[1], rfl, rfl, trivial⟩ ?_
  refine (Qf 171) ?_
  refine Za (i := 0) 16 (Uu 4) rfl rfl rfl rfl (by decide) rfl ⟨[1], rfl, rfl, trivial⟩ ?_
  refine z4 (i := 1) (Uz 30) rfl rfl (zd _ _ _) zU rfl (yg _ _ _ _ _) (.inr (by simp)) ?_
  refine (gt) ?_
  exact ⟨_, _, rfl, ya 1, yt⟩
 ·intro hc0
  have hx : ¬ x = 1 := by have := of_decide_eq_false hc0; omega
  rw [if_neg hx, if_neg hx]
  refine Qk<|(g4)<|(Qf 107)<|(Qv 14 0)<|(Qt 1)<|(gt) ?_
  exact ⟨_, _, rfl, ya 1, yt⟩
theorem Vd (b : LN) (l : Bool) (vp v0 v1 vt : Value) (fi : Bool) (tn : Int) (dd : Bool) (y : SY) (r : RS) (ow : NN) (vk : Value) (us : Int) (x : Nat) : Fp G 169 #[.agg (shC b l vp v0 v1 vt fi tn dd y ow r vk us), ii x] (.tuple #[.agg (arr .u8 32 (if x = 1 then r.2.2.2.2.1 else r.2.2.1)), .bool (if x = 1 then r.2.2.2.2.2 else r.2.2.2.1)]) := by
 refine Qf2 Tryz.func169 ?_
 refine (g4)<|(Qh 0) fun r1=>(QH 1) fun r2=>(g3)<|(ge)<|(Qc)<|Qn ?_
 refine zh rfl ?_ ?_
 ·intro hc0
  have hx : x = 1 := by have := of_decide_eq_true hc0; omega
  rw [if_pos hx, if_pos hx]
  refine Qs<|(Qq ⟨[r2], 1, [], none, none⟩)<|(Qf 205) ?_
  refine X1 (i := 0) 19 (Uu 30) rfl (Uz 30) rfl rfl rfl (by decide) rfl ⟨[1], rfl, rfl, trivial⟩ ?_
  refine (Qf 237) ?_
  refine Za (i := 0) 20 (Uu 4) rfl rfl rfl rfl (by decide) rfl ⟨[1], rfl, rfl, trivial⟩ ?_
  refine z4 (i := 1) (Uz 30) rfl rfl (zd _ _ _) zU rfl (yg _ _ _ _ _) (.inr (by simp)) ?_
  refine (gt) ?_
  exact ⟨_, _, rfl, ya 1, yt⟩
 ·intro hc0
  have hx : ¬ x = 1 := by have := of_decide_eq_false hc0; omega
  rw [if_neg hx, if_neg hx]
  refine Qk<|Qs<|(Qq ⟨[r2], 1, [], none, none⟩)<|(Qf 172) ?_
  refine X1 (i := 0) 17 (Uu 30) rfl (Uz 30) rfl rfl rfl (by decide) rfl ⟨[1], rfl, rfl, trivial⟩ ?_
  refine (Qf 204) ?_
  refine Za (i := 0) 18 (Uu 4) rfl rfl rfl rfl (by decide) rfl ⟨[1], rfl, rfl, trivial⟩ ?_
  refine z4 (i := 1) (Uz 30) rfl rfl (zd _ _ _) zU rfl (yg _ _ _ _ _) (.inr (by simp)) ?_
  refine (gt) ?_
  exact ⟨_, _, rfl, ya 1, yt⟩
theorem zbT (hO : DOR ∈ G) (b : LN) (l : Bool) (vp v0 v1 vt : Value) (fi : Bool) (tn : Int) (dd : Bool) (y : SY) (r : RS) (ow : NN) (vk : Value) (us : Nat) (ps : List (NN)) (hk : Shows G 32 vk ps.length (psC ps)) (hp : okP ps) (h1 : xl vp v0 v1 vt vk) (hy : okY y) (hr : okR r) (ho : B32 ow) (w : Nat × SS) (hw : xM fi ow ps 7 (y, r, us) = w) : Fp G 130 #[.agg (shC b l vp v0 v1 vt fi tn dd y ow r vk ((us : Nat) : Int))] (.tuple #[.agg (shC b l vp v0 v1 vt fi tn dd w.2.1 ow w.2.2.1 vk ((w.2.2.2 : Nat) : Int)), ii w.1]) := by
 have hpl := hp.2
 have _u1 := hr
 have _u2 := ho
 refine Qf2 Tryz.func130 ?_
 refine (g4)<|(Qh 0) fun r1=>(QH 1) fun r2=>(g3)<|(gs)<|(Qf 239)<|(QV 22 0)<|(Qf 238)<|(QV 21 0)<|(QC hk)<|(QE)<|Qn ?_
 refine (Qcd) (fun hc0=>?_) fun hc0=>?_
 ·obtain rfl : w = (5, (y, r, us)) := by rw [← hw]; exact Vp (by omega)
  refine (gc) ?_
  refine z4 (i := 1) (Uz 37) rfl rfl (z3 _ _) (ze h1) rfl z7 (.inl rfl) ?_
  refine (gt) ?_
  exact ⟨_, _, rfl, yb 1, yt⟩
 ·obtain ⟨y2, hy2⟩ : ∃ y2, y2 = z5f y (ky (ZD ps us)) := ⟨_, rfl⟩
  obtain rfl : w = (0, y2, r, us + 1) := by rw [← hw, hy2]; exact z62 (by omega)
  refine Qk<|(g4)<|(Qf 238)<|(QV 21 0)<|(Qf 239)<|(QV 22 0) ?_
  refine yf hk (Uu 24) (Uz 30) rfl rfl (by omega) rfl ?_
  refine wz hk za (Uu 30) rfl (Uz 30) rfl (by decide) (by rw [xc vI]; omega) (z37 (by omega)) rfl ?_
  refine z6 (congrArg Value.agg (XK _)) ?_
  refine (QH 2) fun r3=>(Qt 2)<|(jf)<|(gz) ?_
  refine (Av (SVy y))<|(Qsa 0 32) ?_
  refine zi rfl rfl (Un 166) (zf za (ym 2 rfl ⟨[], trivial⟩)) (zfP (G := G ++ [(⟨r3, arr .u8 32 (ZD ps us), 30⟩ : Blk)]) (List.mem_append_left _ hO) y hy _ (ky (ZD ps us)) ((xx _ (ZD ps us) _).mono (fun x h => List.mem_append_right _ h)) (ZH (z5J hp (by omega))) (by simp)) rfl rfl ?_
  refine z6 (congrArg SVy hy2.symm) ?_
  refine (j1) ?_
  refine ye (c' := shC b l vp v0 v1 vt fi tn dd y2 ow r vk ((us : Nat) : Int)) rfl ?_
  refine (gl)<|(Qf 239)<|(QV 22 0)<|(Q2 1)<|(Qf 239)<|(QtV 0 22) ?_
  refine ye (c' := shC b l vp v0 v1 vt fi tn dd y2 ow r vk ((us + 1 : Nat) : Int)) rfl ?_
  refine Qn<|(gc) ?_
  refine z4 (i := 1) (Uz 37) rfl rfl (z3 _ _) (ze h1) rfl z7 (.inl rfl) ?_
  refine (gt) ?_
  exact ⟨_, _, rfl, yb 1, yt⟩
theorem z3L (hO : DOR ∈ G) (b : LN) (l : Bool) (vp v0 v1 vt : Value) (tn : Int) (dd : Bool) (y : SY) (r : RS) (ow : NN) (vk : Value) (us : Nat) (ps : List (NN)) (hk : Shows G 32 vk ps.length (psC ps)) (hp : okP ps) (h1 : xl vp v0 v1 vt vk) (hy : okY y) (hr : okR r) (ho : B32 ow) (t : Nat) (h3 : 3 ≤ t) (h6 : t ≤ 6) (w : Nat × SS) (hw : xM true ow ps t (y, r, us) = w) : Fp G 131 #[.agg (shC b l vp v0 v1 vt true tn dd y ow r vk ((us : Nat) : Int)), ii t] (.tuple #[.agg (shC b l vp v0 v1 vt true tn dd w.2.1 ow w.2.2.1 vk ((w.2.2.2 : Nat) : Int)), ii w.1]) := by
 have _u1 := hk
 have _u2 := hp
 obtain ⟨fs, hfs⟩ : ∃ z, z = YB true ow r t := ⟨_, rfl⟩
 obtain ⟨fp, hfp⟩ : ∃ z, z = Ze true r t := ⟨_, rfl⟩
 obtain ⟨bs, hbs⟩ : ∃ z, z = XC true r t := ⟨_, rfl⟩
 obtain ⟨bw, hbw⟩ : ∃ z, z = Yb true r t := ⟨_, rfl⟩
 have hls : B32 fs := by rw [hfs]; exact z3g ho hr
 have hlp : B32 fp := by rw [hfp]; exact z3y hr
 obtain ⟨mk, hmk⟩ : ∃ z, z = z5g fs fp := ⟨_, rfl⟩
 have h7 : t ≠ 7 := by omega
 have hN : (bs && bw) = false → w = (5, (y, r, us)) := fun h => by rw [← hw]; exact WT h7 (by rw [← hbs, ← hbw]; exact h)
 have hZ : ¬ (bs && bw) = false → mk = 0 → w = (12, (y, r, us)) := fun h hz => by rw [← hw]; exact Ws h7 (by rw [← hbs, ← hbw]; exact h) (by rw [← hfs, ← hfp, ← hmk]; exact hz)
 have hK : ¬ (bs && bw) = false → ¬ mk = 0 → w = (0, Xi y (ky (bt mk)), r, us) := fun h hz => by rw [← hw]; exact (z3M h7 (by rw [← hbs, ← hbw]; exact h) (by rw [← hfs, ← hfp, ← hmk]; exact hz)).trans (by rw [← hfs, ← hfp, ← hmk])
 refine Qf2 Tryz.func131 ?_
 refine (g4)<|(Qh 0) fun r1=>(QH 1) fun r2=>(go) ?_
 refine (Ca (z8H t))<|(gi)<|(g8)<|(gs)<|(Qf 6)<|(QV 6 0)<|(Q0)<|(gn)<|(gc)<|(Qm) ?_
 refine (Ca (Vo b l vp v0 v1 vt true tn dd y r ow vk us (WA t))) ?_
 refine z6 (show _ = Value.tuple #[.agg (arr .u8 32 fs), .bool bs] by rw [hfs, hbs, ← zcP (fi := true) h3 h6, ← zck (fi := true) h3 h6]; rfl) ?_
 refine (gi)<|(QH 2) fun r3=>(Qt 2)<|(g3)<|(gc)<|(Qm) ?_
 refine (Ca (Vd b l vp v0 v1 vt true tn dd y r ow vk us (WK t))) ?_
 refine z6 (show _ = Value.tuple #[.agg (arr .u8 32 fp), .bool bw] by rw [hfp, hbw, ← zg1 (fi := true) h3 h6, ← zfb (fi := true) h3 h6]; rfl) ?_
 refine (gi)<|(QH 3) fun r4=>(Qt 3)<|(g3)<|(gs) ?_
 refine yd [(0, _), (1, _), (2, _), (4, _), (5, _), (6, _), (7, _), (8, _), (9, _), (10, _), (11, _), (14, _), (15, _), (16, _), (17, _), (18, _), (19, _), (20, _), (21, _), (24, _), (25, _), (26, _), (27, _), (28, _), (29, _), (30, _), (31, _), (32, _), (33, _), (34, _), (35, _)] [(41, .bool (!(bs && bw)))] [(0, some _), (1, some _), (2, some _), (3, some _)] ⟨rfl, rfl, rfl, rfl, rfl, rfl, rfl, rfl, rfl, rfl, rfl, rfl, rfl, rfl, rfl, rfl, rfl, rfl, rfl, rfl, rfl, rfl, rfl, rfl, rfl, rfl, rfl, rfl, rfl, rfl, rfl, trivial⟩ ⟨rfl, rfl, rfl, rfl, trivial⟩ ?_ ?_
 ·skip
  refine (Qm)<|(Q0)<|(Qm) ?_
  refine zn (b := (!bs)) (fun hb0 => ?_) (fun hb0 => ?_)
  ·skip
   refine (g5)<|(QT)<|Qn ?_
   exact ⟨⟨rfl, rfl, rfl, rfl, rfl, rfl, rfl, rfl, rfl, rfl, rfl, rfl, rfl, rfl, rfl, rfl, rfl, rfl, rfl, rfl, rfl, rfl, rfl, rfl, rfl, rfl, rfl, rfl, rfl, rfl, rfl, trivial⟩, ⟨z5 (by rw [Bool.not_and, hb0] <;> rfl), trivial⟩, ⟨rfl, rfl, rfl, rfl, trivial⟩⟩
  ·skip
   refine (Qy)<|(g7)<|(Q0)<|(QF)<|Qn ?_
   exact ⟨⟨rfl, rfl, rfl, rfl, rfl, rfl, rfl, rfl, rfl, rfl, rfl, rfl, rfl, rfl, rfl, rfl, rfl, rfl, rfl, rfl, rfl, rfl, rfl, rfl, rfl, rfl, rfl, rfl, rfl, rfl, rfl, trivial⟩, ⟨z5 (by rw [Bool.not_and, hb0] <;> rfl), trivial⟩, ⟨rfl, rfl, rfl, rfl, trivial⟩⟩
 ·simp only [zo]
  refine zh rfl ?_ ?_
  ·intro hc1
   have hn1 : (bs && bw) = false := zio hc1
   obtain rfl := hN hn1
   refine (gc) ?_
   refine z4 (i := 1) (Uz 37) rfl rfl (z3 _ _) (ze h1) rfl z7 (.inl rfl) ?_
   refine (gt) ?_
   exact ⟨_, _, rfl, yb 1, yt⟩
  ·intro hc1
   have hn1 : ¬ (bs && bw) = false := zit hc1
   refine Qk<|(g4)<|(Qd 2)<|(Qd 3) ?_
   refine (Ca (z5i fs fp hls hlp)) ?_
   refine z6 (show _ = Value.tuple #[Value.agg (arr .u8 32 (bt mk)), .bool (!decide (mk = 0))] by rw [hmk]; rfl) ?_
   refine (gi)<|(QH 4) fun r5=>(Qt 4)<|(g3)<|(ge)<|(Q0)<|Qn ?_
   refine zh rfl ?_ ?_
   ·intro hc2
    have hz1 : mk = 0 := by simpa using hc2
    obtain rfl := hZ hn1 hz1
    refine (gc) ?_
    refine z4 (i := 1) (Uz 37) rfl rfl (z3 _ _) (ze h1) rfl z7 (.inl rfl) ?_
    refine (gt) ?_
    exact ⟨_, _, rfl, yb 1, yt⟩
   ·intro hc2
    have hz1 : ¬ mk = 0 := by simpa using hc2
    obtain ⟨y2, hy2⟩ : ∃ y2, y2 = Xi y (ky (bt mk)) := ⟨_, rfl⟩
    obtain rfl : w = (0, y2, r, us) := by rw [hy2]; exact hK hn1 hz1
    refine Qk<|(gr)<|(gz) ?_
    refine (Av (SVy y))<|(Qsa 0 32) ?_
    refine zi rfl rfl (Un 148) (zf za (ym 4 rfl ⟨[], trivial⟩)) (z45 (G := G ++ [(⟨r5, arr .u8 32 (bt mk), 30⟩ : Blk)]) (List.mem_append_left _ hO) y hy _ (ky (bt mk)) ((xx _ (bt mk) _).mono (fun x h => List.mem_append_right _ h)) (ZH (zj6 mk)) (by simp)) rfl rfl ?_
    refine z6 (congrArg SVy hy2.symm) ?_
    refine (j1) ?_
    refine ye (c' := shC b l vp v0 v1 vt true tn dd y2 ow r vk ((us : Nat) : Int)) rfl ?_
    refine Qn<|(gc) ?_
    refine z4 (i := 1) (Uz 37) rfl rfl (z3 _ _) (ze h1) rfl z7 (.inl rfl) ?_
    refine (gt) ?_
    exact ⟨_, _, rfl, yb 1, yt⟩
theorem z1I (hO : DOR ∈ G) (b : LN) (l : Bool) (vp v0 v1 vt : Value) (tn : Int) (dd : Bool) (y : SY) (r : RS) (ow : NN) (vk : Value) (us : Nat) (ps : List (NN)) (hk : Shows G 32 vk ps.length (psC ps)) (hp : okP ps) (h1 : xl vp v0 v1 vt vk) (hy : okY y) (hr : okR r) (ho : B32 ow) (t : Nat) (h3 : 3 ≤ t) (h6 : t ≤ 6) (w : Nat × SS) (hw : xM false ow ps t (y, r, us) = w) : Fp G 131 #[.agg (shC b l vp v0 v1 vt false tn dd y ow r vk ((us : Nat) : Int)), ii t] (.tuple #[.agg (shC b l vp v0 v1 vt false tn dd w.2.1 ow w.2.2.1 vk ((w.2.2.2 : Nat) : Int)), ii w.1]) := by
 have _u1 := hk
 have _u2 := hp
 obtain ⟨fs, hfs⟩ : ∃ z, z = YB false ow r t := ⟨_, rfl⟩
 obtain ⟨fp, hfp⟩ : ∃ z, z = Ze false r t := ⟨_, rfl⟩
 obtain ⟨bs, hbs⟩ : ∃ z, z = XC false r t := ⟨_, rfl⟩
 obtain ⟨bw, hbw⟩ : ∃ z, z = Yb false r t := ⟨_, rfl⟩
 have hls : B32 fs := by rw [hfs]; exact z3g ho hr
 have hlp : B32 fp := by rw [hfp]; exact z3y hr
 obtain ⟨mk, hmk⟩ : ∃ z, z = z5g fs fp := ⟨_, rfl⟩
 have h7 : t ≠ 7 := by omega
 have hN : (bs && bw) = false → w = (5, (y, r, us)) := fun h => by rw [← hw]; exact WT h7 (by rw [← hbs, ← hbw]; exact h)
 have hZ : ¬ (bs && bw) = false → mk = 0 → w = (12, (y, r, us)) := fun h hz => by rw [← hw]; exact Ws h7 (by rw [← hbs, ← hbw]; exact h) (by rw [← hfs, ← hfp, ← hmk]; exact hz)
 have hK : ¬ (bs && bw) = false → ¬ mk = 0 → w = (0, Xi y (ky (bt mk)), r, us) := fun h hz => by rw [← hw]; exact (z3M h7 (by rw [← hbs, ← hbw]; exact h) (by rw [← hfs, ← hfp, ← hmk]; exact hz)).trans (by rw [← hfs, ← hfp, ← hmk])
 refine Qf2 Tryz.func131 ?_
 refine (g4)<|(Qh 0) fun r1=>(QH 1) fun r2=>(go) ?_
 refine (Ca (z8H t))<|(gi)<|(g8)<|(gs)<|(Qf 6)<|(QV 6 0)<|(Q0)<|(gu)<|Qp<|(gb)<|(g8)<|(gc)<|(Qm) ?_
 refine (Ca (Vo b l vp v0 v1 vt false tn dd y r ow vk us (WK t))) ?_
 refine z6 (show _ = Value.tuple #[.agg (arr .u8 32 fs), .bool bs] by rw [hfs, hbs, ← zcP (fi := false) h3 h6, ← zck (fi := false) h3 h6]; rfl) ?_
 refine (gi)<|(QH 2) fun r3=>(Qt 2)<|(g3)<|(gc)<|(Qm) ?_
 refine (Ca (Vd b l vp v0 v1 vt false tn dd y r ow vk us (WA t))) ?_
 refine z6 (show _ = Value.tuple #[.agg (arr .u8 32 fp), .bool bw] by rw [hfp, hbw, ← zg1 (fi := false) h3 h6, ← zfb (fi := false) h3 h6]; rfl) ?_
 refine (gi)<|(QH 3) fun r4=>(Qt 3)<|(g3)<|(gs) ?_
 refine yd [(0, _), (1, _), (2, _), (4, _), (5, _), (6, _), (7, _), (8, _), (9, _), (10, _), (11, _), (14, _), (15, _), (16, _), (17, _), (18, _), (19, _), (20, _), (21, _), (22, _), (23, _), (24, _), (25, _), (26, _), (27, _), (28, _), (29, _), (30, _), (31, _), (32, _), (33, _), (34, _), (35, _)] [(41, .bool (!(bs && bw)))] [(0, some _), (1, some _), (2, some _), (3, some _)] ⟨rfl, rfl, rfl, rfl, rfl, rfl, rfl, rfl, rfl, rfl, rfl, rfl, rfl, rfl, rfl, rfl, rfl, rfl, rfl, rfl, rfl, rfl, rfl, rfl, rfl, rfl, rfl, rfl, rfl, rfl, rfl, rfl, rfl, trivial⟩ ⟨rfl, rfl, rfl, rfl, trivial⟩ ?_ ?_
 ·skip
  refine (Qm)<|(Q0)<|(Qm) ?_
  refine zn (b := (!bs)) (fun hb0 => ?_) (fun hb0 => ?_)
  ·skip
   refine (g5)<|(QT)<|Qn ?_
   exact ⟨⟨rfl, rfl, rfl, rfl, rfl, rfl, rfl, rfl, rfl, rfl, rfl, rfl, rfl, rfl, rfl, rfl, rfl, rfl, rfl, rfl, rfl, rfl, rfl, rfl, rfl, rfl, rfl, rfl, rfl, rfl, rfl, rfl, rfl, trivial⟩, ⟨z5 (by rw [Bool.not_and, hb0] <;> rfl), trivial⟩, ⟨rfl, rfl, rfl, rfl, trivial⟩⟩
  ·skip
   refine (Qy)<|(g7)<|(Q0)<|(QF)<|Qn ?_
   exact ⟨⟨rfl, rfl, rfl, rfl, rfl, rfl, rfl, rfl, rfl, rfl, rfl, rfl, rfl, rfl, rfl, rfl, rfl, rfl, rfl, rfl, rfl, rfl, rfl, rfl, rfl, rfl, rfl, rfl, rfl, rfl, rfl, rfl, rfl, trivial⟩, ⟨z5 (by rw [Bool.not_and, hb0] <;> rfl), trivial⟩, ⟨rfl, rfl, rfl, rfl, trivial⟩⟩
 ·simp only [zo]
  refine zh rfl ?_ ?_
  ·intro hc1
   have hn1 : (bs && bw) = false := zio hc1
   obtain rfl := hN hn1
   refine (gc) ?_
   refine z4 (i := 1) (Uz 37) rfl rfl (z3 _ _) (ze h1) rfl z7 (.inl rfl) ?_
   refine (gt) ?_
   exact ⟨_, _, rfl, yb 1, yt⟩
  ·intro hc1
   have hn1 : ¬ (bs && bw) = false := zit hc1
   refine Qk<|(g4)<|(Qd 2)<|(Qd 3) ?_
   refine (Ca (z5i fs fp hls hlp)) ?_
   refine z6 (show _ = Value.tuple #[Value.agg (arr .u8 32 (bt mk)), .bool (!decide (mk = 0))] by rw [hmk]; rfl) ?_
   refine (gi)<|(QH 4) fun r5=>(Qt 4)<|(g3)<|(ge)<|(Q0)<|Qn ?_
   refine zh rfl ?_ ?_
   ·intro hc2
    have hz1 : mk = 0 := by simpa using hc2
    obtain rfl := hZ hn1 hz1
    refine (gc) ?_
    refine z4 (i := 1) (Uz 37) rfl rfl (z3 _ _) (ze h1) rfl z7 (.inl rfl) ?_
    refine (gt) ?_
    exact ⟨_, _, rfl, yb 1, yt⟩
   ·intro hc2
    have hz1 : ¬ mk = 0 := by simpa using hc2
    obtain ⟨y2, hy2⟩ : ∃ y2, y2 = Xi y (ky (bt mk)) := ⟨_, rfl⟩
    obtain rfl : w = (0, y2, r, us) := by rw [hy2]; exact hK hn1 hz1
    refine Qk<|(gr)<|(gz) ?_
    refine (Av (SVy y))<|(Qsa 0 32) ?_
    refine zi rfl rfl (Un 148) (zf za (ym 4 rfl ⟨[], trivial⟩)) (z45 (G := G ++ [(⟨r5, arr .u8 32 (bt mk), 30⟩ : Blk)]) (List.mem_append_left _ hO) y hy _ (ky (bt mk)) ((xx _ (bt mk) _).mono (fun x h => List.mem_append_right _ h)) (ZH (zj6 mk)) (by simp)) rfl rfl ?_
    refine z6 (congrArg SVy hy2.symm) ?_
    refine (j1) ?_
    refine ye (c' := shC b l vp v0 v1 vt false tn dd y2 ow r vk ((us : Nat) : Int)) rfl ?_
    refine Qn<|(gc) ?_
    refine z4 (i := 1) (Uz 37) rfl rfl (z3 _ _) (ze h1) rfl z7 (.inl rfl) ?_
    refine (gt) ?_
    exact ⟨_, _, rfl, yb 1, yt⟩
theorem z7P {G : Mem} (hO : DOR ∈ G) (b : LN) (l : Bool) (vp v0 v1 vt : Value) (fi : Bool) (tn : Int) (dd : Bool) (y : SY) (r : RS) (ow : NN) (vk : Value) (us : Nat) (ps : List (NN)) (hk : Shows G 32 vk ps.length (psC ps)) (hp : okP ps) (h1 : xl vp v0 v1 vt vk) (hy : okY y) (hr : okR r) (ho : B32 ow) (t : Nat) (h3 : 3 ≤ t) (h6 : t ≤ 6) (w : Nat × SS) (hw : xM fi ow ps t (y, r, us) = w) : Fp G 131 #[.agg (shC b l vp v0 v1 vt fi tn dd y ow r vk ((us : Nat) : Int)), ii t] (.tuple #[.agg (shC b l vp v0 v1 vt fi tn dd w.2.1 ow w.2.2.1 vk ((w.2.2.2 : Nat) : Int)), ii w.1]) := by
 cases fi with
 | true => exact z3L hO b l vp v0 v1 vt tn dd y r ow vk us ps hk hp h1 hy hr ho t h3 h6 w hw
 | false => exact z1I hO b l vp v0 v1 vt tn dd y r ow vk us ps hk hp h1 hy hr ho t h3 h6 w hw
theorem zhB (hO : DOR ∈ G) (b : LN) (l : Bool) (vp v0 v1 vt : Value) (fi : Bool) (tn : Int) (dd : Bool) (y : SY) (r : RS) (ow : NN) (vk : Value) (us : Nat) (ps : List (NN)) (hk : Shows G 32 vk ps.length (psC ps)) (hp : okP ps) (h1 : xl vp v0 v1 vt vk) (hy : okY y) (hr : okR r) (ho : B32 ow) (t : Nat) (h3 : 3 ≤ t) (h7 : t ≤ 7) (w : Nat × SS) (hw : xM fi ow ps t (y, r, us) = w) : Fp G 91 #[.agg (shC b l vp v0 v1 vt fi tn dd y ow r vk ((us : Nat) : Int)), ii t] (.tuple #[.agg (shC b l vp v0 v1 vt fi tn dd w.2.1 ow w.2.2.1 vk ((w.2.2.2 : Nat) : Int)), ii w.1]) := by
 refine Qf2 Tryz.func91 ?_
 refine (g4)<|(Qh 0) fun r1=>(QH 1) fun r2=>(g3)<|(ge)<|(Qc)<|Qn ?_
 refine zh rfl ?_ ?_
 ·intro hc0
  obtain rfl : t = 7 := by have := of_decide_eq_true hc0; omega
  refine (gc) ?_
  refine (Ca (zbT hO b l vp v0 v1 vt fi tn dd y r ow vk us ps hk hp h1 hy hr ho w hw))<|(ga) ?_
  refine z4 (i := 1) (Uz 37) rfl rfl (z3 _ _) (ze h1) rfl z7 (.inl rfl) ?_
  refine (gt) ?_
  exact ⟨_, _, rfl, yb 1, yt⟩
 ·intro hc0
  have h9 : ¬ t = 7 := by have := of_decide_eq_false hc0; omega
  refine Qk<|(gc)<|(Qm) ?_
  refine (Ca (z7P hO b l vp v0 v1 vt fi tn dd y r ow vk us ps hk hp h1 hy hr ho t h3 (by omega) w hw))<|(ga) ?_
  refine z4 (i := 1) (Uz 37) rfl rfl (z3 _ _) (ze h1) rfl z7 (.inl rfl) ?_
  refine (gt) ?_
  exact ⟨_, _, rfl, yb 1, yt⟩
theorem z4P (hO : DOR ∈ G) (b : LN) (l : Bool) (vp v0 v1 vt : Value) (fi : Bool) (tn : Int) (dd : Bool) (y : SY) (r : RS) (ow : NN) (vk : Value) (us : Nat) (h1 : xl vp v0 v1 vt vk) (hy : okY y) (vx : Value) (bs : LN) (hvx : Sh G vx bs) (hbb : By bs) (hbl : bs.length ≤ 100000) (kn : Nat) (hkn : kn = yV y) (hs : bs.length < kn) : Fp G 100 #[.agg (shC b l vp v0 v1 vt fi tn dd y ow r vk ((us : Nat) : Int)), vx] (.tuple #[.agg (shC b l vp v0 v1 vt fi tn dd y ow r vk ((us : Nat) : Int)), y4, ii 4]) := by
 have _u1 := hO
 have _u2 := hy
 have _u3 := hbb
 have _u4 := hbl
 refine Qf3 Tryz.func100 ?_
 refine (g4)<|(Qh 0) fun r1=>(QH 1) fun r2=>(g8)<|(gd)<|(gs)<|(Qf 9)<|(Qf 9)<|(Qf 9)<|(QV 9 0)<|Qn ?_
 refine Yw [(0, _), (1, _), (2, _), (4, _), (5, _), (6, _), (10, _), (11, _), (12, _), (13, _)] [(7, ii kn)] [(0, some _), (1, some _)] ⟨rfl, rfl, rfl, rfl, rfl, rfl, rfl, rfl, rfl, rfl, trivial⟩ ⟨rfl, rfl, trivial⟩ ?_ ?_
 ·skip
  refine zh rfl ?_ ?_
  ·intro hc0
   have hc9 := hc0
   refine Qp<|(g3) ?_
   exact ⟨⟨rfl, rfl, rfl, rfl, rfl, rfl, rfl, rfl, rfl, rfl, trivial⟩, ⟨(by first | (rw [Wy hkn hc9]; rfl) | (rw [WB hkn hc9]; rfl)), trivial⟩, ⟨rfl, rfl, trivial⟩⟩
  ·intro hc0
   have hc9 := hc0
   refine Qk ?_
   exact ⟨⟨rfl, rfl, rfl, rfl, rfl, rfl, rfl, rfl, rfl, rfl, trivial⟩, ⟨(by first | (rw [Wy hkn hc9]; rfl) | (rw [WB hkn hc9]; rfl)), trivial⟩, ⟨rfl, rfl, trivial⟩⟩
 ·simp only [zo]
  refine (ge)<|(QC hvx)<|(Qm)<|(Ql)<|Qn ?_
  refine zh rfl ?_ ?_
  ·intro hc1
   refine (gc) ?_
   refine z4 (i := 1) (Uz 37) rfl rfl (z3 _ _) (ze h1) rfl z7 (.inl rfl) ?_
   refine (gy) ?_
   exact ⟨_, _, _, rfl, yb 1, yt, yt⟩
  ·intro hc1
   have hc1 := of_decide_eq_false hc1
   exact absurd hs (by omega)
theorem zbn (hO : DOR ∈ G) (b : LN) (l : Bool) (vp v0 v1 vt : Value) (fi : Bool) (tn : Int) (dd : Bool) (y : SY) (r : RS) (ow : NN) (vk : Value) (us : Nat) (h1 : xl vp v0 v1 vt vk) (hy : okY y) (vx : Value) (bs : LN) (hvx : Sh G vx bs) (hbb : By bs) (hbl : bs.length ≤ 100000) (kn : Nat) (hkn : kn = yV y) (hs : ¬ bs.length < kn) (w : Nat × SY × LN) (hw : y8 y (bs.take kn) = w) (he : w.1 ≠ 0) : Fp G 100 #[.agg (shC b l vp v0 v1 vt fi tn dd y ow r vk ((us : Nat) : Int)), vx] (.tuple #[.agg (shC b l vp v0 v1 vt fi tn dd w.2.1 ow r vk ((us : Nat) : Int)), y4, ii w.1]) := by
 have _u1 := hbl
 refine Qf3 Tryz.func100 ?_
 refine (g4)<|(Qh 0) fun r1=>(QH 1) fun r2=>(g8)<|(gd)<|(gs)<|(Qf 9)<|(Qf 9)<|(Qf 9)<|(QV 9 0)<|Qn ?_
 refine Yw [(0, _), (1, _), (2, _), (4, _), (5, _), (6, _), (10, _), (11, _), (12, _), (13, _)] [(7, ii kn)] [(0, some _), (1, some _)] ⟨rfl, rfl, rfl, rfl, rfl, rfl, rfl, rfl, rfl, rfl, trivial⟩ ⟨rfl, rfl, trivial⟩ ?_ ?_
 ·skip
  refine zh rfl ?_ ?_
  ·intro hc0
   have hc9 := hc0
   refine Qp<|(g3) ?_
   exact ⟨⟨rfl, rfl, rfl, rfl, rfl, rfl, rfl, rfl, rfl, rfl, trivial⟩, ⟨(by first | (rw [Wy hkn hc9]; rfl) | (rw [WB hkn hc9]; rfl)), trivial⟩, ⟨rfl, rfl, trivial⟩⟩
  ·intro hc0
   have hc9 := hc0
   refine Qk ?_
   exact ⟨⟨rfl, rfl, rfl, rfl, rfl, rfl, rfl, rfl, rfl, rfl, trivial⟩, ⟨(by first | (rw [Wy hkn hc9]; rfl) | (rw [WB hkn hc9]; rfl)), trivial⟩, ⟨rfl, rfl, trivial⟩⟩
 ·simp only [zo]
  refine (ge)<|(QC hvx)<|(Qm)<|(Ql)<|Qn ?_
  refine zh rfl ?_ ?_
  ·intro hc1
   have hc1 := of_decide_eq_true hc1
   exact absurd hs (by omega)
  ·intro hc1
   refine Qk<|(gr)<|(QD 0)<|(gb) ?_
   refine yi 0 kn hvx (Uu 22) (Uz 5) rfl rfl rfl rfl ⟨_, rfl⟩ (by omega) (by omega) rfl ?_
   refine z9 rfl (Un 59) (Vl hO b l vp v0 v1 vt fi tn dd y r ow vk us h1 hy _ (bs.take kn) (ZX kn hvx (by omega)) (fun x hx => hbb x (List.mem_of_mem_take hx)) w hw he) rfl rfl ?_
   refine (jk) ?_
   refine z4 (i := 0) (Uz 37) rfl rfl (z3 _ _) (ze h1) rfl z7 (.inl rfl) ?_
   refine (j3)<|(QN)<|(Qat)<|(gu)<|(gc)<|(Qm) ?_
   refine z4 (i := 1) (Uz 37) rfl rfl (z3 _ _) (ze h1) rfl z7 (.inl rfl) ?_
   refine (gy) ?_
   exact ⟨_, _, _, rfl, yb 1, yt, yt⟩
theorem zf0 (hO : DOR ∈ G) (b : LN) (l : Bool) (vp v0 v1 vt : Value) (fi : Bool) (tn : Int) (dd : Bool) (y : SY) (r : RS) (ow : NN) (vk : Value) (us : Nat) (h1 : xl vp v0 v1 vt vk) (hy : okY y) (vx : Value) (bs : LN) (hvx : Sh G vx bs) (hbb : By bs) (hbl : bs.length ≤ 100000) (kn : Nat) (hkn : kn = yV y) (hs : ¬ bs.length < kn) (w : Nat × SY × LN) (hw : y8 y (bs.take kn) = w) (he : w.1 = 0) : Fp G 100 #[.agg (shC b l vp v0 v1 vt fi tn dd y ow r vk ((us : Nat) : Int)), vx] (.tuple #[.agg (shC b l vp v0 v1 vt fi tn dd w.2.1 ow (r.1, r.2.1, (fun j => w.2.2.getD j 0), true, r.2.2.2.2) vk ((us : Nat) : Int)), yr 1 vx kn bs.length, ii 0]) := by
 have hw32 : w.2.2.length = 32 := by rw [← hw, hkn]; exact Zn (by rw [← hkn]; omega) (by rw [← hkn, hw]; exact he)
 refine Qf3 Tryz.func100 ?_
 refine (g4)<|(Qh 0) fun r1=>(QH 1) fun r2=>(g8)<|(gd)<|(gs)<|(Qf 9)<|(Qf 9)<|(Qf 9)<|(QV 9 0)<|Qn ?_
 refine Yw [(0, _), (1, _), (2, _), (4, _), (5, _), (6, _), (10, _), (11, _), (12, _), (13, _)] [(7, ii kn)] [(0, some _), (1, some _)] ⟨rfl, rfl, rfl, rfl, rfl, rfl, rfl, rfl, rfl, rfl, trivial⟩ ⟨rfl, rfl, trivial⟩ ?_ ?_
 ·skip
  refine zh rfl ?_ ?_
  ·intro hc0
   have hc9 := hc0
   refine Qp<|(g3) ?_
   exact ⟨⟨rfl, rfl, rfl, rfl, rfl, rfl, rfl, rfl, rfl, rfl, trivial⟩, ⟨(by first | (rw [Wy hkn hc9]; rfl) | (rw [WB hkn hc9]; rfl)), trivial⟩, ⟨rfl, rfl, trivial⟩⟩
  ·intro hc0
   have hc9 := hc0
   refine Qk ?_
   exact ⟨⟨rfl, rfl, rfl, rfl, rfl, rfl, rfl, rfl, rfl, rfl, trivial⟩, ⟨(by first | (rw [Wy hkn hc9]; rfl) | (rw [WB hkn hc9]; rfl)), trivial⟩, ⟨rfl, rfl, trivial⟩⟩
 ·simp only [zo]
  refine (ge)<|(QC hvx)<|(Qm)<|(Ql)<|Qn ?_
  refine zh rfl ?_ ?_
  ·intro hc1
   have hc1 := of_decide_eq_true hc1
   exact absurd hs (by omega)
  ·intro hc1
   refine Qk<|Qs<|(Qq ⟨[], 4, [], none, none⟩)<|(QD 0)<|(gb) ?_
   refine yi 0 kn hvx (Uu 22) (Uz 5) rfl rfl rfl rfl ⟨_, rfl⟩ (by omega) (by omega) rfl ?_
   refine zI 2 (fun v => .tuple #[.agg (shC b l vp v0 v1 vt fi tn dd w.2.1 ow r vk ((us : Nat) : Int)), v, ii 0]) rfl rfl (Un 59) za (z1e hO b l vp v0 v1 vt fi tn dd y r ow vk us h1 hy _ (bs.take kn) (ZX kn hvx (by omega)) (fun x hx => hbb x (List.mem_of_mem_take hx)) w hw (by rw [List.length_take]; omega) he) (by simp only [maxLen]; omega) (by rw [List.length_map, Nat.mul_one]) rfl rfl fun v3_1 oz3_1 ho3_1 => ?_
   refine (jk) ?_
   refine z4 (i := 0) (Uz 37) rfl rfl (z3 _ _) (ze h1) rfl z7 (.inl rfl) ?_
   refine (j3)<|(QN) ?_
   refine (Ab (decide_eq_false (by decide)))<|(gn)<|(g6) ?_
   refine XL ho3_1.shows (Uu 30) rfl (by decide) (by omega) rfl ?_
   refine wz ho3_1.shows (zH 2 rfl ⟨[], trivial⟩) (Uu 30) rfl (Uz 30) rfl (by decide) (by rw [List.length_map]; omega) rfl rfl ?_
   refine z6 (congrArg Value.agg (z2g (by omega))) ?_
   refine (Qf 172)<|(QtC 0 17)<|(Qf 204)<|(QtV 0 18) ?_
   refine ye (c' := shC b l vp v0 v1 vt fi tn dd w.2.1 ow (r.1, r.2.1, (fun j => w.2.2.getD j 0), true, r.2.2.2.2) vk ((us : Nat) : Int)) rfl ?_
   refine Qn<|Qs<|(Qq ⟨[r2], 1, [], none, none⟩) ?_
   refine zV (i := 0) (Uu 37) rfl (Uz 37) rfl rfl (z3 _ _) rfl ⟨[1], rfl, rfl, trivial⟩ ?_
   refine (gb) ?_
   refine yi kn bs.length hvx (Uu 22) (Uz 5) rfl rfl rfl ⟨_, rfl⟩ rfl (by omega) (by omega) rfl ?_
   refine z4 (i := 1) (Uz 37) rfl rfl (z3 _ _) (ze h1) rfl z7 (.inr (by simp)) ?_
   refine (gy) ?_
   exact ⟨_, _, _, rfl, yb 1, yt, yt⟩
theorem zaC (hO : DOR ∈ G) (b : LN) (l : Bool) (vp v0 v1 vt : Value) (fi : Bool) (tn : Int) (dd : Bool) (y : SY) (r : RS) (ow : NN) (vk : Value) (us : Nat) (ps : List (NN)) (hk : Shows G 32 vk ps.length (psC ps)) (hp : okP ps) (h1 : xl vp v0 v1 vt vk) (hy : okY y) (hr : okR r) (ho : B32 ow) (vx : Value) (bs : LN) (hvx : Sh G vx bs) (hbb : By bs) (hbl : bs.length ≤ 100000) (hs : bs.length < 32) : Fp G 58 #[.agg (shC b l vp v0 v1 vt fi tn dd y ow r vk ((us : Nat) : Int)), ii 1, vx] (.tuple #[.agg (shC b l vp v0 v1 vt fi tn dd y ow r vk ((us : Nat) : Int)), y4, ii 4]) := by
 have _u1 := hp
 have _u2 := hr
 have _u3 := ho
 have _u4 := hk
 have _u5 := hy
 have _u6 := hbb
 have _u7 := hO
 have _u8 := hbl
 refine Qf3 Tryz.func58 ?_
 refine (g4)<|(Qh 0) fun r1=>(QH 1) fun r2=>(j3)<|Qn<|Qb<|(g4)<|(Qc)<|(g3)<|(Qct)<|(ge)<|(QC hvx)<|(Ql)<|Qn ?_
 refine zh rfl ?_ ?_
 ·intro hc1
  refine (gc) ?_
  refine z4 (i := 1) (Uz 37) rfl rfl (z3 _ _) (ze h1) rfl z7 (.inl rfl) ?_
  refine (gy) ?_
  exact ⟨_, _, _, rfl, yb 1, yt, yt⟩
 ·intro hc1
  have hc1 := of_decide_eq_false hc1
  exact absurd hs (by omega)
theorem zj5 (hO : DOR ∈ G) (b : LN) (l : Bool) (vp v0 v1 vt : Value) (fi : Bool) (tn : Int) (dd : Bool) (y : SY) (r : RS) (ow : NN) (vk : Value) (us : Nat) (ps : List (NN)) (hk : Shows G 32 vk ps.length (psC ps)) (hp : okP ps) (h1 : xl vp v0 v1 vt vk) (hy : okY y) (hr : okR r) (ho : B32 ow) (vx : Value) (bs : LN) (hvx : Sh G vx bs) (hbb : By bs) (hbl : bs.length ≤ 100000) (hs : ¬ bs.length < 32) : Fp G 58 #[.agg (shC b l vp v0 v1 vt fi tn dd y ow r vk ((us : Nat) : Int)), ii 1, vx] (.tuple #[.agg (shC b l vp v0 v1 vt fi tn dd (xr (npk ps) y (fun j => bs.getD j 0)) ow (r.1, r.2.1, r.2.2.1, r.2.2.2.1, (fun j => bs.getD j 0), true) vk ((us : Nat) : Int)), yr 1 vx 32 bs.length, ii 0]) := by
 have _u1 := hp
 have _u2 := hr
 have _u3 := ho
 have _u4 := hk
 have _u5 := hy
 have _u6 := hbb
 have _u7 := hO
 have _u8 := hbl
 obtain ⟨fb, hfb⟩ : ∃ z, z = (fun j => bs.getD j 0) := ⟨_, rfl⟩
 have hfl : B32 fb := by rw [hfb]; exact Ym hbb
 rw [← hfb]
 obtain ⟨z, hz⟩ : ∃ z, z = xr (npk ps) y fb := ⟨_, rfl⟩
 rw [← hz]
 refine Qf3 Tryz.func58 ?_
 refine (g4)<|(Qh 0) fun r1=>(QH 1) fun r2=>(j3)<|Qn<|Qb<|(g4)<|(Qc)<|(g3)<|(Qct)<|(ge)<|(QC hvx)<|(Ql)<|Qn ?_
 refine zh rfl ?_ ?_
 ·intro hc1
  have hc1 := of_decide_eq_true hc1
  exact absurd hs (by omega)
 ·intro hc1
  refine Qk<|Qs<|(Qq ⟨[r2], 1, [], none, none⟩) ?_
  refine zV (i := 0) (Uu 37) rfl (Uz 37) rfl rfl (z3 _ _) rfl ⟨[1], rfl, rfl, trivial⟩ ?_
  refine (Qm) ?_
  refine yi 0 32 hvx (Uu 22) (Uz 5) rfl rfl rfl rfl ⟨_, rfl⟩ (by omega) (by omega) rfl ?_
  refine XL (ZX 32 hvx (by omega)) (Uu 30) rfl (by decide) (by rw [List.length_take]; omega) rfl ?_
  refine wz (ZX 32 hvx (by omega)) za (Uu 30) rfl (Uz 30) rfl (by decide) (by simp; omega) rfl rfl ?_
  refine z6 (show _ = Value.agg (arr .u8 32 fb) by rw [hfb]; exact congrArg Value.agg (z6B (by omega))) ?_
  refine (Ca (z9Z hO b l vp v0 v1 vt fi tn dd y r ow vk us fb ps hk h1 hy hfl)) ?_
  refine z6 (show _ = Value.agg (shC b l vp v0 v1 vt fi tn dd z ow (r.1, r.2.1, r.2.2.1, r.2.2.2.1, fb, true) vk ((us : Nat) : Int)) by rw [hz]) ?_
  refine (Qm) ?_
  refine yi 32 bs.length hvx (Uu 22) (Uz 5) rfl rfl rfl ⟨_, rfl⟩ rfl (by omega) (by omega) rfl ?_
  refine z4 (i := 1) (Uz 37) rfl rfl (z3 _ _) (ze h1) rfl z7 (.inr (by simp)) ?_
  refine (gy) ?_
  exact ⟨_, _, _, rfl, yb 1, yt, yt⟩
theorem zbx (hO : DOR ∈ G) (b : LN) (l : Bool) (vp v0 v1 vt : Value) (fi : Bool) (tn : Int) (dd : Bool) (y : SY) (r : RS) (ow : NN) (vk : Value) (us : Nat) (ps : List (NN)) (hk : Shows G 32 vk ps.length (psC ps)) (hp : okP ps) (h1 : xl vp v0 v1 vt vk) (hy : okY y) (hr : okR r) (ho : B32 ow) (vx : Value) (bs : LN) (hvx : Sh G vx bs) (hbb : By bs) (hbl : bs.length ≤ 100000) (hs : bs.length < yV y) : Fp G 58 #[.agg (shC b l vp v0 v1 vt fi tn dd y ow r vk ((us : Nat) : Int)), ii 2, vx] (.tuple #[.agg (shC b l vp v0 v1 vt fi tn dd y ow r vk ((us : Nat) : Int)), y4, ii 4]) := by
 have _u1 := hp
 have _u2 := hr
 have _u3 := ho
 have _u4 := hk
 have _u5 := hy
 have _u6 := hbb
 have _u7 := hO
 have _u8 := hbl
 refine Qf3 Tryz.func58 ?_
 refine (g4)<|(Qh 0) fun r1=>(QH 1) fun r2=>(j3)<|Qn<|Qb<|(g4)<|(Qc)<|(g3)<|(Qcf)<|(g4)<|(Qc)<|(g3)<|(Qct)<|(gc)<|(Qm) ?_
 refine (Ca (z4P hO b l vp v0 v1 vt fi tn dd y r ow vk us h1 hy vx bs hvx hbb hbl (yV y) rfl hs))<|(ga)<|(Qx) ?_
 refine z4 (i := 1) (Uz 37) rfl rfl (z3 _ _) (ze h1) rfl z7 (.inl rfl) ?_
 refine (gy) ?_
 exact ⟨_, _, _, rfl, yb 1, yt, yt⟩
theorem z6q (hO : DOR ∈ G) (b : LN) (l : Bool) (vp v0 v1 vt : Value) (fi : Bool) (tn : Int) (dd : Bool) (y : SY) (r : RS) (ow : NN) (vk : Value) (us : Nat) (ps : List (NN)) (hk : Shows G 32 vk ps.length (psC ps)) (hp : okP ps) (h1 : xl vp v0 v1 vt vk) (hy : okY y) (hr : okR r) (ho : B32 ow) (vx : Value) (bs : LN) (hvx : Sh G vx bs) (hbb : By bs) (hbl : bs.length ≤ 100000) (hs : ¬ bs.length < yV y) (w : Nat × SY × LN) (hw : y8 y (bs.take (yV y)) = w) (he : w.1 ≠ 0) : Fp G 58 #[.agg (shC b l vp v0 v1 vt fi tn dd y ow r vk ((us : Nat) : Int)), ii 2, vx] (.tuple #[.agg (shC b l vp v0 v1 vt fi tn dd w.2.1 ow r vk ((us : Nat) : Int)), y4, ii w.1]) := by
 have _u1 := hp
 have _u2 := hr
 have _u3 := ho
 have _u4 := hk
 have _u5 := hy
 have _u6 := hbb
 have _u7 := hO
 have _u8 := hbl
 refine Qf3 Tryz.func58 ?_
 refine (g4)<|(Qh 0) fun r1=>(QH 1) fun r2=>(j3)<|Qn<|Qb<|(g4)<|(Qc)<|(g3)<|(Qcf)<|(g4)<|(Qc)<|(g3)<|(Qct)<|(gc)<|(Qm) ?_
 refine (Ca (zbn hO b l vp v0 v1 vt fi tn dd y r ow vk us h1 hy vx bs hvx hbb hbl (yV y) rfl hs w hw he))<|(ga)<|(Qx) ?_
 refine z4 (i := 1) (Uz 37) rfl rfl (z3 _ _) (ze h1) rfl z7 (.inl rfl) ?_
 refine (gy) ?_
 exact ⟨_, _, _, rfl, yb 1, yt, yt⟩
theorem ziN (hO : DOR ∈ G) (b : LN) (l : Bool) (vp v0 v1 vt : Value) (fi : Bool) (tn : Int) (dd : Bool) (y : SY) (r : RS) (ow : NN) (vk : Value) (us : Nat) (ps : List (NN)) (hk : Shows G 32 vk ps.length (psC ps)) (hp : okP ps) (h1 : xl vp v0 v1 vt vk) (hy : okY y) (hr : okR r) (ho : B32 ow) (vx : Value) (bs : LN) (hvx : Sh G vx bs) (hbb : By bs) (hbl : bs.length ≤ 100000) (hs : ¬ bs.length < yV y) (w : Nat × SY × LN) (hw : y8 y (bs.take (yV y)) = w) (he : w.1 = 0) : Fp G 58 #[.agg (shC b l vp v0 v1 vt fi tn dd y ow r vk ((us : Nat) : Int)), ii 2, vx] (.tuple #[.agg (shC b l vp v0 v1 vt fi tn dd w.2.1 ow (r.1, r.2.1, (fun j => w.2.2.getD j 0), true, r.2.2.2.2) vk ((us : Nat) : Int)), yr 1 vx (yV y) bs.length, ii 0]) := by
 have _u1 := hp
 have _u2 := hr
 have _u3 := ho
 have _u4 := hk
 have _u5 := hy
 have _u6 := hbb
 have _u7 := hO
 have _u8 := hbl
 refine Qf3 Tryz.func58 ?_
 refine (g4)<|(Qh 0) fun r1=>(QH 1) fun r2=>(j3)<|Qn<|Qb<|(g4)<|(Qc)<|(g3)<|(Qcf)<|(g4)<|(Qc)<|(g3)<|(Qct)<|(gc)<|(Qm) ?_
 refine (Ca (zf0 hO b l vp v0 v1 vt fi tn dd y r ow vk us h1 hy vx bs hvx hbb hbl (yV y) rfl hs w hw he))<|(ga)<|(Qx) ?_
 refine z4 (i := 1) (Uz 37) rfl rfl (z3 _ _) (ze h1) rfl z7 (.inl rfl) ?_
 refine (gy) ?_
 exact ⟨_, _, _, rfl, yb 1, yt, yt⟩
theorem zjB (hO : DOR ∈ G) (b : LN) (l : Bool) (vp v0 v1 vt : Value) (fi : Bool) (tn : Int) (dd : Bool) (y : SY) (r : RS) (ow : NN) (vk : Value) (us : Nat) (ps : List (NN)) (hk : Shows G 32 vk ps.length (psC ps)) (hp : okP ps) (h1 : xl vp v0 v1 vt vk) (hy : okY y) (hr : okR r) (ho : B32 ow) (vx : Value) (bs : LN) (hvx : Sh G vx bs) (hbb : By bs) (hbl : bs.length ≤ 100000) (t : Nat) (h3 : 3 ≤ t) (h7 : t ≤ 7) (w : Nat × SS) (hw : xM fi ow ps t (y, r, us) = w) : Fp G 58 #[.agg (shC b l vp v0 v1 vt fi tn dd y ow r vk ((us : Nat) : Int)), ii t, vx] (.tuple #[.agg (shC b l vp v0 v1 vt fi tn dd w.2.1 ow w.2.2.1 vk ((w.2.2.2 : Nat) : Int)), vx, ii w.1]) := by
 have _u1 := hbb
 have _u2 := hvx
 have _u3 := hbl
 refine Qf3 Tryz.func58 ?_
 refine (g4)<|(Qh 0) fun r1=>(QH 1) fun r2=>(j3)<|Qn<|Qb<|(g4)<|(Qc)<|(g3) ?_
 refine zh rfl ?_ ?_
 ·intro hc0
  exact absurd (of_decide_eq_true hc0) (by omega)
 ·intro hc0
  refine (g4)<|(Qc)<|(g3) ?_
  refine zh rfl ?_ ?_
  ·intro hc1
   exact absurd (of_decide_eq_true hc1) (by omega)
  ·intro hc1
   refine Qk<|(gc)<|(Qm) ?_
   refine (Ca (zhB hO b l vp v0 v1 vt fi tn dd y r ow vk us ps hk hp h1 hy hr ho t h3 h7 w hw))<|(gi)<|(QH 2) fun r3=>?_
   refine z4 (i := 2) (Uz 37) rfl rfl (z3 _ _) (ze h1) rfl z7 (.inl rfl) ?_
   refine (j9)<|(QD 2)<|(gb) ?_
   refine z4 (i := 1) (Uz 37) rfl rfl (z3 _ _) (ze h1) rfl z7 (.inl rfl) ?_
   refine (gy) ?_
   exact ⟨_, _, _, rfl, yb 1, yt, yt⟩
theorem zl9 {G : Mem} (hO : DOR ∈ G) (b : LN) (l : Bool) (vp v0 v1 vt : Value) (fi : Bool) (tn : Int) (dd : Bool) (y : SY) (r : RS) (ow : NN) (vk : Value) (us : Nat) (ps : List (NN)) (hk : Shows G 32 vk ps.length (psC ps)) (hp : okP ps) (h1 : xl vp v0 v1 vt vk) (hy : okY y) (hr : okR r) (ho : B32 ow) (vx : Value) (bs : LN) (hvx : Sh G vx bs) (hbb : By bs) (hbl : bs.length ≤ 100000) (t : Nat) (h1t : 1 ≤ t) (h7 : t ≤ 7) (w : Nat × SS × LN) (hw : vV fi ow ps t (y, r, us) bs = w) :
  ∃ v', (w.1 = 0 → Shows G 1 v' w.2.2.length (w.2.2.map by8)) ∧ Fn Tryz.prog G 58 #[.agg (shC b l vp v0 v1 vt fi tn dd y ow r vk ((us : Nat) : Int)), ii t, vx] (.tuple #[.agg (shC b l vp v0 v1 vt fi tn dd w.2.1.1 ow w.2.1.2.1 vk ((w.2.1.2.2 : Nat) : Int)), v', ii w.1]) := by
 by_cases t1 : t = 1
 ·subst t1
  by_cases hs : bs.length < 32
  ·obtain rfl : w = (4, (y, r, us), []) := by rw [← hw]; exact Wn hs
   exact ⟨y4, fun h => absurd h wn, zaC hO b l vp v0 v1 vt fi tn dd y r ow vk us ps hk hp h1 hy hr ho vx bs hvx hbb hbl hs⟩
  ·obtain rfl : w = _ := hw.symm.trans (z7l hs)
   exact ⟨yr 1 vx 32 bs.length, fun _ => z0y 32 hvx (by omega), zj5 hO b l vp v0 v1 vt fi tn dd y r ow vk us ps hk hp h1 hy hr ho vx bs hvx hbb hbl hs⟩
 by_cases t2 : t = 2
 ·subst t2
  by_cases hs : bs.length < yV y
  ·obtain rfl : w = (4, (y, r, us), []) := by rw [← hw]; exact Zr hs
   exact ⟨y4, fun h => absurd h wn, zbx hO b l vp v0 v1 vt fi tn dd y r ow vk us ps hk hp h1 hy hr ho vx bs hvx hbb hbl hs⟩
  obtain ⟨z, hz⟩ : ∃ z, y8 y (bs.take (yV y)) = z := ⟨_, rfl⟩
  by_cases h0 : z.1 = 0
  ·obtain rfl : w = _ := hw.symm.trans (z0C hs hz h0)
   exact ⟨yr 1 vx (yV y) bs.length, fun _ => z0y _ hvx (by omega), ziN hO b l vp v0 v1 vt fi tn dd y r ow vk us ps hk hp h1 hy hr ho vx bs hvx hbb hbl hs z hz h0⟩
  ·obtain rfl : w = _ := hw.symm.trans (vS hs hz h0)
   exact ⟨y4, fun h => absurd h h0, z6q hO b l vp v0 v1 vt fi tn dd y r ow vk us ps hk hp h1 hy hr ho vx bs hvx hbb hbl hs z hz h0⟩
 obtain ⟨z, hz⟩ : ∃ z, xM fi ow ps t (y, r, us) = z := ⟨_, rfl⟩
 obtain rfl : w = _ := hw.symm.trans (z7k (by omega) hz)
 exact ⟨vx, fun _ => hvx, zjB hO b l vp v0 v1 vt fi tn dd y r ow vk us ps hk hp h1 hy hr ho vx bs hvx hbb hbl t (by omega) h7 z hz⟩
theorem z4x (hO : DOR ∈ G) (b : LN) (l : Bool) (vp v0 v1 vt : Value) (fi : Bool) (tq : Nat) (dd : Bool) (y : SY) (r : RS) (ow : NN) (vk : Value) (us : Nat) (ps : List (NN)) (hk : Shows G 32 vk ps.length (psC ps)) (hp : okP ps) (h1 : xl vp v0 v1 vt vk) (hy : okY y) (hr : okR r) (ho : B32 ow) (q : LN) (tvs : List Value) (hvt : Shows G 1 vt tvs.length tvs) (htl : tq < tvs.length) (hq : Shows G 1 (tvs.getD tq undef) q.length ((ci q).map iv)) (hq7 : ∀ x ∈ q, 1 ≤ x ∧ x ≤ 7) (hq6 : q.length ≤ 6) (vx : Value) (bx : LN) (hvx : Sh G vx bx) (hbx : By bx) (hbl : bx.length ≤ 100000) (w : Nat × SS × LN) (hw : vj fi ow ps q (y, r, us) bx = w) : Fq G [] 36 #[.agg (shC b l vp v0 v1 vt fi ((tq : Nat) : Int) dd y ow r vk ((us : Nat) : Int)), vx] (fun v l1 nw => l1 = [] ∧ ∃ v', v = .tuple #[.agg (shC b l vp v0 v1 vt fi ((tq : Nat) : Int) dd w.2.1.1 ow w.2.1.2.1 vk ((w.2.1.2.2 : Nat) : Int)), v', ii w.1] ∧ OwnS 5 1 v' w.2.2.length (w.2.2.map by8) nw) := by
 refine QfO Tryz.func36 ?_
 refine (g4)<|(Qh 0) fun r1=>(QH 1) fun r2=>(g8)<|(gs)<|(Qf 0)<|(jd)<|(Qf 7)<|(QV 7 0) ?_
 refine yf hvt (Uu 27) (Uz 25) rfl rfl (by omega) rfl ?_
 refine (QS) ?_
 refine zR hvt za (Uu 25) rfl rfl (xA (by omega)) rfl ?_
 refine (QC hq)<|(Qm)<|Qn<|Qb ?_
 refine QzK [(2, _), (4, _), (16, _), (17, _)] [(1, _)] (fun kk E m => ∃ (i : Nat) (y1 : SY) (r1v : RS) (u1 : Nat) (bq : List Nat) (wv : Value), kk = q.length - i ∧ E = [(1, wv), (18, ii i)] ∧ m = [(0, (some ⟨r1, shC b l vp v0 v1 vt fi ((tq : Nat) : Int) dd y1 ow r1v vk ((u1 : Nat) : Int), 37⟩))] ∧ (i ≤ q.length) ∧ (Shows G 1 wv bq.length (bq.map by8)) ∧ (okS (y1, r1v, u1)) ∧ (wj fi ow ps q (y, r, us) bx = wj fi ow ps (q.drop i) (y1, r1v, u1) bq) ∧ (∀ x ∈ bq, x < 256) ∧ (bq.length ≤ 100000)) ⟨0, y, r, us, bx, vx, rfl, rfl, rfl, by omega, hvx, ⟨hy, hr⟩, rfl, hbx, hbl⟩ ⟨rfl, rfl, rfl, rfl, rfl, rfl, trivial⟩ ⟨rfl, rfl, trivial⟩ ?_
 rintro kk E m ⟨i, y1, r1v, u1, bq, wv, rfl, rfl, rfl, hf0_0, hf0_1, hf0_2, hf0_3, hf0_4, hf0_5⟩
 simp only [zo, zu]
 refine (gq) ?_
 refine (Qcd) (fun hc0=>?_) fun hc0=>?_
 ·have hc0 : i < q.length := by omega
  refine Qk<|Qs<|Qb<|(g4) ?_
  refine yf hq (Uu 25) (Uz 3) rfl rfl (by omega) rfl ?_
  refine (QS) ?_
  refine zR hq za (Uu 3) rfl rfl (z02 (by omega)) rfl ?_
  refine (g3) ?_
  have hx9 := z6J hq7 (show i < q.length by omega)
  obtain ⟨z, hz⟩ : ∃ z, vV fi ow ps (q.getD i 0) (y1, r1v, u1) bq = z := ⟨_, rfl⟩
  have hst : z.1 ≠ 0 → w = (z.1, z.2.1, []) := fun he => by rw [← hw]; exact X3 (hf0_3.trans (V2 (by omega) hz he)) he
  obtain ⟨v9, hs9, hc9⟩ := zl9 hO b l vp v0 v1 vt fi ((tq : Nat) : Int) dd y1 r1v ow vk u1 ps hk hp h1 hf0_2.1 hf0_2.2 ho wv bq hf0_1 hf0_4 hf0_5 (q.getD i 0) hx9.1 hx9.2 z hz
  refine (gd)<|Qs ?_
  by_cases he : z.1 = 0
  ·skip
   refine Qp<|(QD 0)<|(gb) ?_
   refine (Ca hc9)<|(jk) ?_
   refine z4 (i := 0) (Uz 37) rfl rfl (z3 _ _) (ze h1) rfl z7 (.inl rfl) ?_
   refine (g8)<|(g6)<|(QN)<|(gw)<|(gk) ?_
   refine QzL ⟨i + 1, _, _, _, z.2.2, v9, rfl, rfl, rfl, by omega, (hs9 he), (by rw [← hz]; exact xD hf0_2 hf0_4), (hf0_3.trans (xG (by omega) (hz.trans (show z = (0, z.2.1, z.2.2) from Prod.ext he rfl)))), (by rw [← hz]; exact wN hf0_4), (by have := XT (fi := fi) (ow := ow) (ps := ps) (t := q.getD i 0) (s := (y1, r1v, u1)) (b := bq); rw [hz] at this; omega)⟩ ⟨rfl, rfl, rfl, rfl, rfl, rfl, trivial⟩ ⟨rfl, rfl, trivial⟩ ?_
   omega
  ·skip
   refine Qp<|(QD 0)<|(gb) ?_
   refine (Ca hc9)<|(jk) ?_
   refine z4 (i := 0) (Uz 37) rfl rfl (z3 _ _) (ze h1) rfl z7 (.inl rfl) ?_
   refine (g8)<|(g6)<|(QN)<|(Qat)<|(gu) ?_
   obtain rfl := hst he
   refine (gc)<|(Qm) ?_
   refine z4 (i := 1) (Uz 37) rfl rfl (z3 _ _) (ze h1) rfl z7 (.inl rfl) ?_
   refine (gy) ?_
   exact ⟨_, _, _, _, _, 99, rfl, yb 1, yt, yt, (zw (wT _ _) (by first | rfl | (rw [hen h0]; rfl)) (by first | rfl | (rw [hen h0]; rfl))), rfl⟩
 ·have hz0 : i = q.length := by omega
  have hrun := hf0_3.trans (z0D hz0)
  obtain ⟨e2, he2⟩ : ∃ e, y8 y1 bq = e := ⟨_, rfl⟩
  have hfin : w = (e2.1, (e2.2.1, r1v, u1), e2.2.2) := by rw [← hw]; exact Wl hrun he2
  have hel : e2.2.2.length ≤ bq.length := by rw [← he2]; exact Zp y1 bq
  have hen : e2.1 ≠ 0 → e2.2.2 = [] := fun h => by rw [← he2] at h ⊢; exact zbD h
  subst hfin
  refine Qe<|Qs ?_
  by_cases h0 : e2.1 = 0
  ·skip
   refine QR ⟨[], 4, [], none, none⟩<|(QD 0)<|(Qm) ?_
   refine zI 2 (fun v => .tuple #[.agg (shC b l vp v0 v1 vt fi ((tq : Nat) : Int) dd e2.2.1 ow r1v vk ((u1 : Nat) : Int)), v, ii 0]) rfl rfl (Un 59) za (z1e hO b l vp v0 v1 vt fi ((tq : Nat) : Int) dd y1 r1v ow vk ((u1 : Nat) : Int) h1 hf0_2.1 wv bq hf0_1 hf0_4 e2 he2 hf0_5 h0) (by simp only [maxLen]; omega) (by rw [List.length_map, Nat.mul_one]) rfl rfl fun v3_1 oz3_1 ho3_1 => ?_
   refine (ga)<|(Qx) ?_
   refine z4 (i := 1) (Uz 37) rfl rfl (z3 _ _) (ze h1) rfl z7 (.inl rfl) ?_
   refine (Qa)<|(Qa) ?_
   refine z6 (show _ = ii e2.1 by rw [h0]; rfl) ?_
   refine Qn<|Qr ?_
   exact ⟨_, _, _, _, _, 2, rfl, yb 1, yt, yt, (zw ho3_1 (by first | rfl | (rw [hen h0]; rfl)) (by first | rfl | (rw [hen h0]; rfl))), rfl⟩
  ·skip
   refine Qp<|(QD 0)<|(Qm) ?_
   refine (Ca (Vl hO b l vp v0 v1 vt fi ((tq : Nat) : Int) dd y1 r1v ow vk ((u1 : Nat) : Int) h1 hf0_2.1 wv bq hf0_1 hf0_4 e2 he2 h0))<|(ga)<|(Qx) ?_
   refine z4 (i := 1) (Uz 37) rfl rfl (z3 _ _) (ze h1) rfl z7 (.inl rfl) ?_
   refine (gy) ?_
   exact ⟨_, _, _, _, _, 99, rfl, yb 1, yt, yt, (zw (wT _ _) (by first | rfl | (rw [hen h0]; rfl)) (by first | rfl | (rw [hen h0]; rfl))), rfl⟩
theorem zaL (v : Value) (n : Nat) (xs : List Value) (hv : Shows G 32 v n xs) (h1 : ∀ u ∈ xs, u.oneCell' = true) (hm : n * 32 ≤ 140737488355328) : Fq G [] 15 #[v] (fun u l1 nw => l1 = [] ∧ ∃ v', u = v' ∧ OwnS 30 32 v' n xs nw) := by
 refine QfN Tryz.func15 ?_
 refine (gd)<|(ge) ?_
 refine z39 hv (Uu 24) rfl rfl rfl fun bq1_1 hbq1_1 => ?_
 refine Qn ?_
 refine zh rfl ?_ ?_
 ·intro hc0
  obtain rfl : n = 0 := hbq1_1 hc0
  obtain rfl : xs = [] := List.length_eq_zero_iff.1 (by have := hv.len; simpa using this)
  refine (j4) ?_
  exact ⟨_, _, _, 99, rfl, yt, (zw (wT _ _) (by simp) (by simp)), rfl⟩
 ·intro hc0
  refine Qk<|(g4) ?_
  refine vJ 0 (Uu 24 rfl) (Uz 30 rfl) rfl fun r1 => ?_
  refine (Qm) ?_
  refine yQ 0 Yo hv rfl za (Uu 24) (Uz 30) (Uy 30) (Ub 30) (by rfl) rfl rfl h1 (by simp only [maxLen]; omega) (by omega) rfl fun v2_2 oz2_2 ho2_2 => ?_
  refine (gt) ?_
  exact ⟨_, _, _, 0, rfl, yt, (zw ho2_2 (by simp) (by simp)), rfl⟩
theorem YU (v : Value) (n : Nat) (xs : List Value) (hv : Shows G 1 v n xs) (h1 : ∀ u ∈ xs, u.oneCell' = true) (hm : n * 8 ≤ 140737488355328) : Fq G [] 49 #[v] (fun u l1 nw => l1 = [] ∧ ∃ v', u = v' ∧ OwnS 3 1 v' n xs nw) := by
 refine QfN Tryz.func49 ?_
 refine (gd)<|(ge) ?_
 refine z39 hv (Uu 25) rfl rfl rfl fun bq1_1 hbq1_1 => ?_
 refine Qn ?_
 refine zh rfl ?_ ?_
 ·intro hc0
  obtain rfl : n = 0 := hbq1_1 hc0
  obtain rfl : xs = [] := List.length_eq_zero_iff.1 (by have := hv.len; simpa using this)
  refine (j4) ?_
  exact ⟨_, _, _, 99, rfl, yt, (zw (wT _ _) (by simp) (by simp)), rfl⟩
 ·intro hc0
  refine Qk<|(g4) ?_
  refine vJ 0 (Uu 25 rfl) (Uz 3 rfl) rfl fun r1 => ?_
  refine (Qm) ?_
  refine yQ 0 Yo hv rfl za (Uu 25) (Uz 3) (Uy 3) (Ub 3) (by rfl) rfl rfl h1 (by simp only [maxLen]; omega) (by omega) rfl fun v2_2 oz2_2 ho2_2 => ?_
  refine (gt) ?_
  exact ⟨_, _, _, 0, rfl, yt, (zw ho2_2 (by simp) (by simp)), rfl⟩
theorem z7Y (v : Value) (n : Nat) (xs : List Value) (hv : Shows G 1 v n xs) (h1 : ∀ u ∈ xs, u.oneCell' = true) (hm : n * 24 ≤ 140737488355328) : Fq G [] 50 #[v] (fun u l1 nw => l1 = [] ∧ ∃ v', u = v' ∧ OwnS 25 1 v' n xs nw) := by
 refine QfN Tryz.func50 ?_
 refine (gd)<|(ge) ?_
 refine z39 hv (Uu 27) rfl rfl rfl fun bq1_1 hbq1_1 => ?_
 refine Qn ?_
 refine zh rfl ?_ ?_
 ·intro hc0
  obtain rfl : n = 0 := hbq1_1 hc0
  obtain rfl : xs = [] := List.length_eq_zero_iff.1 (by have := hv.len; simpa using this)
  refine (j4) ?_
  exact ⟨_, _, _, 99, rfl, yt, (zw (wT _ _) (by simp) (by simp)), rfl⟩
 ·intro hc0
  refine Qk<|(g4) ?_
  refine vJ 0 (Uu 27 rfl) (Uz 25 rfl) rfl fun r1 => ?_
  refine (Qm) ?_
  refine yQ 0 Yo hv rfl za (Uu 27) (Uz 25) (Uy 25) (Ub 25) (by rfl) rfl rfl h1 (by simp only [maxLen]; omega) (by omega) rfl fun v2_2 oz2_2 ho2_2 => ?_
  refine (gt) ?_
  exact ⟨_, _, _, 0, rfl, yt, (zw ho2_2 (by simp) (by simp)), rfl⟩
set_option maxRecDepth 20000 in
theorem YH (b : LN) (l : Bool) (vp v0 v1 vt : Value) (fi : Bool) (tn : Int) (dd : Bool) (y : SY) (r : RS) (ow : NN) (vk : Value) (us : Int) (ps : List (NN)) (qs p0 p1 : List Int) (tvs : List Value) (ts : List (List Int)) (hk : Shows G 32 vk ps.length (psC ps)) (hvp : Shows G 1 vp qs.length (qs.map iv)) (hvt : Shows G 1 vt tvs.length tvs) (hLI : zm G (v0 :: v1 :: tvs) (p0 :: p1 :: ts)) (zk : ps.length * 32 ≤ 140737488355328) (zp : qs.length * 8 ≤ 140737488355328) (zt : tvs.length * 24 ≤ 140737488355328) (zl : ∀ q ∈ p0 :: p1 :: ts, q.length * 8 ≤ 140737488355328) : Fq G [] 27 #[.agg (shC b l vp v0 v1 vt fi tn dd y ow r vk us)] (fun v l1 nw => l1 = [] ∧ z0Z b l qs p0 p1 ts ps fi tn dd y ow r us v nw) := by
 have hT := zr (zr hLI)
 have htl : tvs.length = ts.length := hT.1
 have hA0 : Shows G 1 v0 p0.length (p0.map iv) := hLI.2 0 (by simp)
 have hA1 : Shows G 1 v1 p1.length (p1.map iv) := hLI.2 1 (by simp)
 have z0 := zl p0 (by simp)
 have z1 := zl p1 (by simp)
 refine fxD (n := 55) Tryz.func27 rfl rfl (by simp) (wr [.agg (shC b l vp v0 v1 vt fi tn dd y ow r vk us)] 0) (yS _) ?_
 refine (g4)<|(Qh 0) fun r1=>(QH 1) fun r2=>Qn<|Qs<|QR ⟨[], 4, [], none, none⟩<|(Qf 238)<|(QV 21 0) ?_
 refine xu [(0, _), (1, _)] (by repeat (first | exact zB | exact zA _ | apply zq rfl)) ⟨rfl, rfl, trivial⟩ rfl rfl rfl (Un 15) za ((zaL vk ps.length (psC ps) hk (zdD ps) zk).imp fun u l1 nw ⟨h1, v9, h2, h3⟩ => ⟨h1, h2 ▸ h3.shows⟩) (xj 32 (psC ps) ps.length (xc vI ps)) rfl rfl fun v1_1 nw1_1 hD1_1 => ?_
 simp only [zu]
 revert v1_1
 intro uK sK
 refine (Qf 238) ?_
 refine z2K (i := 0) 21 (Uz 24) rfl rfl (zD sK) rfl rfl (by decide) (.inl rfl) ?_
 refine Qn<|Qs<|QR ⟨[], 4, [], none, none⟩<|(Qf 0)<|(Qf 2)<|(QV 2 0) ?_
 refine xu [(0, _), (1, _)] (by repeat (first | exact zB | exact zA _ | apply zq rfl)) ⟨rfl, rfl, trivial⟩ rfl rfl rfl (Un 49) za ((YU vp qs.length (qs.map iv) hvp z0j zp).imp fun u l1 nw ⟨h1, v9, h2, h3⟩ => ⟨h1, h2 ▸ h3.shows⟩) (xj 1 (qs.map iv) qs.length (by simp)) rfl rfl fun v1_2 nw1_2 hD1_2 => ?_
 simp only [zu]
 revert v1_2
 intro uP sP
 refine (Qf 0)<|(Qf 2) ?_
 refine z2K (i := 0) 2 (Uz 25) rfl rfl (zD sP) rfl rfl (by decide) (.inl rfl) ?_
 refine ye (c' := shC b l uP v0 v1 vt fi tn dd y ow r uK us) rfl ?_
 refine Qn<|(gs)<|(Qf 0)<|(Qf 3) ?_
 refine z8N (i := 0) (Uu 26) rfl (Uz 26) rfl rfl (by decide) rfl ⟨[], trivial⟩ ?_
 refine z6 (show _ = Value.agg (zM 2 (fun j => vq v0 v1 j)) from congrArg Value.agg (yB fun j hj => by have h9 : j = 0 ∨ j = 1 := (by omega); rcases h9 with rfl | rfl <;> rfl)) ?_
 refine (Qm)<|Qn<|Qb ?_
 refine z8m [(1, _), (2, _), (19, _)] [(1, _)] (fun kk E m fz => ∃ (a : Nat) (a0 : Value) (a1 : Value), kk = 2 - a ∧ E = [(20, ii a)] ∧ m = [(0, some ⟨r1, shC b l uP a0 a1 vt fi tn dd y ow r uK us, 37⟩)] ∧ (a ≤ 2) ∧ (1 ≤ a → Shows fz 1 a0 p0.length (p0.map iv)) ∧ (2 ≤ a → Shows fz 1 a1 p1.length (p1.map iv)) ∧ (Shows fz 32 uK ps.length (psC ps)) ∧ (Shows fz 1 uP qs.length (qs.map iv))) (k := 2 - 0) (E0 := [(20, ii 0)]) (M0 := [(0, some ⟨r1, shC b l uP v0 v1 vt fi tn dd y ow r uK us, 37⟩)]) (fz := (([] ++ nw1_1) ++ nw1_2)) ⟨0, v0, v1, rfl, rfl, rfl, by omega, (fun h => absurd h (by omega)), (fun h => absurd h (by omega)), (sK.mono (fun x hx => List.mem_append_left _ (List.mem_append_right _ hx))), (sP.mono (fun x hx => List.mem_append_right _ hx))⟩ ⟨rfl, rfl, rfl, rfl, trivial⟩ ⟨rfl, rfl, trivial⟩ (by repeat (first | exact zB | exact zA _ | apply zq rfl)) ?_
 rintro kk E m fz ⟨a, a0, a1, rfl, rfl, rfl, hf0_0, hf0_1, hf0_2, hf0_3, hf0_4⟩
 simp only [zo, zu]
 refine (gq) ?_
 refine (Qcd) (fun hc0=>?_) fun hc0=>?_
 ·have hc0 : a < 2 := by omega
  refine Qk<|Qs<|Qb<|Qs ?_
  rcases (by omega : a = 0 ∨ a = 1) with ha | ha
  ·skip
   refine (j0) ?_
   refine z6s (Uu 26) (Uu 25) rfl (Uz 25) rfl rfl (by omega) rfl ?_
   refine z6 (show vq v0 v1 a = v0 by rw [ha]; rfl) ?_
   refine (g8)<|QR ⟨[], 4, [], none, none⟩<|(gb) ?_
   refine xu [(0, _), (1, _)] (by repeat (first | exact zB | exact zA _ | apply zq rfl)) ⟨rfl, rfl, trivial⟩ rfl rfl rfl (Un 49) za ((YU v0 p0.length (p0.map iv) hA0 z0j z0).imp fun u l1 nw ⟨h1, v9, h2, h3⟩ => ⟨h1, h2 ▸ h3.shows⟩) (xj 1 (p0.map iv) p0.length (by simp)) rfl rfl fun v3_3 nw3_3 hD3_3 => ?_
   simp only [zu]
   revert v3_3
   intro uA sA
   refine (Qf 0)<|(Qf 3)<|(QB 3) ?_
   refine z2K (i := 0) 3 (Uz 25) rfl rfl (zD sA) rfl rfl (by decide) (.inl rfl) ?_
   refine ye (c' := shC b l uP uA a1 vt fi tn dd y ow r uK us) rfl ?_
   refine (jc) ?_
   refine z31 (E'' := [(20, ii (a + 1))]) (M'' := [(0, some ⟨r1, shC b l uP _ _ vt fi tn dd y ow r uK us, 37⟩)]) (fz' := (fz ++ nw3_3)) ⟨a + 1, _, _, rfl, rfl, rfl, by omega, (fun _ => Shows.mono sA (fun x hx => List.mem_append_right _ hx)), (fun h => absurd h (by omega)), (Shows.mono hf0_3 (fun x hx => List.mem_append_left _ hx)), (Shows.mono hf0_4 (fun x hx => List.mem_append_left _ hx))⟩ ⟨rfl, rfl, rfl, rfl, trivial⟩ ⟨rfl, rfl, trivial⟩ (by repeat (first | exact zB | exact zA _ | apply zq rfl)) (by omega)
  ·skip
   refine (j0) ?_
   refine z6s (Uu 26) (Uu 25) rfl (Uz 25) rfl rfl (by omega) rfl ?_
   refine z6 (show vq v0 v1 a = v1 by rw [ha]; rfl) ?_
   refine (g8)<|QR ⟨[], 4, [], none, none⟩<|(gb) ?_
   refine xu [(0, _), (1, _)] (by repeat (first | exact zB | exact zA _ | apply zq rfl)) ⟨rfl, rfl, trivial⟩ rfl rfl rfl (Un 49) za ((YU v1 p1.length (p1.map iv) hA1 z0j z1).imp fun u l1 nw ⟨h1, v9, h2, h3⟩ => ⟨h1, h2 ▸ h3.shows⟩) (xj 1 (p1.map iv) p1.length (by simp)) rfl rfl fun v3_3 nw3_3 hD3_3 => ?_
   simp only [zu]
   revert v3_3
   intro uA sA
   refine (Qf 0)<|(Qf 3)<|(QB 4) ?_
   refine z2K (i := 0) 4 (Uz 25) rfl rfl (zD sA) rfl rfl (by decide) (.inl rfl) ?_
   refine ye (c' := shC b l uP a0 uA vt fi tn dd y ow r uK us) rfl ?_
   refine (jc) ?_
   refine z31 (E'' := [(20, ii (a + 1))]) (M'' := [(0, some ⟨r1, shC b l uP _ _ vt fi tn dd y ow r uK us, 37⟩)]) (fz' := (fz ++ nw3_3)) ⟨a + 1, _, _, rfl, rfl, rfl, by omega, (fun _ => Shows.mono (hf0_1 (by omega)) (fun x hx => List.mem_append_left _ hx)), (fun _ => Shows.mono sA (fun x hx => List.mem_append_right _ hx)), (Shows.mono hf0_3 (fun x hx => List.mem_append_left _ hx)), (Shows.mono hf0_4 (fun x hx => List.mem_append_left _ hx))⟩ ⟨rfl, rfl, rfl, rfl, trivial⟩ ⟨rfl, rfl, trivial⟩ (by repeat (first | exact zB | exact zA _ | apply zq rfl)) (by omega)
 ·have hz0 : a = 2 := by omega
  refine Qe<|Qs<|QR ⟨[], 4, [], none, none⟩<|(Qf 0)<|(jd) ?_
  refine zI 2 (fun v => v) rfl rfl (Un 50) za (z7Y vt tvs.length tvs hvt (z04 hT) zt) (by simp only [maxLen]; omega) (by rw [Nat.mul_one]) rfl rfl fun v2_3 oz2_3 ho2_3 => ?_
  refine (Qf 0)<|(Qf 5) ?_
  refine z2K (i := 0) 5 (Uz 27) rfl rfl (zD ho2_3.shows) rfl rfl (by decide) (.inl rfl) ?_
  refine Qn<|(gs)<|(Qf 0)<|(jd)<|(QC ho2_3.shows)<|(Qm)<|Qn<|Qb ?_
  refine z8m [(1, _), (2, _), (19, _), (20, _), (39, _), (40, _)] [(0, _), (1, _)] (fun kk E m fy => ∃ (i : Nat) (xs : List Value) (oz : Option Blk), kk = tvs.length - i ∧ E = [(41, ii i)] ∧ m = [(2, oz)] ∧ (i ≤ tvs.length) ∧ (OwnS 25 1 v2_3 tvs.length xs (Option.toList oz)) ∧ (xs.length = tvs.length) ∧ (∀ j, j < i → Shows fy 1 (xs.getD j undef) (ts.getD j []).length ((ts.getD j []).map iv)) ∧ (∀ j, i ≤ j → xs.getD j undef = tvs.getD j undef) ∧ (∀ x ∈ fz, x ∈ fy)) (k := tvs.length - 0) (E0 := [(41, ii 0)]) (M0 := [(2, oz2_3)]) (fz := fz) ⟨0, tvs, oz2_3, rfl, rfl, rfl, by omega, ho2_3, rfl, (fun j hj => absurd hj (Nat.not_lt_zero j)), (fun _ _ => rfl), (fun _ h => h)⟩ ⟨rfl, rfl, rfl, rfl, rfl, rfl, rfl, trivial⟩ ⟨rfl, rfl, rfl, trivial⟩ (by repeat (first | exact zB | exact zA _ | apply zq rfl)) ?_
  rintro kk E m fy ⟨i, xs, oz, rfl, rfl, rfl, hf1_0, hf1_1, hf1_2, hf1_3, hf1_4, hf1_5⟩
  simp only [zo, zu]
  refine (gq) ?_
  refine (Qcd) (fun hc1=>?_) fun hc1=>?_
  ·have hc1 : i < tvs.length := by omega
   refine (jq) ?_
   refine yf hf1_1.shows (Uu 27) (Uz 25) rfl rfl (by omega) rfl ?_
   refine (QS) ?_
   refine zR hf1_1.shows (zH 2 rfl ⟨[], trivial⟩) (Uu 25) rfl rfl (xA (by omega)) rfl ?_
   refine z6 (hf1_4 i (Nat.le_refl i)) ?_
   refine (g8)<|(Qq ⟨[], 4, [], none, none⟩)<|(Qf 0)<|(jd)<|(gb) ?_
   refine xu [(0, _), (1, _), (2, _)] (by repeat (first | exact zB | exact zA _ | apply zq rfl)) ⟨rfl, rfl, rfl, trivial⟩ rfl rfl rfl (Un 49) za ((YU (tvs.getD i undef) (ts.getD i []).length ((ts.getD i []).map iv) (hT.2 i (by omega)) z0j (zl _ (List.mem_cons_of_mem _ (List.mem_cons_of_mem _ (zgH (by omega)))))).imp fun u l1 nw ⟨h1, v9, h2, h3⟩ => ⟨h1, h2 ▸ h3.shows⟩) (xj 1 ((ts.getD i []).map iv) (ts.getD i []).length (by simp)) rfl rfl fun v3_4 nw3_4 hD3_4 => ?_
   simp only [zu]
   revert v3_4
   intro uN sN
   refine yf hf1_1.shows (Uu 27) (Uz 25) rfl rfl (by omega) rfl ?_
   refine (QS) ?_
   refine Xq (i := 2) hf1_1 (Uz 25) rfl rfl (zD sN) rfl (by omega) rfl fun oz3_5 ho3_5 => ?_
   refine (jc) ?_
   refine z31 (E'' := [(41, ii (i + 1))]) (M'' := [(2, _)]) (fz' := (fy ++ nw3_4)) ⟨i + 1, xs.set i uN, _, rfl, rfl, rfl, by omega, ho3_5, (by rw [List.length_set]; exact hf1_2), (fun j hj => by rw [zga (by omega)]; by_cases e : j = i; (rw [if_pos e, e]; exact Shows.mono sN (fun x hx => List.mem_append_right _ hx)); (rw [if_neg e]; exact Shows.mono (hf1_3 j (by omega)) (fun x hx => List.mem_append_left _ hx))), (fun j hj => by rw [zga (by omega), if_neg (by omega)]; exact hf1_4 j (by omega)), (fun x hx => List.mem_append_left _ (hf1_5 x hx))⟩ ⟨rfl, rfl, rfl, rfl, rfl, rfl, rfl, trivial⟩ ⟨rfl, rfl, rfl, trivial⟩ (by repeat (first | exact zB | exact zA _ | apply zq rfl)) (by omega)
  ·have hz1 : i = tvs.length := by omega
   refine Qe<|(gc) ?_
   refine z5h 2 [(0, _), (1, _)] rfl rfl (by repeat (first | exact zB | exact zA _ | apply zq rfl)) ⟨rfl, rfl, trivial⟩ rfl rfl ?_
   simp only [zu]
   refine z4 (i := 1) (Uz 37) rfl rfl (z3 _ _) (YO ⟨fun _ => rfl, fun _ => rfl, fun _ => zD hf0_4, fun _ => zD (hf0_1 (by omega)), fun _ => zD (hf0_2 (by omega)), fun _ => zD hf1_1.shows, fun _ => rfl, fun _ => rfl, fun _ => rfl, fun _ => rfl, fun _ => rfl, fun _ => rfl, fun _ => rfl, fun _ => rfl, fun _ => rfl, fun _ => rfl, fun _ => rfl, fun _ => rfl, fun _ => rfl, fun _ => rfl, fun _ => rfl, fun _ => zD hf0_3, fun _ => rfl, trivial⟩) rfl z7 (.inl rfl) ?_
   refine Qn<|Qr ?_
   exact ⟨_, _, (fy ++ oz.toList), rfl, yb 1, ⟨uP, a0, a1, _, uK, xs, rfl, hf0_4.mono (fun x hx => List.mem_append_left _ (hf1_5 x hx)), Shows.mono (show Shows oz.toList 1 _ xs.length xs by rw [hf1_2]; exact hf1_1.shows) (fun x hx => List.mem_append_right _ hx), yI (zjv ((hf0_1 (by omega)).mono hf1_5) ((hf0_2 (by omega)).mono hf1_5) (by omega) (fun j hj => hf1_3 j (by omega))) (fun x hx => List.mem_append_left _ hx), hf0_3.mono (fun x hx => List.mem_append_left _ (hf1_5 x hx)), zD hf0_4, zD (hf0_1 (by omega)), zD (hf0_2 (by omega)), zD hf1_1.shows, zD hf0_3⟩, (by repeat (first | exact zB | exact zA _ | apply zq rfl))⟩
end Go.Proofs.YtlidhfijmcelpaaGreatDoor
