import Derived.Test.YtacflmjoigffpaaGreatDoorKX13
set_option maxRecDepth 30000
set_option maxHeartbeats 64000000
attribute [local simp] Go.Proofs.YtacflmjoigffpaaGreatDoor.By Go.Proofs.YtacflmjoigffpaaGreatDoor.L8
namespace Go.Proofs.YtacflmjoigffpaaGreatDoor
open Go Go.RowKit
variable {G : Mem}
set_option maxRecDepth 20000 in
theorem z2o (hO : DOR ∈ G) (zn zm zk : Int) (a b c d : NN) (ha : B32 a) (hb : B32 b) (hc : B32 c) (hd : B32 d) (tx : LN) (htb : By tx) (base : LN) (ds q0 q1 : LN) (us : List (LN)) (LF : FL) (nm : LN) (hnb : By nm) (hnl : nm.length ≤ 1000000) (hd4 : ds.length ≤ 4) (hqq : q0.length ≤ 1000 ∧ q1.length ≤ 1000) (ht0 : ∀ x ∈ q0, x = 2) (ht1 : ∀ x ∈ q1, x = 2) (hq7 : ∀ q ∈ us, (∀ x ∈ q, 1 ≤ x ∧ x ≤ 7) ∧ q.length ≤ 6) (hul : us.length ≤ 10) (hpf : wA false (ci q0) (ci q1) (us.map ci) = 0) (hzl : ∀ q ∈ ci q0 :: ci q1 :: us.map ci, q.length * 8 ≤ 140737488355328) (hga : W6 ds.length true us (false, false, decide (2 ∈ q1), decide (2 ∈ q0)) 0 = true) (hla : xY true us (false, false, decide (2 ∈ q1), decide (2 ∈ q0)) = LF) (hLF : (LF.2.2.1 = false ∧ LF.2.2.2 = false ∧ pkn zn 6 ≠ 2) ∨ (LF.2.2.1 = true ∧ LF.2.2.2 = false ∧ pkn zn 6 ≠ 2) ∨ (LF.2.2.1 = true ∧ LF.2.2.2 = true ∧ pkn zn 6 ≠ 2) ∨ (LF.2.2.1 = true ∧ LF.2.2.2 = true ∧ pkn zn 6 = 2)) (hPO : Fq G [] 15 #[.int .i64 zn, .int .i64 zm] (fun w l1 nw => l1 = [] ∧ ∃ w', w = .tuple #[w', .bool true] ∧ YM base false ds q0 q1 us w' nw)) (hSh : ∀ (X : Mem) (vp va vb vt : Value) (tv : List Value), Shows (G ++ X) 1 vt tv.length tv → zF (G ++ X) (vp :: va :: vb :: tv) (ci ds :: ci q0 :: ci q1 :: us.map ci) → Fp (G ++ X) 49 #[.agg (Ya base false vp va vb vt)] (.tuple #[sv nm, ii 0])) (hPar : ∀ X : Mem, Fq (G ++ X) [] 23 #[sv nm] (fun v l1 nw => l1 = [] ∧ ∃ w', v = .tuple #[w', ii 0] ∧ Z3 base false (ci ds) q0 q1 us w' nw)) : Fp G 6 #[.int .i64 zn, .int .i64 zm, .agg (arr .u8 32 a), .agg (arr .u8 32 b), .agg (arr .u8 32 c), .agg (arr .u8 32 d), .int .i64 zk, sv tx] (.bool true) := by
 obtain ⟨tx9, htx9⟩ : ∃ l, l = tx.take 20 := ⟨_, rfl⟩
 have htl9 : tx9.length ≤ 20 := by rw [htx9, List.length_take]; omega
 have htb9 : ∀ x ∈ tx9, x < 256 := fun x hx => htb x (by rw [htx9] at hx; exact List.mem_of_mem_take hx)
 obtain ⟨y0, hzx, hzy, hMI⟩ := zeb (a := a) (b := b) (pl := tx9) (ps := (psN zk ds.length)) (us := us) (LF := LF) hnb ht0 ht1 (by rw [vj]; exact hga) hla
 refine Qf1 Tryz.func6 ?_
 refine (g4)<|(Qh 0) fun r1=>(Qh 1) fun r2=>(Qh 2) fun r3=>(Qh 3) fun r4=>(g3)<|Qs<|QR ⟨[], 4, [], none, none⟩<|(ga) ?_
 refine yf [(0, _), (1, _), (2, _), (3, _)] (by repeat (first | exact zq | exact zj _ | apply zg rfl)) ⟨rfl, rfl, rfl, rfl, trivial⟩ rfl rfl rfl (Un 15) zo hPO (zbJ base false ds q0 q1 us (.bool true)) rfl rfl fun v1_1 nw1_1 hD1_1 => ?_
 simp only [zA]
 obtain ⟨_, rfl, vp, hvp, va, vb, vt, tv, rfl, hva, hvb, hvt, hvn, hvL⟩ := hD1_1
 refine (ge)<|(QH 4) fun r5=>?_
 refine z7 (i := 4) (Uz 29) rfl rfl (z3 _ _) (Zw (z5 hvp) (z5 hva) (z5 hvb) (z5 hvt)) rfl z8 (.inl rfl) ?_
 refine (g3)<|Qs ?_
 refine ziT ⟨[], 4, [22], none, none⟩ [0, 1, 2, 4, 5, 3, 6, 7, 8, 9, 10, 11, 12, 13, 14, 15, 16, 17, 18, 19, 20, 21, 22, 23, 24] zfW (by kernel_rfl) ?_
 refine (QD 4)<|(Qd 0)<|(Qd 2)<|(Qd 1)<|(Qd 3) ?_
 refine yn (arr .u8 64 (sdF a c)) (Ub 54 rfl) (Uu 54 rfl) zke rfl (by kernel_rfl) rfl ?_
 refine yn (arr .u8 64 (sdF b d)) (Ub 54 rfl) (Uu 54 rfl) zke rfl (by kernel_rfl) rfl ?_
 refine (Qm)<|(Qf 2)<|(QV 2 4)<|(QC hvp) ?_
 refine zK 5 (fun v => v) rfl rfl (Un 17) zo (zc5 zk ds.length (by omega)) (by simp only [maxLen]; omega) (zbz _ _) rfl rfl fun v1_2 oz1_2 ho1_2 => ?_
 refine (Qm) ?_
 refine (Ca (z72 tx 20)) ?_
 refine zi (congrArg sv htx9.symm) ?_
 refine Y1 6 (Uu 9) (Uu 22) (Uu 5) rfl htb9 (by simp only [maxLen]; omega) rfl rfl fun v1_3 oz1_3 ho1_3 => ?_
 refine yf [(0, _), (1, _), (2, _), (3, _), (4, _), (5, _), (6, _)] (by repeat (first | exact zq | exact zj _ | apply zg rfl)) ⟨rfl, rfl, rfl, rfl, rfl, rfl, rfl, trivial⟩ rfl rfl rfl (Un 16) (zh zo (zh (zR (by repeat (first | exact zq | exact zj _ | apply zg rfl)) rfl) (zh (xF 5 rfl ⟨[], trivial⟩) (xF 6 rfl ⟨[], trivial⟩)))) (zmC (G := G ++ (([] ++ nw1_1) ++ (oz1_2.toList ++ oz1_3.toList))) (List.mem_append_left _ hO) base false vp va vb vt a c b d ha hb v1_2 (psN zk ds.length) (Shows.mono (show Shows oz1_2.toList 32 v1_2 (psN zk ds.length).length (psC (psN zk ds.length)) by rw [vj]; exact ho1_2.shows) (fun x hx => by simp [hx])) v1_3 tx9 ((yM ho1_3).mono (fun x hx => by simp [hx])) htb9 (by omega) (ci ds) q0 q1 us (hva.mono (fun x hx => by simp [hx])) (hvb.mono (fun x hx => by simp [hx])) (by rw [vj]; simp [ci]) (by rw [vj]; exact hd4) hqq (fun x hx => .inr (ht0 x hx)) (fun x hx => .inr (ht1 x hx)) nm hnb hnl (hSh _ vp va vb vt tv (Shows.mono (show Shows nw1_1 1 vt tv.length tv by rw [hvn]; exact hvt) (fun x hx => by simp [hx])) (yR (zeu (z5W hvp) (z45 hva hvb hvL)) (fun x hx => by simp [hx]))) (hPar _) (y0, RG q1 b) (y0, RG q0 a) hzx hzy) (zgE base false (ci ds) q0 q1 us (psN zk ds.length) a b (y0, RG q1 b) (y0, RG q0 a)) rfl rfl fun v1_4 nw1_4 hD1_4 => ?_
 simp only [zA]
 obtain ⟨_, _, rfl, ⟨P1, A1, B1, T1, K1, l1, rfl, hP1, hT1, hL1, hK1, h11⟩, ⟨P2, A2, B2, T2, K2, l2, rfl, hP2, hT2, hL2, hK2, h12⟩⟩ := hD1_4
 refine (ge)<|(Qx)<|(QH 7) fun r8=>(QH 8) fun r9=>?_
 refine z7 (i := 7) (Uz 37) rfl rfl (z3 _ _) (yS h11) rfl z8 (.inl rfl) ?_
 refine z7 (i := 8) (Uz 37) rfl rfl (z3 _ _) (yS h12) rfl z8 (.inl rfl) ?_
 refine (gx)<|(Q0)<|(gk)<|(Q0)<|(QF)<|(gp)<|(gu)<|(Qf 5)<|(QV 5 4)<|(QC hvt)<|(Qm)<|Qn<|Qb ?_
 refine VU [(0, _), (7, _), (10, _), (11, _), (12, _), (13, _), (19, _), (20, _), (69, _)] [(0, _), (1, _), (2, _), (3, _), (4, _), (5, oz1_2), (6, oz1_3)] (fun kk E m fz => ∃ (i : Nat) (F : FL) (sx : SS) (sy : SS) (Px : Value) (Ax : Value) (Bx : Value) (Tx : Value) (Kx : Value) (lx : List Value) (Py : Value) (Ay : Value) (By : Value) (Ty : Value) (Ky : Value) (ly : List Value), kk = us.length - i ∧ E = [(70, ii i)] ∧ m = [(7, (some ⟨r8, (shC base false Px Ax Bx Tx true ((i : Nat) : Int) false sx.1 a sx.2.1 Kx ((sx.2.2 : Nat) : Int)), 37⟩)), (8, (some ⟨r9, (shC base false Py Ay By Ty false ((i : Nat) : Int) false sy.1 b sy.2.1 Ky ((sy.2.2 : Nat) : Int)), 37⟩))] ∧ (i ≤ us.length) ∧ (MI a b (psN zk ds.length) us LF i F sx sy) ∧ (CpW (ci ds) (ci q0) (ci q1) (us.map ci) (psN zk ds.length) Px Ax Bx Tx Kx lx fz) ∧ (CpW (ci ds) (ci q0) (ci q1) (us.map ci) (psN zk ds.length) Py Ay By Ty Ky ly fz)) (k := us.length - 0) (E0 := [(70, ii 0)]) (M0 := [(7, (some ⟨r8, (shC base false P1 A1 B1 T1 true ((0 : Nat) : Int) false ((y0, RG q1 b, 0)).1 a ((y0, RG q1 b, 0)).2.1 K1 ((((y0, RG q1 b, 0)).2.2 : Nat) : Int)), 37⟩)), (8, (some ⟨r9, (shC base false P2 A2 B2 T2 false ((0 : Nat) : Int) false ((y0, RG q0 a, 0)).1 b ((y0, RG q0 a, 0)).2.1 K2 ((((y0, RG q0 a, 0)).2.2 : Nat) : Int)), 37⟩))]) (fz := (([] ++ nw1_1) ++ nw1_4)) ⟨0, (false, false, decide (2 ∈ q1), decide (2 ∈ q0)), (y0, RG q1 b, 0), (y0, RG q0 a, 0), P1, A1, B1, T1, K1, l1, P2, A2, B2, T2, K2, l2, rfl, rfl, rfl, by omega, hMI, (CpW.mono ⟨hP1, hT1, hL1, hK1, h11⟩ (fun x hx => by simp [hx])), (CpW.mono ⟨hP2, hT2, hL2, hK2, h12⟩ (fun x hx => by simp [hx]))⟩ ⟨rfl, rfl, rfl, rfl, rfl, rfl, rfl, rfl, rfl, rfl, trivial⟩ ⟨rfl, rfl, rfl, rfl, rfl, rfl, rfl, rfl, rfl, trivial⟩ (by repeat (first | exact zq | exact zj _ | apply zg rfl)) ?_
 rintro kk E m fz ⟨i, F, sx, sy, Px, Ax, Bx, Tx, Kx, lx, Py, Ay, By, Ty, Ky, ly, rfl, rfl, rfl, hf0_0, hf0_1, hf0_2, hf0_3⟩
 simp only [zB, zA]
 refine (gt) ?_
 refine (Qcd) (fun hc1=>?_) fun hc1=>?_
 ·have hc1 : i < us.length := by omega
  refine Qk<|Qs<|Qb<|(g5)<|(g3) ?_
  have hiu : i < us.length := by omega
  obtain ⟨tq9, htq⟩ : ∃ l, l = tx.take (10 * i) := ⟨_, rfl⟩
  have htl2 : tq9.length ≤ 100 := by rw [htq, List.length_take]; omega
  have htb2 : ∀ x ∈ tq9, x < 256 := fun x hx => htb x (by rw [htq] at hx; exact List.mem_of_mem_take hx)
  have hqi := hq7 (us.getD i []) (ziw hiu)
  obtain ⟨zx, zy, mm, hT9⟩ := zhI hf0_1 ha hb hc hd hiu hqi.2 (by omega) (tx := tq9) (by omega) htb2
  refine Qs ?_
  rcases Nat.mod_two_eq_zero_or_one i with he | he
  ·skip
   refine (Qq ⟨[], 1, [], (some [r8, r9, r3]), (some (10, r1))⟩) ?_
   refine zS (i := 7) (Uu 37) rfl (Uz 37) rfl rfl (z3 _ _) rfl ⟨[], trivial, _, rfl, by simp⟩ ?_
   refine zS (i := 8) (Uu 37) rfl (Uz 37) rfl rfl (z3 _ _) rfl ⟨[], trivial, _, rfl, by simp⟩ ?_
   refine zS (i := 2) (Uu 23) rfl (Uz 23) rfl rfl (zH _ _ _) rfl ⟨[], trivial, _, rfl, by simp⟩ ?_
   refine (QH 9) fun r10=>(QH 10) fun r11=>(QH 11) fun r12=>?_
   refine vY (i := 9) (Uz 37) rfl rfl (z3 _ _) (yS hf0_2.2.2.2.2) rfl z8 rfl ⟨[7, 8, 2], rfl, rfl, rfl, rfl, rfl, rfl, trivial⟩ (z2w 0 rfl (by decide) rfl (by decide)) ?_
   refine vY (i := 10) (Uz 37) rfl rfl (z3 _ _) (yS hf0_3.2.2.2.2) rfl z8 rfl ⟨[7, 8, 2], rfl, rfl, rfl, rfl, rfl, rfl, trivial⟩ (z2w 0 rfl (by decide) rfl (by decide)) ?_
   refine vY (i := 11) (Uz 23) rfl rfl (zH _ _ _) vS rfl (Yf _ _ _ _ _) rfl ⟨[7, 8, 2], rfl, rfl, rfl, rfl, rfl, rfl, trivial⟩ (z2w 0 rfl (by decide) rfl (by decide)) ?_
   refine Qn<|(gc)<|(Q4 2)<|(Qc)<|(Qaf)<|(gp)<|(g5)<|(Qm)<|(Q7 10) ?_
   refine (Ca (z72 tx (10 * i))) ?_
   refine zi (congrArg sv htq.symm) ?_
   refine (g3)<|Qs<|QR ⟨[], 4, [22], none, none⟩<|(QD 9)<|(Qd 11)<|(Qm) ?_
   refine Y1 12 (Uu 9) (Uu 22) (Uu 5) rfl htb2 (by simp only [maxLen]; omega) rfl rfl fun v5_5 oz5_5 ho5_5 => ?_
   refine yf [(0, _), (1, _), (2, _), (3, _), (4, _), (5, _), (6, _), (7, _), (8, _), (9, _), (10, _), (11, _), (12, _)] (by repeat (first | exact zq | exact zj _ | apply zg rfl)) ⟨rfl, rfl, rfl, rfl, rfl, rfl, rfl, rfl, rfl, rfl, rfl, rfl, rfl, trivial⟩ rfl rfl rfl (Un 10) (zh zo (zh (zR (by repeat (first | exact zq | exact zj _ | apply zg rfl)) rfl) (xF 12 rfl ⟨[], trivial⟩))) (z4Y (G := G ++ ((fz) ++ oz5_5.toList)) base false Px Ax Bx Tx true i false sx.1 sx.2.1 a Kx sx.2.2 (psN zk ds.length) (ci ds) (ci q0) (ci q1) lx (us.map ci) (hf0_2.2.2.2.1.mono (fun x hx => by simp [hx])) (hf0_2.1.mono (fun x hx => by simp [hx])) (hf0_2.2.1.mono (fun x hx => by simp [hx])) (yR hf0_2.2.2.1 (fun x hx => by simp [hx])) (by rw [vj]; omega) (by simp [ci]; omega) (by rw [hf0_2.len]; simp; omega) hzl (List.mem_append_left _ hO) (VY zk hd4) hf0_1.x.1 hf0_1.x.2 ha c hc v5_5 tq9 ((yM ho5_5).mono (fun x hx => by simp [hx])) htb2 (us.getD i []) (z9i hiu) hqi.1 hqi.2 (by simpa using hiu) (by omega) (Ws (decide_eq_true he).symm (by simpa using hiu) hpf) (by omega) (0, zx, mm) (hT9.e he).1 rfl) (z08 base false (ci ds) (ci q0) (ci q1) (us.map ci) (psN zk ds.length) true ((i + 1 : Nat) : Int) false zx.1 a zx.2.1 ((zx.2.2 : Nat) : Int) 0 mm) rfl rfl fun v5_6 nw5_6 hD5_6 => ?_
   simp only [zA]
   obtain ⟨_, W5, rfl, ⟨P5, A5, B5, T5, K5, l5, rfl, hP5, hT5, hL5, hK5, h15⟩, hW5⟩ := hD5_6
   refine (ge)<|(Qx) ?_
   refine z7 (i := 9) (Uz 37) rfl rfl (z3 _ _) (yS h15) rfl z8 (.inl rfl) ?_
   refine (g7)<|Qs<|QR ⟨[], 4, [], none, none⟩<|(QD 10)<|(Qm) ?_
   refine yf [(0, _), (1, _), (2, _), (3, _), (4, _), (5, _), (6, _), (7, _), (8, _), (9, _), (10, _), (11, _), (12, _)] (by repeat (first | exact zq | exact zj _ | apply zg rfl)) ⟨rfl, rfl, rfl, rfl, rfl, rfl, rfl, rfl, rfl, rfl, rfl, rfl, rfl, trivial⟩ rfl rfl rfl (Un 13) (zh zo (zR (by repeat (first | exact zq | exact zj _ | apply zg rfl)) rfl)) (z9W (G := G ++ (fz ++ nw5_6)) base false Py Ay By Ty false i false sy.1 sy.2.1 b Ky sy.2.2 (psN zk ds.length) (ci ds) (ci q0) (ci q1) ly (us.map ci) (hf0_3.2.2.2.1.mono (fun x hx => by simp [hx])) (hf0_3.1.mono (fun x hx => by simp [hx])) (hf0_3.2.1.mono (fun x hx => by simp [hx])) (yR hf0_3.2.2.1 (fun x hx => by simp [hx])) (by rw [vj]; omega) (by simp [ci]; omega) (by rw [hf0_3.len]; simp; omega) hzl (List.mem_append_left _ hO) (VY zk hd4) hf0_1.y.1 hf0_1.y.2 hb W5 mm (hW5.mono (fun x hx => by simp [hx])) hT9.h (us.getD i []) (z9i hiu) hqi.1 hqi.2 (by simpa using hiu) (by omega) (Ws (decide_eq_true he).symm (by simpa using hiu) hpf) hT9.l (0, zy, tq9) (hT9.e he).2 rfl) (z08 base false (ci ds) (ci q0) (ci q1) (us.map ci) (psN zk ds.length) false ((i + 1 : Nat) : Int) false zy.1 b zy.2.1 ((zy.2.2 : Nat) : Int) 0 tq9) rfl rfl fun v5_7 nw5_7 hD5_7 => ?_
   simp only [zA]
   obtain ⟨_, W7, rfl, ⟨P7, A7, B7, T7, K7, l7, rfl, hP7, hT7, hL7, hK7, h17⟩, hW7⟩ := hD5_7
   refine (ge)<|(Qx) ?_
   refine z7 (i := 10) (Uz 37) rfl rfl (z3 _ _) (yS h17) rfl z8 (.inl rfl) ?_
   refine (gv)<|(QN) ?_
   refine zi (show _ = Value.bool false from congrArg Value.bool (decide_eq_false (fun h => h rfl))) ?_
   refine (gk)<|(QN) ?_
   refine zi (show _ = Value.bool false from congrArg Value.bool (decide_eq_false (fun h => h rfl))) ?_
   refine (QF)<|(gk) ?_
   refine VH (l := tq9) (show Shows ((fz ++ nw5_6) ++ nw5_7) 1 W7 tq9.length (tq9.map by8) from hW7.mono (fun x hx => by simp [hx])) (zR (by repeat (first | exact zq | exact zj _ | apply zg rfl)) rfl) (Uu 22) (Uu 5) (Uu 9) rfl rfl rfl ?_
   refine (Qy)<|(g8) ?_
   refine z9M rfl rfl rfl htb2 htb2 ?_
   refine zi (show _ = Value.bool false from congrArg Value.bool (decide_eq_false (fun h => h rfl))) ?_
   refine (QF)<|(g8)<|(Qf 9)<|(Qy)<|(QlK 9 9 5) ?_
   refine (Av (SVy zx.1))<|(Qy)<|(Qf 9)<|(Qy)<|(QlK 10 9 5) ?_
   refine zi (show _ = SVy zx.1 by first | (rw [← hT9.n.m.y]; rfl) | (rw [hT9.n.m.y]; rfl)) ?_
   refine (Qy) ?_
   refine z6A zk8 zk9 rfl rfl rfl ?_
   refine (QF)<|(gp)<|Qs<|(Qq ⟨[r8, r9], 1, [], none, none⟩) ?_
   refine zS (i := 9) (Uu 37) rfl (Uz 37) rfl rfl (z3 _ _) rfl ⟨[7, 8], rfl, rfl, rfl, rfl, trivial⟩ ?_
   refine zS (i := 10) (Uu 37) rfl (Uz 37) rfl rfl (z3 _ _) rfl ⟨[7, 8], rfl, rfl, rfl, rfl, trivial⟩ ?_
   refine z7 (i := 7) (Uz 37) rfl rfl (z3 _ _) (yS h15) rfl z8 (.inr (by simp)) ?_
   refine z7 (i := 8) (Uz 37) rfl rfl (z3 _ _) (yS h17) rfl z8 (.inr (by simp)) ?_
   refine Qn<|(g5)<|(Q4 2)<|(Qc)<|(Qaf)<|(gp)<|(go) ?_
   refine X9 (E'' := [(70, ii (i + 1))]) (M'' := [(7, (some ⟨r8, (shC base false _ _ _ _ true (((i + 1) : Nat) : Int) false zx.1 a zx.2.1 _ ((zx.2.2 : Nat) : Int)), 37⟩)), (8, (some ⟨r9, (shC base false _ _ _ _ false (((i + 1) : Nat) : Int) false zy.1 b zy.2.1 _ ((zy.2.2 : Nat) : Int)), 37⟩))]) (fz' := ((fz ++ nw5_6) ++ nw5_7)) ⟨i + 1, VF (decide (i % 2 = 0)) (us.getD i []) F, zx, zy, _, _, _, _, _, _, _, _, _, _, _, _, rfl, rfl, rfl, by omega, hT9.n, (CpW.mono ⟨hP5, hT5, hL5, hK5, h15⟩ (fun x hx => by simp [hx])), (CpW.mono ⟨hP7, hT7, hL7, hK7, h17⟩ (fun x hx => by simp [hx]))⟩ ⟨rfl, rfl, rfl, rfl, rfl, rfl, rfl, rfl, rfl, rfl, trivial⟩ ⟨rfl, rfl, rfl, rfl, rfl, rfl, rfl, rfl, rfl, trivial⟩ (by repeat (first | exact zq | exact zj _ | apply zg rfl)) (by omega)
  ·skip
   refine (Qq ⟨[], 1, [], (some [r8, r9, r3]), (some (10, r1))⟩) ?_
   refine zS (i := 7) (Uu 37) rfl (Uz 37) rfl rfl (z3 _ _) rfl ⟨[], trivial, _, rfl, by simp⟩ ?_
   refine zS (i := 8) (Uu 37) rfl (Uz 37) rfl rfl (z3 _ _) rfl ⟨[], trivial, _, rfl, by simp⟩ ?_
   refine zS (i := 2) (Uu 23) rfl (Uz 23) rfl rfl (zH _ _ _) rfl ⟨[], trivial, _, rfl, by simp⟩ ?_
   refine (QH 9) fun r10=>(QH 10) fun r11=>(QH 11) fun r12=>?_
   refine vY (i := 9) (Uz 37) rfl rfl (z3 _ _) (yS hf0_2.2.2.2.2) rfl z8 rfl ⟨[7, 8, 2], rfl, rfl, rfl, rfl, rfl, rfl, trivial⟩ (z2w 0 rfl (by decide) rfl (by decide)) ?_
   refine vY (i := 10) (Uz 37) rfl rfl (z3 _ _) (yS hf0_3.2.2.2.2) rfl z8 rfl ⟨[7, 8, 2], rfl, rfl, rfl, rfl, rfl, rfl, trivial⟩ (z2w 0 rfl (by decide) rfl (by decide)) ?_
   refine vY (i := 11) (Uz 23) rfl rfl (zH _ _ _) vS rfl (Yf _ _ _ _ _) rfl ⟨[7, 8, 2], rfl, rfl, rfl, rfl, rfl, rfl, trivial⟩ (z2w 0 rfl (by decide) rfl (by decide)) ?_
   refine Qn<|(gc)<|(Q4 2)<|(Qc)<|(Qat)<|Qn<|(Qct)<|(Qq ⟨[r10, r11, r12], 1, [], none, none⟩) ?_
   refine zS (i := 8) (Uu 37) rfl (Uz 37) rfl rfl (z3 _ _) rfl ⟨[9, 10, 11], rfl, rfl, rfl, rfl, rfl, rfl, trivial⟩ ?_
   refine zS (i := 7) (Uu 37) rfl (Uz 37) rfl rfl (z3 _ _) rfl ⟨[9, 10, 11], rfl, rfl, rfl, rfl, rfl, rfl, trivial⟩ ?_
   refine zS (i := 3) (Uu 23) rfl (Uz 23) rfl rfl (zH _ _ _) rfl ⟨[9, 10, 11], rfl, rfl, rfl, rfl, rfl, rfl, trivial⟩ ?_
   refine z7 (i := 9) (Uz 37) rfl rfl (z3 _ _) (yS hf0_3.2.2.2.2) rfl z8 (.inr (by simp)) ?_
   refine z7 (i := 10) (Uz 37) rfl rfl (z3 _ _) (yS hf0_2.2.2.2.2) rfl z8 (.inr (by simp)) ?_
   refine z7 (i := 11) (Uz 23) rfl rfl (zH _ _ _) vS rfl (Yf _ _ _ _ _) (.inr (by simp)) ?_
   refine Qn<|(g5)<|(Qm)<|(Q7 10) ?_
   refine (Ca (z72 tx (10 * i))) ?_
   refine zi (congrArg sv htq.symm) ?_
   refine (g3)<|Qs<|QR ⟨[], 4, [22], none, none⟩<|(QD 9)<|(Qd 11)<|(Qm) ?_
   refine Y1 12 (Uu 9) (Uu 22) (Uu 5) rfl htb2 (by simp only [maxLen]; omega) rfl rfl fun v5_5 oz5_5 ho5_5 => ?_
   refine yf [(0, _), (1, _), (2, _), (3, _), (4, _), (5, _), (6, _), (7, _), (8, _), (9, _), (10, _), (11, _), (12, _)] (by repeat (first | exact zq | exact zj _ | apply zg rfl)) ⟨rfl, rfl, rfl, rfl, rfl, rfl, rfl, rfl, rfl, rfl, rfl, rfl, rfl, trivial⟩ rfl rfl rfl (Un 10) (zh zo (zh (zR (by repeat (first | exact zq | exact zj _ | apply zg rfl)) rfl) (xF 12 rfl ⟨[], trivial⟩))) (z4Y (G := G ++ ((fz) ++ oz5_5.toList)) base false Py Ay By Ty false i false sy.1 sy.2.1 b Ky sy.2.2 (psN zk ds.length) (ci ds) (ci q0) (ci q1) ly (us.map ci) (hf0_3.2.2.2.1.mono (fun x hx => by simp [hx])) (hf0_3.1.mono (fun x hx => by simp [hx])) (hf0_3.2.1.mono (fun x hx => by simp [hx])) (yR hf0_3.2.2.1 (fun x hx => by simp [hx])) (by rw [vj]; omega) (by simp [ci]; omega) (by rw [hf0_3.len]; simp; omega) hzl (List.mem_append_left _ hO) (VY zk hd4) hf0_1.y.1 hf0_1.y.2 hb d hd v5_5 tq9 ((yM ho5_5).mono (fun x hx => by simp [hx])) htb2 (us.getD i []) (z9i hiu) hqi.1 hqi.2 (by simpa using hiu) (by omega) (Ws (decide_eq_false (show ¬ i % 2 = 0 by omega)).symm (by simpa using hiu) hpf) (by omega) (0, zy, mm) (hT9.o he).1 rfl) (z08 base false (ci ds) (ci q0) (ci q1) (us.map ci) (psN zk ds.length) false ((i + 1 : Nat) : Int) false zy.1 b zy.2.1 ((zy.2.2 : Nat) : Int) 0 mm) rfl rfl fun v5_6 nw5_6 hD5_6 => ?_
   simp only [zA]
   obtain ⟨_, W5, rfl, ⟨P5, A5, B5, T5, K5, l5, rfl, hP5, hT5, hL5, hK5, h15⟩, hW5⟩ := hD5_6
   refine (ge)<|(Qx) ?_
   refine z7 (i := 9) (Uz 37) rfl rfl (z3 _ _) (yS h15) rfl z8 (.inl rfl) ?_
   refine (g7)<|Qs<|QR ⟨[], 4, [], none, none⟩<|(QD 10)<|(Qm) ?_
   refine yf [(0, _), (1, _), (2, _), (3, _), (4, _), (5, _), (6, _), (7, _), (8, _), (9, _), (10, _), (11, _), (12, _)] (by repeat (first | exact zq | exact zj _ | apply zg rfl)) ⟨rfl, rfl, rfl, rfl, rfl, rfl, rfl, rfl, rfl, rfl, rfl, rfl, rfl, trivial⟩ rfl rfl rfl (Un 13) (zh zo (zR (by repeat (first | exact zq | exact zj _ | apply zg rfl)) rfl)) (z9W (G := G ++ (fz ++ nw5_6)) base false Px Ax Bx Tx true i false sx.1 sx.2.1 a Kx sx.2.2 (psN zk ds.length) (ci ds) (ci q0) (ci q1) lx (us.map ci) (hf0_2.2.2.2.1.mono (fun x hx => by simp [hx])) (hf0_2.1.mono (fun x hx => by simp [hx])) (hf0_2.2.1.mono (fun x hx => by simp [hx])) (yR hf0_2.2.2.1 (fun x hx => by simp [hx])) (by rw [vj]; omega) (by simp [ci]; omega) (by rw [hf0_2.len]; simp; omega) hzl (List.mem_append_left _ hO) (VY zk hd4) hf0_1.x.1 hf0_1.x.2 ha W5 mm (hW5.mono (fun x hx => by simp [hx])) hT9.h (us.getD i []) (z9i hiu) hqi.1 hqi.2 (by simpa using hiu) (by omega) (Ws (decide_eq_false (show ¬ i % 2 = 0 by omega)).symm (by simpa using hiu) hpf) hT9.l (0, zx, tq9) (hT9.o he).2 rfl) (z08 base false (ci ds) (ci q0) (ci q1) (us.map ci) (psN zk ds.length) true ((i + 1 : Nat) : Int) false zx.1 a zx.2.1 ((zx.2.2 : Nat) : Int) 0 tq9) rfl rfl fun v5_7 nw5_7 hD5_7 => ?_
   simp only [zA]
   obtain ⟨_, W7, rfl, ⟨P7, A7, B7, T7, K7, l7, rfl, hP7, hT7, hL7, hK7, h17⟩, hW7⟩ := hD5_7
   refine (ge)<|(Qx) ?_
   refine z7 (i := 10) (Uz 37) rfl rfl (z3 _ _) (yS h17) rfl z8 (.inl rfl) ?_
   refine (gv)<|(QN) ?_
   refine zi (show _ = Value.bool false from congrArg Value.bool (decide_eq_false (fun h => h rfl))) ?_
   refine (gk)<|(QN) ?_
   refine zi (show _ = Value.bool false from congrArg Value.bool (decide_eq_false (fun h => h rfl))) ?_
   refine (QF)<|(gk) ?_
   refine VH (l := tq9) (show Shows ((fz ++ nw5_6) ++ nw5_7) 1 W7 tq9.length (tq9.map by8) from hW7.mono (fun x hx => by simp [hx])) (zR (by repeat (first | exact zq | exact zj _ | apply zg rfl)) rfl) (Uu 22) (Uu 5) (Uu 9) rfl rfl rfl ?_
   refine (Qy)<|(g8) ?_
   refine z9M rfl rfl rfl htb2 htb2 ?_
   refine zi (show _ = Value.bool false from congrArg Value.bool (decide_eq_false (fun h => h rfl))) ?_
   refine (QF)<|(g8)<|(Qf 9)<|(Qy)<|(QlK 9 9 5) ?_
   refine (Av (SVy zy.1))<|(Qy)<|(Qf 9)<|(Qy)<|(QlK 10 9 5) ?_
   refine zi (show _ = SVy zy.1 by first | (rw [← hT9.n.m.y]; rfl) | (rw [hT9.n.m.y]; rfl)) ?_
   refine (Qy) ?_
   refine z6A zk8 zk9 rfl rfl rfl ?_
   refine (QF)<|(gp)<|Qs<|(Qq ⟨[r8, r9], 1, [], none, none⟩) ?_
   refine zS (i := 9) (Uu 37) rfl (Uz 37) rfl rfl (z3 _ _) rfl ⟨[7, 8], rfl, rfl, rfl, rfl, trivial⟩ ?_
   refine zS (i := 10) (Uu 37) rfl (Uz 37) rfl rfl (z3 _ _) rfl ⟨[7, 8], rfl, rfl, rfl, rfl, trivial⟩ ?_
   refine z7 (i := 7) (Uz 37) rfl rfl (z3 _ _) (yS h15) rfl z8 (.inr (by simp)) ?_
   refine z7 (i := 8) (Uz 37) rfl rfl (z3 _ _) (yS h17) rfl z8 (.inr (by simp)) ?_
   refine Qn<|(g5)<|(Q4 2)<|(Qc)<|(Qat)<|Qn<|(Qct)<|(Qq ⟨[r8, r9], 1, [], none, none⟩) ?_
   refine zS (i := 10) (Uu 37) rfl (Uz 37) rfl rfl (z3 _ _) rfl ⟨[7, 8], rfl, rfl, rfl, rfl, trivial⟩ ?_
   refine zS (i := 9) (Uu 37) rfl (Uz 37) rfl rfl (z3 _ _) rfl ⟨[7, 8], rfl, rfl, rfl, rfl, trivial⟩ ?_
   refine z7 (i := 7) (Uz 37) rfl rfl (z3 _ _) (yS h17) rfl z8 (.inr (by simp)) ?_
   refine z7 (i := 8) (Uz 37) rfl rfl (z3 _ _) (yS h15) rfl z8 (.inr (by simp)) ?_
   refine Qn<|(go) ?_
   refine X9 (E'' := [(70, ii (i + 1))]) (M'' := [(7, (some ⟨r8, (shC base false _ _ _ _ true (((i + 1) : Nat) : Int) false zx.1 a zx.2.1 _ ((zx.2.2 : Nat) : Int)), 37⟩)), (8, (some ⟨r9, (shC base false _ _ _ _ false (((i + 1) : Nat) : Int) false zy.1 b zy.2.1 _ ((zy.2.2 : Nat) : Int)), 37⟩))]) (fz' := ((fz ++ nw5_6) ++ nw5_7)) ⟨i + 1, VF (decide (i % 2 = 0)) (us.getD i []) F, zx, zy, _, _, _, _, _, _, _, _, _, _, _, _, rfl, rfl, rfl, by omega, hT9.n, (CpW.mono ⟨hP7, hT7, hL7, hK7, h17⟩ (fun x hx => by simp [hx])), (CpW.mono ⟨hP5, hT5, hL5, hK5, h15⟩ (fun x hx => by simp [hx]))⟩ ⟨rfl, rfl, rfl, rfl, rfl, rfl, rfl, rfl, rfl, rfl, trivial⟩ ⟨rfl, rfl, rfl, rfl, rfl, rfl, rfl, rfl, rfl, trivial⟩ (by repeat (first | exact zq | exact zj _ | apply zg rfl)) (by omega)
 ·have hz0 : i = us.length := by omega
  refine Qe<|(g4)<|(QD 7) ?_
  refine zD rfl rfl (Un 19) (zh zo (zR (by repeat (first | exact zq | exact zj _ | apply zg rfl)) rfl)) (z1S (G := G ++ (fz)) (List.mem_append_left _ hO) base false Px Ax Bx Tx true ((i : Nat) : Int) false sx.1 sx.2.1 a Kx ((sx.2.2 : Nat) : Int) lx (hf0_2.2.1.mono (fun x hx => by simp [hx])) hf0_1.x.1 (vg (by rw [hf0_2.len]; simp) hz0)) rfl rfl ?_
  refine (ge)<|(QH 9) fun r10=>(QW 9)<|(g3) ?_
  have hM9 := hf0_1.last hz0
  refine (g4)<|(QD 8) ?_
  refine zD rfl rfl (Un 19) (zh zo (zR (by repeat (first | exact zq | exact zj _ | apply zg rfl)) rfl)) (z1S (G := G ++ (fz)) (List.mem_append_left _ hO) base false Py Ay By Ty false ((i : Nat) : Int) false sy.1 sy.2.1 b Ky ((sy.2.2 : Nat) : Int) ly (hf0_3.2.1.mono (fun x hx => by simp [hx])) hf0_1.y.1 (vg (by rw [hf0_3.len]; simp) hz0)) rfl rfl ?_
  refine zi (show _ = Value.tuple #[.agg (zr 68 [pV (.bool true), pI .u8 32 (kA sx.1.2.2.2.1 []), pV (u 0), pV (.bool true), pI .u8 32 (kB sx.1.2.2.2.1 []), pV (u 0)]), ii 0] by rw [hM9.y]) ?_
  refine (ge)<|(QH 10) fun r11=>(QW 10)<|(g3)<|Qs ?_
  rcases hLF with ⟨hx9, hy9, hp9⟩ | ⟨hx9, hy9, hp9⟩ | ⟨hx9, hy9, hp9⟩ | ⟨hx9, hy9, hp9⟩
  ·skip
   refine (Qg)<|(QD 7) ?_
   refine zD rfl rfl (Un 20) (zh zo (zR (by repeat (first | exact zq | exact zj _ | apply zg rfl)) rfl)) (vN (G := G ++ (fz)) base false Px Ax Bx Tx true ((i : Nat) : Int) false sx.1 sx.2.1 a Kx ((sx.2.2 : Nat) : Int) lx (hf0_2.2.1.mono (fun x hx => by simp [hx]))) rfl rfl ?_
   refine (Ab (vg (by rw [hf0_2.len]; simp) hz0))<|(g8)<|(QD 8)<|(Qy) ?_
   refine zD rfl rfl (Un 20) (zh zo (zR (by repeat (first | exact zq | exact zj _ | apply zg rfl)) rfl)) (vN (G := G ++ (fz)) base false Py Ay By Ty false ((i : Nat) : Int) false sy.1 sy.2.1 b Ky ((sy.2.2 : Nat) : Int) ly (hf0_3.2.1.mono (fun x hx => by simp [hx]))) rfl rfl ?_
   refine (Ab (vg (by rw [hf0_3.len]; simp) hz0))<|(QT)<|(gk)<|(Qc)<|(Qar)<|(QT)<|(gk)<|(Qc)<|(Qar)<|(QT)<|(g8)<|(QD 9)<|(Qy)<|(QD 10)<|(Qy) ?_
   refine W3 z9O z8V rfl rfl rfl ?_
   refine (QT)<|(g8)<|(Qf 204)<|(Qy)<|(QV 18 7) ?_
   refine (Ab (hM9.k1.trans hx9))<|(Qy)<|(Q0)<|(Qy)<|(Qm)<|(gm)<|(Qo)<|(Qy)<|(QT)<|(QT)<|(g8)<|(Qf 204)<|(Qy)<|(QV 18 8) ?_
   refine (Ab (hM9.k2.trans hy9))<|(Qy)<|(Q0)<|(Qy)<|(Qm)<|(gm)<|(Qo)<|(Qy)<|(QT)<|(QT)<|(gk) ?_
   refine (Ca (vV zn 6 (by decide) (by decide)))<|(Qy)<|(QN) ?_
   refine zi (show _ = Value.bool true from congrArg Value.bool (decide_eq_true (fun h => hp9 (by omega)))) ?_
   refine (Qy)<|(Qm)<|(gz)<|(Qw)<|(Qw)<|(Qo)<|(Qy)<|(QT)<|(QT)<|(gh) ?_
   exact ⟨_, rfl, yt⟩
  ·skip
   refine (Qg)<|(QD 7) ?_
   refine zD rfl rfl (Un 20) (zh zo (zR (by repeat (first | exact zq | exact zj _ | apply zg rfl)) rfl)) (vN (G := G ++ (fz)) base false Px Ax Bx Tx true ((i : Nat) : Int) false sx.1 sx.2.1 a Kx ((sx.2.2 : Nat) : Int) lx (hf0_2.2.1.mono (fun x hx => by simp [hx]))) rfl rfl ?_
   refine (Ab (vg (by rw [hf0_2.len]; simp) hz0))<|(g8)<|(QD 8)<|(Qy) ?_
   refine zD rfl rfl (Un 20) (zh zo (zR (by repeat (first | exact zq | exact zj _ | apply zg rfl)) rfl)) (vN (G := G ++ (fz)) base false Py Ay By Ty false ((i : Nat) : Int) false sy.1 sy.2.1 b Ky ((sy.2.2 : Nat) : Int) ly (hf0_3.2.1.mono (fun x hx => by simp [hx]))) rfl rfl ?_
   refine (Ab (vg (by rw [hf0_3.len]; simp) hz0))<|(QT)<|(gk)<|(Qc)<|(Qar)<|(QT)<|(gk)<|(Qc)<|(Qar)<|(QT)<|(g8)<|(QD 9)<|(Qy)<|(QD 10)<|(Qy) ?_
   refine W3 z9O z8V rfl rfl rfl ?_
   refine (QT)<|(g8)<|(Qf 204)<|(Qy)<|(QV 18 7) ?_
   refine (Ab (hM9.k1.trans hx9))<|(Qy)<|(Q0)<|(Qy)<|(g8)<|(Qf 172)<|(Qy)<|(Qv 17 7)<|(Qy)<|(Qd 1)<|(Qy) ?_
   refine (Ca (xL b hb)) ?_
   refine (Av (Value.agg (arr .u8 32 (zN b))))<|(Qy) ?_
   refine z5n (Uu 30) (Uu 5) (Uz 5) z2x rfl rfl rfl ?_
   refine (Ab (yu.2 (z33 (hM9.lk hx9))))<|(Qy)<|(QF)<|(QT)<|(g8)<|(Qf 204)<|(Qy)<|(QV 18 8) ?_
   refine (Ab (hM9.k2.trans hy9))<|(Qy)<|(Q0)<|(Qy)<|(Qm)<|(gm)<|(Qo)<|(Qy)<|(QT)<|(QT)<|(gk) ?_
   refine (Ca (vV zn 6 (by decide) (by decide)))<|(Qy)<|(QN) ?_
   refine zi (show _ = Value.bool true from congrArg Value.bool (decide_eq_true (fun h => hp9 (by omega)))) ?_
   refine (Qy)<|(Qm)<|(gz)<|(Qw)<|(Qw)<|(Qo)<|(Qy)<|(QT)<|(QT)<|(gh) ?_
   exact ⟨_, rfl, yt⟩
  ·skip
   refine (Qg)<|(QD 7) ?_
   refine zD rfl rfl (Un 20) (zh zo (zR (by repeat (first | exact zq | exact zj _ | apply zg rfl)) rfl)) (vN (G := G ++ (fz)) base false Px Ax Bx Tx true ((i : Nat) : Int) false sx.1 sx.2.1 a Kx ((sx.2.2 : Nat) : Int) lx (hf0_2.2.1.mono (fun x hx => by simp [hx]))) rfl rfl ?_
   refine (Ab (vg (by rw [hf0_2.len]; simp) hz0))<|(g8)<|(QD 8)<|(Qy) ?_
   refine zD rfl rfl (Un 20) (zh zo (zR (by repeat (first | exact zq | exact zj _ | apply zg rfl)) rfl)) (vN (G := G ++ (fz)) base false Py Ay By Ty false ((i : Nat) : Int) false sy.1 sy.2.1 b Ky ((sy.2.2 : Nat) : Int) ly (hf0_3.2.1.mono (fun x hx => by simp [hx]))) rfl rfl ?_
   refine (Ab (vg (by rw [hf0_3.len]; simp) hz0))<|(QT)<|(gk)<|(Qc)<|(Qar)<|(QT)<|(gk)<|(Qc)<|(Qar)<|(QT)<|(g8)<|(QD 9)<|(Qy)<|(QD 10)<|(Qy) ?_
   refine W3 z9O z8V rfl rfl rfl ?_
   refine (QT)<|(g8)<|(Qf 204)<|(Qy)<|(QV 18 7) ?_
   refine (Ab (hM9.k1.trans hx9))<|(Qy)<|(Q0)<|(Qy)<|(g8)<|(Qf 172)<|(Qy)<|(Qv 17 7)<|(Qy)<|(Qd 1)<|(Qy) ?_
   refine (Ca (xL b hb)) ?_
   refine (Av (Value.agg (arr .u8 32 (zN b))))<|(Qy) ?_
   refine z5n (Uu 30) (Uu 5) (Uz 5) z2x rfl rfl rfl ?_
   refine (Ab (yu.2 (z33 (hM9.lk hx9))))<|(Qy)<|(QF)<|(QT)<|(g8)<|(Qf 204)<|(Qy)<|(QV 18 8) ?_
   refine (Ab (hM9.k2.trans hy9))<|(Qy)<|(Q0)<|(Qy)<|(g8)<|(Qf 172)<|(Qy)<|(Qv 17 8)<|(Qy)<|(Qd 0)<|(Qy) ?_
   refine (Ca (xL a ha)) ?_
   refine (Av (Value.agg (arr .u8 32 (zN a))))<|(Qy) ?_
   refine z5n (Uu 30) (Uu 5) (Uz 5) z2x rfl rfl rfl ?_
   refine (Ab (yu.2 (z33 (hM9.jk hy9))))<|(Qy)<|(QF)<|(QT)<|(gk) ?_
   refine (Ca (vV zn 6 (by decide) (by decide)))<|(Qy)<|(QN) ?_
   refine zi (show _ = Value.bool true from congrArg Value.bool (decide_eq_true (fun h => hp9 (by omega)))) ?_
   refine (Qy)<|(Qm)<|(gz)<|(Qw)<|(Qw)<|(Qo)<|(Qy)<|(QT)<|(QT)<|(gh) ?_
   exact ⟨_, rfl, yt⟩
  ·skip
   refine (Qg)<|(QD 7) ?_
   refine zD rfl rfl (Un 20) (zh zo (zR (by repeat (first | exact zq | exact zj _ | apply zg rfl)) rfl)) (vN (G := G ++ (fz)) base false Px Ax Bx Tx true ((i : Nat) : Int) false sx.1 sx.2.1 a Kx ((sx.2.2 : Nat) : Int) lx (hf0_2.2.1.mono (fun x hx => by simp [hx]))) rfl rfl ?_
   refine (Ab (vg (by rw [hf0_2.len]; simp) hz0))<|(g8)<|(QD 8)<|(Qy) ?_
   refine zD rfl rfl (Un 20) (zh zo (zR (by repeat (first | exact zq | exact zj _ | apply zg rfl)) rfl)) (vN (G := G ++ (fz)) base false Py Ay By Ty false ((i : Nat) : Int) false sy.1 sy.2.1 b Ky ((sy.2.2 : Nat) : Int) ly (hf0_3.2.1.mono (fun x hx => by simp [hx]))) rfl rfl ?_
   refine (Ab (vg (by rw [hf0_3.len]; simp) hz0))<|(QT)<|(gk)<|(Qc)<|(Qar)<|(QT)<|(gk)<|(Qc)<|(Qar)<|(QT)<|(g8)<|(QD 9)<|(Qy)<|(QD 10)<|(Qy) ?_
   refine W3 z9O z8V rfl rfl rfl ?_
   refine (QT)<|(g8)<|(Qf 204)<|(Qy)<|(QV 18 7) ?_
   refine (Ab (hM9.k1.trans hx9))<|(Qy)<|(Q0)<|(Qy)<|(g8)<|(Qf 172)<|(Qy)<|(Qv 17 7)<|(Qy)<|(Qd 1)<|(Qy) ?_
   refine (Ca (xL b hb)) ?_
   refine (Av (Value.agg (arr .u8 32 (zN b))))<|(Qy) ?_
   refine z5n (Uu 30) (Uu 5) (Uz 5) z2x rfl rfl rfl ?_
   refine (Ab (yu.2 (z33 (hM9.lk hx9))))<|(Qy)<|(QF)<|(QT)<|(g8)<|(Qf 204)<|(Qy)<|(QV 18 8) ?_
   refine (Ab (hM9.k2.trans hy9))<|(Qy)<|(Q0)<|(Qy)<|(g8)<|(Qf 172)<|(Qy)<|(Qv 17 8)<|(Qy)<|(Qd 0)<|(Qy) ?_
   refine (Ca (xL a ha)) ?_
   refine (Av (Value.agg (arr .u8 32 (zN a))))<|(Qy) ?_
   refine z5n (Uu 30) (Uu 5) (Uz 5) z2x rfl rfl rfl ?_
   refine (Ab (yu.2 (z33 (hM9.jk hy9))))<|(Qy)<|(QF)<|(QT)<|(gk) ?_
   refine (Ca (vV zn 6 (by decide) (by decide)))<|(Qy)<|(QN) ?_
   refine zi (show _ = Value.bool false from congrArg Value.bool (decide_eq_false (fun h => h (by omega)))) ?_
   refine (Qy)<|(g8)<|(Qf 204)<|(Qy)<|(QV 18 7) ?_
   refine (Ab (hM9.k1.trans hx9))<|(Qy)<|(g8)<|(Qf 204)<|(Qy)<|(QV 18 8) ?_
   refine (Ab (hM9.k2.trans hy9))<|(Qy)<|(QT)<|(Qy)<|(QF)<|(QT)<|(gh) ?_
   exact ⟨_, rfl, yt⟩
theorem zmv (l : LN) (c : Nat) (hl : By l) (hc : c < 256) (w : World) : (callFunc 195 #[sv l, by8 c]).run Tryz.prog w = .ok (.value (ixv (ixb l c))) w := by
 rw [run_callFunc_extern Tryz.func195 (by kernel_rfl) (by kernel_rfl) (by kernel_rfl) (e := Extern.BytealgIndexByte.indexByte) (by kernel_rfl), Lib.run_indexByteString]
 have h := z2s hl hc
 rw [← h]
 simp [y5, Result.andThen]
theorem Vn (l : LN) (c : Nat) (hl : By l) (hc : c < 256) : Fp G 145 #[sv l, by8 c] (ixv (ixb l c)) := by
 refine Qf1 Tryz.func145 ?_
 refine (gb)<|(g5)<|(Qm) ?_
 refine vL rfl (zmv l c hl hc) rfl rfl ?_
 refine (gh) ?_
 exact ⟨_, rfl, yt⟩
theorem z1L (l : LN) (c : Nat) (hl : By l) (hc : c < 256) : Fp G 95 #[sv l, sv [c]] (ixv (ixb l c)) := by
 refine Qf1 Tryz.func95 ?_
 refine (gb)<|(g5)<|(QU) ?_
 refine (Av (ii 1))<|(g3)<|Qs<|Qb<|(g4) ?_
 refine zW [(0, _), (1, _), (4, _), (5, _), (14, _), (15, _)] [(16, .bool (decide ([c] = l)))] [] ⟨rfl, rfl, rfl, rfl, rfl, rfl, trivial⟩ trivial ?_ ?_
 ·skip
  refine (Qm)<|(Qc)<|(Qm) ?_
  refine zM (fun hb0 => ?_) (fun hb0 => ?_)
  ·skip
   refine (gz)<|(QT)<|(g3) ?_
   exact ⟨⟨rfl, rfl, rfl, rfl, rfl, rfl, trivial⟩, ⟨zf (by first | exact absurd hb0 (by decide) | rfl), trivial⟩, trivial⟩
  ·skip
   refine (Qy)<|(gk) ?_
   refine xt rfl rfl rfl (by simpa using hc) hl ?_
   refine (QF)<|(g3) ?_
   exact ⟨⟨rfl, rfl, rfl, rfl, rfl, rfl, trivial⟩, ⟨zf (by first | exact absurd hb0 (by decide) | rfl), trivial⟩, trivial⟩
 ·simp only [zB]
  refine ze rfl ?_ ?_
  ·intro hc0
   have hc0 := of_decide_eq_true hc0
   refine (gw) ?_
   first | (rw [← hc0, show ixb [c] c = some 0 by rw [ixb, if_pos rfl]]) | skip
   exact ⟨_, rfl, yt⟩
  ·intro hc0
   refine (g5)<|(Qc)<|(Qat)<|(g3)<|(Qct)<|(g5)<|(Qm) ?_
   refine yP (Uu 9) rfl rfl rfl hc rfl ?_
   refine (Ca (Vn l c hl hc))<|(gh) ?_
   first | (rw [← hc0, show ixb [c] c = some 0 by rw [ixb, if_pos rfl]]) | skip
   exact ⟨_, rfl, yt⟩
theorem zie (l : LN) (c : Nat) (hl : By l) (hc : c < 256) (hz : l.length ≤ 4294967296) : Fp G 191 #[sv l, sv [c]] (.tuple #[sv (xI l c), sv (XP l c), .bool (ixb l c).isSome]) := by
 refine Qf3 Tryz.func191 ?_
 refine (g4) ?_
 refine y8 (v := sv []) rfl rfl ?_
 refine y8 (v := sv []) rfl rfl ?_
 refine (g3)<|Qs<|Qs ?_
 rcases hi : ixb l c with _ | i
 ·skip
  refine Qp<|(ga) ?_
  refine (Ca (z1L l c hl hc)) ?_
  refine zi (congrArg ixv hi) ?_
  refine (gj)<|(QE)<|Qn ?_
  refine ze rfl ?_ ?_
  ·intro hc0
   exact absurd (of_decide_eq_true hc0) (by decide)
  ·intro hc0
   rw [show xI l c = l by rw [xI, hi], show XP l c = [] by rw [XP, hi]]
   refine Qk<|(g5)<|(Qa) ?_
   refine y8 (v := sv []) rfl rfl ?_
   refine (gh) ?_
   exact ⟨_, _, _, rfl, yt, yt, yt⟩
 ·skip
  refine Qp<|(ga) ?_
  refine (Ca (z1L l c hl hc)) ?_
  refine zi (congrArg ixv hi) ?_
  refine (gj)<|(QE)<|Qn ?_
  refine ze rfl ?_ ?_
  ·intro hc0
   refine (gy)<|(ga) ?_
   refine zG 0 i (Uu 9) rfl rfl rfl rfl ⟨_, rfl⟩ (by omega) (by have := (Vq hi).1; omega) rfl ?_
   refine zi (show _ = sv (xI l c) by rw [xI, hi]; rfl) ?_
   refine (ga)<|(Qm)<|(QU) ?_
   refine (Av (ii 1)) ?_
   refine zT rfl rfl rfl (by have := (Vq hi).1; omega) ?_
   refine zG (i + 1) l.length (Uu 9) rfl rfl rfl ⟨_, rfl⟩ rfl (by have := (Vq hi).1; omega) (by omega) rfl ?_
   refine zi (show _ = sv (XP l c) by rw [XP, hi]; exact congrArg sv (List.take_of_length_le (by simp))) ?_
   refine (Qa)<|(gr) ?_
   exact ⟨_, _, _, rfl, yt, yt, yt⟩
  ·intro hc0
   exact absurd (of_decide_eq_false hc0) (by omega)
theorem z9R (l : LN) (c : Nat) (hl : By l) (hc : c < 256) (hz : l.length ≤ 4294967296) : Fp G 138 #[sv l, sv [c]] (.tuple #[sv (xI l c), sv (XP l c), .bool (ixb l c).isSome]) := by
 refine Qf3 Tryz.func138 ?_
 refine (g4) ?_
 refine y8 (v := sv []) rfl rfl ?_
 refine y8 (v := sv []) rfl rfl ?_
 refine (gj)<|(Qm) ?_
 refine (Ca (zie l c hl hc hz))<|(g9)<|(Qx)<|(Qa)<|(gr) ?_
 exact ⟨_, _, _, rfl, yt, yt, yt⟩
theorem zaO (l p : LN) (hl : By l) (hp : By p) : Fp G 189 #[sv l, sv p] (.bool (ZK l p)) := by
 refine Qf1 Tryz.func189 ?_
 refine (gb)<|(g4) ?_
 refine zW [(0, _), (1, _)] [(4, .bool (ZK l p))] [] ⟨rfl, rfl, trivial⟩ trivial ?_ ?_
 ·skip
  refine (Qm)<|(QU)<|(Qm)<|(QU)<|(QE)<|(Qm) ?_
  refine zM (b := decide ((p.length : Int) ≤ (l.length : Int))) (fun hb0 => ?_) (fun hb0 => ?_)
  ·skip
   refine (Qy)<|(gk)<|(QU)<|(Qy) ?_
   refine zG 0 p.length (Uu 9) rfl rfl rfl rfl ⟨_, rfl⟩ (by omega) (by have := of_decide_eq_true hb0; omega) rfl ?_
   refine (Av (sv (l.take p.length)))<|(Qy)<|(g8) ?_
   refine xt rfl rfl rfl (fun b hb => hl b (List.mem_of_mem_take hb)) hp ?_
   refine (QT)<|(g3) ?_
   exact ⟨⟨rfl, rfl, trivial⟩, ⟨zf (by rw [ZK, hb0] <;> rfl), trivial⟩, trivial⟩
  ·skip
   refine (gm)<|(g6)<|(QF)<|(g3) ?_
   exact ⟨⟨rfl, rfl, trivial⟩, ⟨zf (by rw [ZK, hb0] <;> rfl), trivial⟩, trivial⟩
 ·simp only [zB]
  refine Qr ?_
  exact ⟨_, rfl, yt⟩
theorem z8s (l p : LN) (hl : By l) (hp : By p) (hz : l.length ≤ 4294967296) : Fp G 190 #[sv l, sv p] (.bool (WL l p)) := by
 refine Qf1 Tryz.func190 ?_
 refine (gb)<|(g4) ?_
 refine zW [(0, _), (1, _)] [(4, .bool (WL l p))] [] ⟨rfl, rfl, trivial⟩ trivial ?_ ?_
 ·skip
  refine (Qm)<|(QU)<|(Qm)<|(QU)<|(QE)<|(Qm) ?_
  refine zM (b := decide ((p.length : Int) ≤ (l.length : Int))) (fun hb0 => ?_) (fun hb0 => ?_)
  ·skip
   refine (Qy)<|(gk)<|(QU)<|(Qy)<|(g8)<|(QU)<|(Qy) ?_
   refine yy rfl rfl rfl (by omega) (by have := of_decide_eq_true hb0; omega) ?_
   refine (Qy) ?_
   refine zG (l.length - p.length) l.length (Uu 9) rfl rfl rfl ⟨_, rfl⟩ rfl (by omega) (by omega) rfl ?_
   refine zi (congrArg sv (show (l.drop (l.length - p.length)).take (l.length - (l.length - p.length)) = l.drop (l.length - p.length) from List.take_of_length_le (by simp))) ?_
   refine (Qy)<|(g8) ?_
   refine xt rfl rfl rfl (fun b hb => hl b (List.mem_of_mem_drop hb)) hp ?_
   refine (QT)<|(g3) ?_
   exact ⟨⟨rfl, rfl, trivial⟩, ⟨zf (by rw [WL, hb0] <;> rfl), trivial⟩, trivial⟩
  ·skip
   refine (gm)<|(gm)<|(Qo)<|(QF)<|(g3) ?_
   exact ⟨⟨rfl, rfl, trivial⟩, ⟨zf (by rw [WL, hb0] <;> rfl), trivial⟩, trivial⟩
 ·simp only [zB]
  refine Qr ?_
  exact ⟨_, rfl, yt⟩
theorem z8y (l p : LN) (hl : By l) (hp : By p) : Fp G 136 #[sv l, sv p] (.tuple #[sv (xD l p), .bool (ZK l p)]) := by
 refine Qf2 Tryz.func136 ?_
 refine (g4) ?_
 refine y8 (v := sv []) rfl rfl ?_
 refine (gx)<|(Qm) ?_
 refine (Ca (zaO l p hl hp))<|(Q0)<|Qn ?_
 refine ze rfl ?_ ?_
 ·intro hc0
  have hh : ZK l p = false := by simpa using hc0
  rw [show xD l p = l by rw [xD, if_neg (by rw [hh]; decide)], hh]
  refine (g5)<|(gr) ?_
  exact ⟨_, _, rfl, yt, yt⟩
 ·intro hc0
  have hh : ZK l p = true := by simpa using hc0
  have hlen := (z5v hh).1
  rw [show xD l p = l.drop p.length by rw [xD, if_pos hh], hh]
  refine Qk<|(g5)<|(Qm)<|(QU) ?_
  refine zG p.length l.length (Uu 9) rfl rfl rfl ⟨_, rfl⟩ rfl (by omega) (by omega) rfl ?_
  refine zi (congrArg sv (show (l.drop p.length).take (l.length - p.length) = l.drop p.length from List.take_of_length_le (by simp))) ?_
  refine (gr) ?_
  exact ⟨_, _, rfl, yt, yt⟩
theorem Zz (l p : LN) (hl : By l) (hp : By p) : Fp G 87 #[sv l, sv p] (.tuple #[sv (xD l p), .bool (ZK l p)]) := by
 refine Qf2 Tryz.func87 ?_
 refine (g4) ?_
 refine y8 (v := sv []) rfl rfl ?_
 refine (gj)<|(Qm) ?_
 refine (Ca (z8y l p hl hp))<|(g9)<|(gr) ?_
 exact ⟨_, _, rfl, yt, yt⟩
theorem z8x (l p : LN) (hl : By l) (hp : By p) (hz : l.length ≤ 4294967296) : Fp G 137 #[sv l, sv p] (.tuple #[sv (z4Z l p), .bool (WL l p)]) := by
 refine Qf2 Tryz.func137 ?_
 refine (g4) ?_
 refine y8 (v := sv []) rfl rfl ?_
 refine (gx)<|(Qm) ?_
 refine (Ca (z8s l p hl hp hz))<|(Q0)<|Qn ?_
 refine ze rfl ?_ ?_
 ·intro hc0
  have hh : WL l p = false := by simpa using hc0
  rw [show z4Z l p = l by rw [z4Z, if_neg (by rw [hh]; decide)], hh]
  refine (g5)<|(gr) ?_
  exact ⟨_, _, rfl, yt, yt⟩
 ·intro hc0
  have hh : WL l p = true := by simpa using hc0
  have hlen := (zhe hh).1
  rw [show z4Z l p = l.take (l.length - p.length) by rw [z4Z, if_pos hh], hh]
  refine Qk<|(g5)<|(Qm)<|(QU)<|(Qm)<|(QU) ?_
  refine yy rfl rfl rfl (by omega) (by omega) ?_
  refine zG 0 (l.length - p.length) (Uu 9) rfl rfl rfl rfl ⟨_, rfl⟩ (by omega) (by omega) rfl ?_
  refine (Av (sv (l.take (l.length - p.length))))<|(gr) ?_
  exact ⟨_, _, rfl, yt, yt⟩
theorem Xj (l p : LN) (hl : By l) (hp : By p) (hz : l.length ≤ 4294967296) : Fp G 88 #[sv l, sv p] (.tuple #[sv (z4Z l p), .bool (WL l p)]) := by
 refine Qf2 Tryz.func88 ?_
 refine (g4) ?_
 refine y8 (v := sv []) rfl rfl ?_
 refine (gj)<|(Qm) ?_
 refine (Ca (z8x l p hl hp hz))<|(g9)<|(gr) ?_
 exact ⟨_, _, rfl, yt, yt⟩
theorem z5Z (w : LN) (hw : By w) : Fp G 139 #[sv w] (.tuple #[ii (if wK w = true then 0 else plD w), .bool (!(wK w))]) := by
 have hcb : ∀ b ∈ xD w PSK, b < 256 := fun b hb => hw b (X8 hb)
 refine Qf2 Tryz.func139 ?_
 refine (g4)<|(g7)<|(g5) ?_
 refine (Ca (Zz w PSK hw (by decide)))<|(ge)<|(g7)<|(gu) ?_
 refine zW [(0, _), (2, _), (3, _), (4, _), (5, _), (6, _), (7, _), (8, _), (9, _), (10, _)] [(27, .bool (wK w))] [] ⟨rfl, rfl, rfl, rfl, rfl, rfl, rfl, rfl, rfl, rfl, trivial⟩ trivial ?_ ?_
 ·skip
  refine (Qm)<|(Q0)<|(Qm) ?_
  refine zM (b := !(ZK w PSK)) (fun hb0 => ?_) (fun hb0 => ?_)
  ·skip
   refine (gz)<|(QT)<|(Qm)<|(gz)<|(QT)<|(Qm)<|(gz)<|(QT)<|Qn ?_
   exact ⟨⟨rfl, rfl, rfl, rfl, rfl, rfl, rfl, rfl, rfl, rfl, trivial⟩, ⟨zf (by rw [wK, hb0] <;> rfl), trivial⟩, trivial⟩
  ·skip
   refine (Qy)<|(g8)<|(QU)<|(Qy)<|(QN)<|(QF)<|(Qm) ?_
   refine zM (b := decide (((xD w PSK).length : Int) ≠ 1)) (fun hb1 => ?_) (fun hb1 => ?_)
   ·skip
    refine (gz)<|(QT)<|(Qm)<|(gz)<|(QT)<|Qn ?_
    exact ⟨⟨rfl, rfl, rfl, rfl, rfl, rfl, rfl, rfl, rfl, rfl, trivial⟩, ⟨zf (by rw [wK, hb0, hb1] <;> rfl), trivial⟩, trivial⟩
   ·skip
    refine (Qy)<|(g8) ?_
    refine yP (Uu 9) rfl rfl (wb (l := (xD w PSK)) (show 0 < (xD w PSK).length by have := of_decide_eq_false hb1; omega)) (xC hcb _) rfl ?_
    refine (Qy)<|(Ql)<|(QF)<|(Qm) ?_
    refine zM (b := decide (((xD w PSK).getD 0 0 : Int) < 48)) (fun hb2 => ?_) (fun hb2 => ?_)
    ·skip
     refine (gz)<|(QT)<|Qn ?_
     exact ⟨⟨rfl, rfl, rfl, rfl, rfl, rfl, rfl, rfl, rfl, rfl, trivial⟩, ⟨zf (by rw [wK, hb0, hb1, hb2] <;> rfl), trivial⟩, trivial⟩
    ·skip
     refine (Qy)<|(g8) ?_
     refine yP (Uu 9) rfl rfl (wb (l := (xD w PSK)) (show 0 < (xD w PSK).length by have := of_decide_eq_false hb1; omega)) (xC hcb _) rfl ?_
     refine (Qy)<|(QG)<|(QF)<|Qn ?_
     exact ⟨⟨rfl, rfl, rfl, rfl, rfl, rfl, rfl, rfl, rfl, rfl, trivial⟩, ⟨zf (by rw [wK, hb0, hb1, hb2] <;> rfl), trivial⟩, trivial⟩
 ·simp only [zB]
  refine ze rfl ?_ ?_
  ·intro hc0
   rw [if_pos hc0, hc0]
   refine (g4)<|(gr) ?_
   exact ⟨_, _, rfl, yt, yt⟩
  ·intro hc0
   have hin := zmD hc0
   have hd9 := xC hcb 0
   rw [if_neg (by rw [hc0]; decide), hc0]
   refine Qk<|(g5) ?_
   refine yP (Uu 9) rfl rfl (wb (l := (xD w PSK)) (show 0 < (xD w PSK).length by have := hin.1; omega)) (xC hcb _) rfl ?_
   refine ziz (q := 48) rfl rfl rfl (by omega) ?_
   refine zi (congrArg by8 (show _ = plD w by change ((xD w PSK).getD 0 0 + 256 - 48) % 256 = (xD w PSK).getD 0 0 - 48; omega)) ?_
   refine zhf (Uu 5) (Uu 3) rfl rfl rfl (by unfold plD; omega) ?_
   refine (gr) ?_
   exact ⟨_, _, rfl, yt, yt⟩
theorem z7Y (ml : LN) (hm : By ml) (hz : ml.length ≤ 4294967296) (hal : xx (yl ml 43) = none) : Fp G 89 #[sv ml] (.tuple #[zV, .bool false]) := by
 refine Qf2 Tryz.func89 ?_
 refine (g4)<|(g7)<|(gb)<|Qb ?_
 refine QzK [] [] (fun kk E m => ∃ (S : List Nat) (pre : List Nat) (w4 : Value) (oz : Option Blk), kk = S.length ∧ E = [(0, sv S), (4, w4)] ∧ m = [(50, oz)] ∧ (∀ b ∈ S, b < 256) ∧ (S.length ≤ 4294967296) ∧ (xx (yl ml 43) = z17 pre (xx (yl S 43))) ∧ (OwnS 3 1 w4 (pre.take 5).length (iis (pre.take 5)) oz.toList)) ⟨ml, [], zV, none, rfl, rfl, rfl, hm, hz, (z66 _), (zw (ym _ _) (by simp) (by simp))⟩ ⟨rfl, rfl, trivial⟩ ⟨rfl, trivial⟩ ?_
 rintro kk E m ⟨S, pre, w4, oz, rfl, rfl, rfl, hf0_0, hf0_1, hf0_2, hf0_3⟩
 simp only [zB, zA]
 refine Qb<|(g5) ?_
 refine (Ca (z9R S 43 hf0_0 (by decide) hf0_1))<|(ge)<|(Qx)<|(Qa)<|(g7)<|(g5) ?_
 refine (Ca (z5Z (xI S 43) (fun b hb => hf0_0 b (z4V hb))))<|(ge)<|(gv)<|(Q0)<|Qn ?_
 refine ze rfl ?_ ?_
 ·intro hc0
  refine (g4)<|(gr) ?_
  exact ⟨_, _, rfl, yt, yt⟩
 ·intro hc0
  have hpb : wK (xI S 43) = false := by simpa using hc0
  refine Qk<|(gc)<|(QC hf0_3.shows)<|(QL)<|Qn ?_
  refine ze rfl ?_ ?_
  ·intro hc1
   have h4 : (pre.take 5).length ≤ 4 := by have := of_decide_eq_true hc1; omega
   refine Qp<|(ga) ?_
   refine zi (show _ = ii (plD (xI S 43)) by show ii (if wK (xI S 43) = true then 0 else plD (xI S 43)) = _; rw [if_neg (by rw [hpb]; decide)]) ?_
   refine zu 0 #[ii (plD (xI S 43))] (Uu 25 rfl) (Uz 3 rfl) (Ub 3 rfl) (by decide) (by decide) rfl (by kernel_rfl) rfl fun r1 => ?_
   refine x9 50 hf0_3 (yX _ _ (by rfl)) rfl (zY 0 rfl ⟨[], trivial⟩) (Uu 25) (Uz 3) (Uy 3) (Ub 3) (by rfl) rfl rfl (z4A _) (by simp only [maxLen]; omega) (by omega) rfl fun v3_1 oz3_1 ho3_1 => ?_
   refine (gx)<|(Q0)<|Qn ?_
   refine ze rfl ?_ ?_
   ·intro hc2
    have hfi := z3F hf0_2 (by simpa using hc2) hpb
    rw [hal] at hfi
    cases hfi
   ·intro hc2
    have hnx := VW hf0_2 (by simpa using hc2) hpb
    refine Qk<|Qp<|(Qm)<|(g3) ?_
    refine QzL ⟨(XP S 43), (pre ++ [plD (xI S 43)]), _, _, rfl, rfl, rfl, (fun b hb => hf0_0 b (WD hb)), (by have := hnx.2; omega), hnx.1, (by first | exact zw ho3_1 (by rw [yI h4]; simp) (by rw [yI h4]; simp [iis]) | exact zw hf0_3 (by rw [Yt h4]) (by rw [Yt h4]))⟩ ⟨rfl, rfl, trivial⟩ ⟨rfl, trivial⟩ ?_
    have := hnx.2
    omega
  ·intro hc1
   have h4 : ¬ (pre.take 5).length ≤ 4 := by have := of_decide_eq_false hc1; omega
   refine Qk<|(gc)<|(Q0)<|Qn ?_
   refine ze rfl ?_ ?_
   ·intro hc2
    have hfi := z3F hf0_2 (by simpa using hc2) hpb
    rw [hal] at hfi
    cases hfi
   ·intro hc2
    have hnx := VW hf0_2 (by simpa using hc2) hpb
    refine Qk<|Qp<|(Qm)<|(g3) ?_
    refine QzL ⟨(XP S 43), (pre ++ [plD (xI S 43)]), _, _, rfl, rfl, rfl, (fun b hb => hf0_0 b (WD hb)), (by have := hnx.2; omega), hnx.1, (by first | exact zw ho3_1 (by rw [yI h4]; simp) (by rw [yI h4]; simp [iis]) | exact zw hf0_3 (by rw [Yt h4]) (by rw [Yt h4]))⟩ ⟨rfl, rfl, trivial⟩ ⟨rfl, trivial⟩ ?_
    have := hnx.2
    omega
theorem zaS (ml : LN) (hm : By ml) (hz : ml.length ≤ 4294967296) (ds : LN) (hal : xx (yl ml 43) = some ds) : Fq G [] 89 #[sv ml] (fun v l1 nw => l1 = [] ∧ ∃ v', v = .tuple #[v', .bool true] ∧ OwnS 3 1 v' (ds.take 5).length (iis (ds.take 5)) nw) := by
 refine QfM Tryz.func89 ?_
 refine (g4)<|(g7)<|(gb)<|Qb ?_
 refine QzK [] [] (fun kk E m => ∃ (S : List Nat) (pre : List Nat) (w4 : Value) (oz : Option Blk), kk = S.length ∧ E = [(0, sv S), (4, w4)] ∧ m = [(50, oz)] ∧ (∀ b ∈ S, b < 256) ∧ (S.length ≤ 4294967296) ∧ (xx (yl ml 43) = z17 pre (xx (yl S 43))) ∧ (OwnS 3 1 w4 (pre.take 5).length (iis (pre.take 5)) oz.toList)) ⟨ml, [], zV, none, rfl, rfl, rfl, hm, hz, (z66 _), (zw (ym _ _) (by simp) (by simp))⟩ ⟨rfl, rfl, trivial⟩ ⟨rfl, trivial⟩ ?_
 rintro kk E m ⟨S, pre, w4, oz, rfl, rfl, rfl, hf0_0, hf0_1, hf0_2, hf0_3⟩
 simp only [zB, zA]
 refine Qb<|(g5) ?_
 refine (Ca (z9R S 43 hf0_0 (by decide) hf0_1))<|(ge)<|(Qx)<|(Qa)<|(g7)<|(g5) ?_
 refine (Ca (z5Z (xI S 43) (fun b hb => hf0_0 b (z4V hb))))<|(ge)<|(gv)<|(Q0)<|Qn ?_
 refine ze rfl ?_ ?_
 ·intro hc0
  have hfi := zmg hf0_2 (by simpa using hc0)
  rw [hal] at hfi
  cases hfi
 ·intro hc0
  have hpb : wK (xI S 43) = false := by simpa using hc0
  refine Qk<|(gc)<|(QC hf0_3.shows)<|(QL)<|Qn ?_
  refine ze rfl ?_ ?_
  ·intro hc1
   have h4 : (pre.take 5).length ≤ 4 := by have := of_decide_eq_true hc1; omega
   refine Qp<|(ga) ?_
   refine zi (show _ = ii (plD (xI S 43)) by show ii (if wK (xI S 43) = true then 0 else plD (xI S 43)) = _; rw [if_neg (by rw [hpb]; decide)]) ?_
   refine zu 0 #[ii (plD (xI S 43))] (Uu 25 rfl) (Uz 3 rfl) (Ub 3 rfl) (by decide) (by decide) rfl (by kernel_rfl) rfl fun r1 => ?_
   refine x9 50 hf0_3 (yX _ _ (by rfl)) rfl (zY 0 rfl ⟨[], trivial⟩) (Uu 25) (Uz 3) (Uy 3) (Ub 3) (by rfl) rfl rfl (z4A _) (by simp only [maxLen]; omega) (by omega) rfl fun v3_1 oz3_1 ho3_1 => ?_
   refine (gx)<|(Q0)<|Qn ?_
   refine ze rfl ?_ ?_
   ·intro hc2
    have hfi := z3F hf0_2 (by simpa using hc2) hpb
    rw [hal] at hfi
    injection hfi with hfi
    refine (g5)<|(gr) ?_
    exact ⟨_, _, _, _, 50, rfl, yt, yt, (by rw [hfi]; first | exact zw ho3_1 (by rw [yI h4]; simp) (by rw [yI h4]; simp [iis]) | exact zw hf0_3 (by rw [Yt h4]) (by rw [Yt h4])), rfl⟩
   ·intro hc2
    have hnx := VW hf0_2 (by simpa using hc2) hpb
    refine Qk<|Qp<|(Qm)<|(g3) ?_
    refine QzL ⟨(XP S 43), (pre ++ [plD (xI S 43)]), _, _, rfl, rfl, rfl, (fun b hb => hf0_0 b (WD hb)), (by have := hnx.2; omega), hnx.1, (by first | exact zw ho3_1 (by rw [yI h4]; simp) (by rw [yI h4]; simp [iis]) | exact zw hf0_3 (by rw [Yt h4]) (by rw [Yt h4]))⟩ ⟨rfl, rfl, trivial⟩ ⟨rfl, trivial⟩ ?_
    have := hnx.2
    omega
  ·intro hc1
   have h4 : ¬ (pre.take 5).length ≤ 4 := by have := of_decide_eq_false hc1; omega
   refine Qk<|(gc)<|(Q0)<|Qn ?_
   refine ze rfl ?_ ?_
   ·intro hc2
    have hfi := z3F hf0_2 (by simpa using hc2) hpb
    rw [hal] at hfi
    injection hfi with hfi
    refine (g5)<|(gr) ?_
    exact ⟨_, _, _, _, 50, rfl, yt, yt, (by rw [hfi]; first | exact zw ho3_1 (by rw [yI h4]; simp) (by rw [yI h4]; simp [iis]) | exact zw hf0_3 (by rw [Yt h4]) (by rw [Yt h4])), rfl⟩
   ·intro hc2
    have hnx := VW hf0_2 (by simpa using hc2) hpb
    refine Qk<|Qp<|(Qm)<|(g3) ?_
    refine QzL ⟨(XP S 43), (pre ++ [plD (xI S 43)]), _, _, rfl, rfl, rfl, (fun b hb => hf0_0 b (WD hb)), (by have := hnx.2; omega), hnx.1, (by first | exact zw ho3_1 (by rw [yI h4]; simp) (by rw [yI h4]; simp [iis]) | exact zw hf0_3 (by rw [Yt h4]) (by rw [Yt h4]))⟩ ⟨rfl, rfl, trivial⟩ ⟨rfl, trivial⟩ ?_
    have := hnx.2
    omega
abbrev MLB (m : Int) : Blk := ⟨1, #[.int .i64 m], 3⟩
theorem Wz {G : Mem} (l : LN) (m : Int) (hl : By l) (hm : 3 ≤ m) (hz : l.length < 4294967281) (w : World) (hG : MemR (MLB m :: G) w) : (callFunc 146 #[sv l, sv PSK]).run Tryz.prog w = .ok (.value (ixv (ixp l))) w := by
 have hc : w.cell? ⟨1, 0, none⟩ = some (.int .i64 m) := (hG _ List.mem_cons_self).2 0 (by simp)
 rw [run_callFunc_extern Tryz.func146 (by kernel_rfl) (by kernel_rfl) (by kernel_rfl) (e := Extern.BytealgIndex.index) (by kernel_rfl), Lib.run_indexString (y5 l) (y5 PSK) w 1 m (by kernel_rfl) hc (by decide) (by have h9 : ((y5 PSK).size : Int) = 3 := rfl; omega) (by simpa [y5, ByteArray.size] using hz)]
 have h := za6 hl
 rw [← h]
 simp [y5, Result.andThen]
theorem z0F (n : Nat) (hn : n ≤ 4294967296) : Fp G 147 #[ii n] (ii ((n + 16) / 8)) := by
 refine Qf1 Tryz.func147 ?_
 refine (gb)<|(g5)<|(Q2 16)<|(Q5 8)<|(gh) ?_
 exact ⟨_, rfl, yt⟩
theorem zh8 : Fp G 196 #[sv PSK] (.tuple #[uw 337003364, uw 1055306571]) := by
 refine Qf2 Tryz.func196 ?_
 refine (g4)<|(g7)<|(gb)<|Qs<|(gb)<|Qb ?_
 refine QzK [(0, _), (2, _), (3, _)] [] (fun kk E m => ∃ (i : Nat) (h : Nat), kk = 3 - i ∧ E = [(4, uw h), (5, ii i)] ∧ m = [] ∧ (i ≤ 3) ∧ ((i = 0 ∧ h = 0) ∨ (i = 1 ∧ h = 112) ∨ (i = 2 ∧ h = 1879093443) ∨ (i = 3 ∧ h = 337003364))) ⟨0, 0, rfl, rfl, rfl, by omega, .inl ⟨rfl, rfl⟩⟩ ⟨rfl, rfl, rfl, rfl, rfl, trivial⟩ trivial ?_
 rintro kk E m ⟨i, h, rfl, rfl, rfl, hf0_0, hf0_1⟩
 simp only [zB, zA]
 refine (gc)<|(Qm)<|(QU) ?_
 refine (Av (ii 3))<|(Ql)<|Qn ?_
 refine (Qcd) (fun hc0=>?_) fun hc0=>?_
 ·have hc0 : i < 3 := by omega
  refine Qk<|Qs<|Qb<|Qp<|(Qm) ?_
  refine Y6 (q := 16777619) rfl rfl rfl  ?_
  refine (ga) ?_
  refine yP (Uu 9) rfl rfl (wb (l := PSK) (show i < 3 by omega)) (xC (by decide) _) rfl ?_
  refine (Qcw) ?_
  refine zi (congrArg uw (Nat.mod_eq_of_lt (Nat.lt_trans (xC (l := PSK) (by decide) i) (by decide)))) ?_
  refine (Qaw)<|(g3)<|Qp<|(Qm)<|(Q2 1)<|(g3) ?_
  refine QzL ⟨i + 1, _, rfl, rfl, rfl, by omega, (by rcases hf0_1 with ⟨rfl, rfl⟩ | ⟨rfl, rfl⟩ | ⟨rfl, rfl⟩ | ⟨rfl, rfl⟩; (right; left; decide); (right; right; left; decide); (right; right; right; decide); (exact absurd hc0 (by decide)))⟩ ⟨rfl, rfl, rfl, rfl, rfl, trivial⟩ trivial ?_
  omega
 ·have hz0 : i = 3 := by omega
  refine Qe<|(g4)<|(gv)<|(QU) ?_
  refine (Av (ii 3))<|(g3)<|Qb ?_
  refine QzK [(0, _), (2, _), (3, _), (4, _), (5, _)] [] (fun kk E m => ∃ (q : Nat) (pw : Nat) (sq : Nat), kk = 2 * q ∧ E = [(6, uw pw), (7, uw sq), (8, ii q)] ∧ m = [] ∧ ((q = 3 ∧ pw = 1 ∧ sq = 16777619) ∨ (q = 1 ∧ pw = 16777619 ∧ sq = 637696617) ∨ (q = 0 ∧ pw = 1055306571 ∧ sq = 1345077009))) ⟨3, 1, 16777619, rfl, rfl, rfl, .inl ⟨rfl, rfl, rfl⟩⟩ ⟨rfl, rfl, rfl, rfl, rfl, rfl, rfl, rfl, trivial⟩ trivial ?_
  rintro kk E m ⟨q, pw, sq, rfl, rfl, rfl, hf1_0⟩
  simp only [zB, zA]
  refine (gc)<|(QG)<|Qn ?_
  refine (Qcd) (fun hc1=>?_) fun hc1=>?_
  ·refine Qk<|Qs<|Qb<|Qs<|Qs<|Qp<|(Qm) ?_
   refine zdJ (by omega) rfl rfl rfl ?_
   refine (QN)<|Qn ?_
   refine (Qcd) (fun hc2=>?_) fun hc2=>?_
   ·refine Qp<|(Qm)<|(Qm) ?_
    refine Y6 rfl rfl rfl  ?_
    refine (g3)<|Qp<|(ga) ?_
    refine Y6 rfl rfl rfl  ?_
    refine (g3)<|Qp<|(Qm) ?_
    refine Zg (s := 1) rfl rfl rfl (by omega) ?_
    refine (g3) ?_
    refine QzL ⟨q / 2, _, _, rfl, rfl, rfl, (by rcases hf1_0 with ⟨rfl, rfl, rfl⟩ | ⟨rfl, rfl, rfl⟩ | ⟨rfl, rfl, rfl⟩; (first | (right; left; decide) | exact absurd hc2 (by decide)); (first | (right; right; decide) | exact absurd hc2 (by decide)); (exact absurd hc1 (by decide)))⟩ ⟨rfl, rfl, rfl, rfl, rfl, rfl, rfl, rfl, trivial⟩ trivial ?_
    omega
   ·refine Qk<|Qp<|(Qm)<|(Qm) ?_
    refine Y6 rfl rfl rfl  ?_
    refine (g3)<|Qp<|(Qm) ?_
    refine Zg (s := 1) rfl rfl rfl (by omega) ?_
    refine (g3) ?_
    refine QzL ⟨q / 2, _, _, rfl, rfl, rfl, (by rcases hf1_0 with ⟨rfl, rfl, rfl⟩ | ⟨rfl, rfl, rfl⟩ | ⟨rfl, rfl, rfl⟩; (first | (right; left; decide) | exact absurd hc2 (by decide)); (first | (right; right; decide) | exact absurd hc2 (by decide)); (exact absurd hc1 (by decide)))⟩ ⟨rfl, rfl, rfl, rfl, rfl, rfl, rfl, rfl, trivial⟩ trivial ?_
    omega
  ·refine Qe<|Qs<|Qp<|(Qm)<|(Qm)<|(Qa)<|(Qa)<|Qn<|Qr ?_
   obtain ⟨rfl, rfl⟩ : h = 337003364 ∧ pw = 1055306571 := by omega
   exact ⟨_, _, rfl, yt, yt⟩
theorem Xc (l : LN) (hl : By l) (h3 : 3 ≤ l.length) (hz : l.length < 4294967281) : Fp G 148 #[sv l, sv PSK] (ixv (ixp l)) := by
 refine Qf1 Tryz.func148 ?_
 refine (gb)<|(g5) ?_
 refine (Ca zh8)<|(ge)<|(g7)<|(g5)<|(QU) ?_
 refine (Av (ii 3))<|(g3)<|(gb)<|Qs<|(gb)<|Qb ?_
 refine QzK [(0, _), (1, _), (4, _), (5, _), (6, _), (7, _)] [] (fun kk E m => ∃ (i : Nat) (h : Nat), kk = 3 - i ∧ E = [(8, uw h), (9, ii i)] ∧ m = [] ∧ (i ≤ 3) ∧ (h = VN l i)) ⟨0, 0, rfl, rfl, rfl, by omega, (by rw [VN, if_pos rfl])⟩ ⟨rfl, rfl, rfl, rfl, rfl, rfl, rfl, rfl, trivial⟩ trivial ?_
 rintro kk E m ⟨i, h, rfl, rfl, rfl, hf0_0, hf0_1⟩
 simp only [zB, zA]
 refine (gc)<|(Qm)<|(Ql)<|Qn ?_
 refine (Qcd) (fun hc0=>?_) fun hc0=>?_
 ·have hc0 : i < 3 := by omega
  refine Qk<|Qs<|Qb<|Qp<|(Qm) ?_
  refine Y6 (q := 16777619) rfl rfl rfl  ?_
  refine (ga) ?_
  refine yP (Uu 9) rfl rfl (wb (show i < l.length by omega)) (xC hl _) rfl ?_
  refine (Qcw) ?_
  refine zi (congrArg uw (Nat.mod_eq_of_lt (Nat.lt_trans (xC hl (i)) (by decide)))) ?_
  refine (Qaw)<|(g3)<|Qp<|(Qm)<|(Q2 1)<|(g3) ?_
  refine QzL ⟨i + 1, _, rfl, rfl, rfl, by omega, (by rw [hf0_1]; exact zar hc0 hl)⟩ ⟨rfl, rfl, rfl, rfl, rfl, rfl, rfl, rfl, trivial⟩ trivial ?_
  omega
 ·have hz0 : i = 3 := by omega
  have hg0 : h = hW l (3 - 3) := by rw [hf0_1, hz0]; exact ze4 l
  refine Qe<|(gu) ?_
  refine zW [(0, _), (1, _), (4, _), (5, _), (6, _), (7, _), (8, _), (9, _), (18, _), (19, _), (20, _)] [(39, .bool (decide (oc l 0)))] [] ⟨rfl, rfl, rfl, rfl, rfl, rfl, rfl, rfl, rfl, rfl, rfl, trivial⟩ trivial ?_ ?_
  ·skip
   refine (ga)<|(Qc)<|(Qm) ?_
   refine zM (fun hb0 => ?_) (fun hb0 => ?_)
   ·skip
    refine (Qy)<|(gk) ?_
    refine zG 0 3 (Uu 9) rfl rfl rfl rfl ⟨_, rfl⟩ (by omega) (by omega) rfl ?_
    refine (Qy)<|(g8) ?_
    refine xt rfl rfl rfl (fun b hb => hl b (List.mem_of_mem_drop (List.mem_of_mem_take hb))) (by decide) ?_
    refine (QT)<|Qn ?_
    exact ⟨⟨rfl, rfl, rfl, rfl, rfl, rfl, rfl, rfl, rfl, rfl, rfl, trivial⟩, ⟨zf (by first | exact (decide_eq_false (fun e => of_decide_eq_false hb0 (by rw [hg0, z0e e]))).symm | rfl), trivial⟩, trivial⟩
   ·skip
    refine (gm)<|(Qo)<|(QF)<|Qn ?_
    exact ⟨⟨rfl, rfl, rfl, rfl, rfl, rfl, rfl, rfl, rfl, rfl, rfl, trivial⟩, ⟨zf (by first | exact (decide_eq_false (fun e => of_decide_eq_false hb0 (by rw [hg0, z0e e]))).symm | rfl), trivial⟩, trivial⟩
  ·simp only [zB]
   refine ze rfl ?_ ?_
   ·intro hc1
    have hoc := of_decide_eq_true hc1
    have hfin := ZN hoc (fun j hj => absurd hj (Nat.not_lt_zero j))
    refine (gw) ?_
    rw [hfin]
    exact ⟨_, rfl, yt⟩
   ·intro hc1
    have hn0 := of_decide_eq_false hc1
    refine Qk<|(gc)<|(g3)<|Qb ?_
    refine QzK [(0, _), (1, _), (5, _), (6, _), (7, _), (9, _)] [] (fun kk E m => ∃ (k : Nat) (g : Nat), kk = l.length - k ∧ E = [(8, uw g), (10, ii k)] ∧ m = [] ∧ (3 ≤ k ∧ k ≤ l.length) ∧ (g = hW l (k - 3)) ∧ (∀ j, j + 3 ≤ k → ¬ oc l j)) ⟨3, h, rfl, rfl, rfl, ⟨by omega, h3⟩, hg0, fun j hj => by rw [show j = 0 by omega]; exact hn0⟩ ⟨rfl, rfl, rfl, rfl, rfl, rfl, rfl, rfl, trivial⟩ trivial ?_
    rintro kk E m ⟨k, g, rfl, rfl, rfl, hf1_0, hf1_1, hf1_2⟩
    simp only [zB, zA]
    refine (gc)<|(Qm)<|(QU)<|(Ql)<|Qn ?_
    refine (Qcd) (fun hc2=>?_) fun hc2=>?_
    ·refine Qk<|Qb<|Qs<|Qp<|(Qm) ?_
     refine Y6 (q := 16777619) rfl rfl rfl  ?_
     refine (gj)<|(ga) ?_
     refine yP (Uu 9) rfl rfl (wb (show k < l.length by omega)) (xC hl _) rfl ?_
     refine (Qcw) ?_
     refine zi (congrArg uw (Nat.mod_eq_of_lt (Nat.lt_trans (xC hl (k)) (by decide)))) ?_
     refine (Qaw)<|(gj)<|(ga)<|(ga) ?_
     refine yy rfl rfl rfl (by omega) (by omega) ?_
     refine yP (Uu 9) rfl rfl (wb (show k - 3 < l.length by omega)) (xC hl _) rfl ?_
     refine (Qcw) ?_
     refine zi (congrArg uw (Nat.mod_eq_of_lt (Nat.lt_trans (xC hl (k - 3)) (by decide)))) ?_
     refine Y6 rfl rfl rfl  ?_
     refine zj1 rfl rfl rfl (by omega) ?_
     refine zir fun g2 hg2 => ?_
     refine (gj) ?_
     have hg2 : g2 = hW l (k + 1 - 3) := by rw [hg2]; rw [hf1_1]; exact ziZ hf1_0.1
     refine (Q2 1)<|(g3)<|(g4) ?_
     refine zW [(0, _), (1, _), (5, _), (6, _), (7, _), (8, _), (9, _), (10, _), (41, _), (42, _), (43, _), (44, _), (45, _), (46, _), (47, _), (48, _), (49, _), (50, _), (51, _), (52, _), (53, _), (54, _), (55, _), (56, _), (57, _), (58, _), (59, _), (60, _), (61, _), (62, _), (63, _), (64, _)] [(77, .bool (decide (oc l (k + 1 - 3))))] [] ⟨rfl, rfl, rfl, rfl, rfl, rfl, rfl, rfl, rfl, rfl, rfl, rfl, rfl, rfl, rfl, rfl, rfl, rfl, rfl, rfl, rfl, rfl, rfl, rfl, rfl, rfl, rfl, rfl, rfl, rfl, rfl, rfl, trivial⟩ trivial ?_ ?_
     ·skip
      refine (ga)<|(Qc)<|(Qm) ?_
      refine zM (fun hb1 => ?_) (fun hb1 => ?_)
      ·skip
       refine (Qy)<|(gk)<|(g8) ?_
       refine yy rfl rfl rfl (by omega) (by omega) ?_
       refine (Qy)<|(g8) ?_
       refine zG (k + 1 - 3) (k + 1) (Uu 9) rfl rfl rfl ⟨_, rfl⟩ ⟨_, rfl⟩ (by omega) (by omega) rfl ?_
       refine zi (congrArg (fun z => sv ((l.drop (k + 1 - 3)).take z)) (show k + 1 - (k + 1 - 3) = 3 by omega)) ?_
       refine (Qy)<|(g8) ?_
       refine xt rfl rfl rfl (fun b hb => hl b (List.mem_of_mem_drop (List.mem_of_mem_take hb))) (by decide) ?_
       refine (QT)<|Qn ?_
       exact ⟨⟨rfl, rfl, rfl, rfl, rfl, rfl, rfl, rfl, rfl, rfl, rfl, rfl, rfl, rfl, rfl, rfl, rfl, rfl, rfl, rfl, rfl, rfl, rfl, rfl, rfl, rfl, rfl, rfl, rfl, rfl, rfl, rfl, trivial⟩, ⟨zf (by first | exact (decide_eq_false (fun e => of_decide_eq_false hb1 (by rw [hg2, z0e e]))).symm | rfl), trivial⟩, trivial⟩
      ·skip
       refine (gm)<|(gm)<|(QF)<|Qn ?_
       exact ⟨⟨rfl, rfl, rfl, rfl, rfl, rfl, rfl, rfl, rfl, rfl, rfl, rfl, rfl, rfl, rfl, rfl, rfl, rfl, rfl, rfl, rfl, rfl, rfl, rfl, rfl, rfl, rfl, rfl, rfl, rfl, rfl, rfl, trivial⟩, ⟨zf (by first | exact (decide_eq_false (fun e => of_decide_eq_false hb1 (by rw [hg2, z0e e]))).symm | rfl), trivial⟩, trivial⟩
     ·simp only [zB]
      refine ze rfl ?_ ?_
      ·intro hc3
       have hoc := of_decide_eq_true hc3
       have hfin := ZN hoc (fun j hj => hf1_2 j (by omega))
       refine (g5)<|(Qm) ?_
       refine yy rfl rfl rfl (by omega) (by omega) ?_
       refine (gh) ?_
       rw [hfin]
       exact ⟨_, rfl, yt⟩
      ·intro hc3
       have hn2 := of_decide_eq_false hc3
       refine Qk ?_
       refine QzL ⟨k + 1, _, rfl, rfl, rfl, (by omega), hg2, (fun j hj => by rcases (by omega : j + 3 ≤ k ∨ j = k + 1 - 3) with h9 | rfl; exact hf1_2 j h9; exact hn2)⟩ ⟨rfl, rfl, rfl, rfl, rfl, rfl, rfl, rfl, trivial⟩ trivial ?_
       omega
    ·have hfin := YS (l := l) (fun j e => hf1_2 j (by have := z0C e; omega) e)
     refine Qe<|(gw) ?_
     rw [hfin]
     exact ⟨_, rfl, yt⟩
theorem z7b (l : LN) (m : Int) (hl : By l) (hz : l.length < 4294967281) : Fp (MLB m :: G) 95 #[sv l, sv PSK] (ixv (ixp l)) := by
 refine Qf1 Tryz.func95 ?_
 refine (gb)<|(g5)<|(QU) ?_
 refine (Av (ii 3))<|(g3)<|Qs<|Qb<|(g4) ?_
 refine zW [(0, _), (1, _), (4, _), (5, _), (14, _), (15, _)] [(16, .bool (decide (PSK = l)))] [] ⟨rfl, rfl, rfl, rfl, rfl, rfl, trivial⟩ trivial ?_ ?_
 ·skip
  refine (Qm)<|(Qc)<|(Qm) ?_
  refine zM (fun hb0 => ?_) (fun hb0 => ?_)
  ·skip
   refine (gz)<|(QT)<|(g3) ?_
   exact ⟨⟨rfl, rfl, rfl, rfl, rfl, rfl, trivial⟩, ⟨zf (by first | exact absurd hb0 (by decide) | rfl), trivial⟩, trivial⟩
  ·skip
   refine (Qy)<|(gk) ?_
   refine xt rfl rfl rfl (by decide) hl ?_
   refine (QF)<|(g3) ?_
   exact ⟨⟨rfl, rfl, rfl, rfl, rfl, rfl, trivial⟩, ⟨zf (by first | exact absurd hb0 (by decide) | rfl), trivial⟩, trivial⟩
 ·simp only [zB]
  refine ze rfl ?_ ?_
  ·intro hc0
   have hfin := zmh (of_decide_eq_true hc0)
   refine (gw) ?_
   rw [hfin]
   exact ⟨_, rfl, yt⟩
  ·intro hc0
   have hne := of_decide_eq_false hc0
   refine (g5)<|(Qc)<|(Qaf)<|(g3)<|(Qcf)<|(g5)<|(Qm)<|(QU)<|(QE)<|(g3) ?_
   refine ze rfl ?_ ?_
   ·intro hc2
    have hfin := YS (zfI (by have := of_decide_eq_true hc2; omega) hne)
    refine (gw) ?_
    rw [hfin]
    exact ⟨_, rfl, yt⟩
   ·intro hc2
    have hlen := of_decide_eq_false hc2
    refine (g4) ?_
    refine zW [(0, _), (1, _), (4, _), (5, _), (14, _), (15, _), (16, _), (24, _), (25, _), (26, _), (31, _), (32, _), (33, _), (34, _), (35, _)] [(36, .bool (decide (((3 : Nat) : Int) ≤ m) && decide ((l.length : Int) ≤ 64)))] [] ⟨rfl, rfl, rfl, rfl, rfl, rfl, rfl, rfl, rfl, rfl, rfl, rfl, rfl, rfl, rfl, trivial⟩ trivial ?_ ?_
    ·skip
     refine (Qm) ?_
     refine yo (i := 0) (Uu 3) rfl rfl rfl rfl rfl ?_
     refine (QL)<|(Qm) ?_
     refine zM (fun hb1 => ?_) (fun hb1 => ?_)
     ·skip
      refine (Qy)<|(g8)<|(QU)<|(Qy)<|(QL)<|(QT)<|(g3) ?_
      exact ⟨⟨rfl, rfl, rfl, rfl, rfl, rfl, rfl, rfl, rfl, rfl, rfl, rfl, rfl, rfl, rfl, trivial⟩, ⟨zf (by rw [hb1] <;> rfl), trivial⟩, trivial⟩
     ·skip
      refine (gz)<|(QF)<|(g3) ?_
      exact ⟨⟨rfl, rfl, rfl, rfl, rfl, rfl, rfl, rfl, rfl, rfl, rfl, rfl, rfl, rfl, rfl, trivial⟩, ⟨zf (by rw [hb1] <;> rfl), trivial⟩, trivial⟩
    ·simp only [zB]
     refine ze rfl ?_ ?_
     ·intro hc3
      have hm1 := V3 hc3
      have hfin : ixp l = ixp l := rfl
      refine (g5)<|(Qm) ?_
      refine YD rfl (fun w hG => Wz l m hl hm1.1 hz w hG) rfl rfl ?_
      refine (gh) ?_
      rw [hfin]
      exact ⟨_, rfl, yt⟩
     ·intro hc3
      refine Qk<|(g5) ?_
      refine yP (Uu 9) rfl rfl rfl (by decide) rfl ?_
      refine (gj) ?_
      refine yP (Uu 9) rfl rfl rfl (by decide) rfl ?_
      refine (g3)<|(gb)<|(g5)<|(QU)<|(Qm) ?_
      refine yy rfl rfl rfl (by omega) (by omega) ?_
      refine (Q2 1)<|(g3)<|(gb)<|Qs<|Qb ?_
      refine QzK [(0, _), (1, _), (5, _), (6, _), (7, _), (9, _)] [] (fun kk E m => ∃ (i : Nat) (f : Nat), kk = (l.length - 3 + 1) - i ∧ E = [(8, ii i), (10, ii f)] ∧ m = [] ∧ (i ≤ (l.length - 3 + 1) ∧ f ≤ i) ∧ (∀ j, j < i → ¬ oc l j)) ⟨0, 0, rfl, rfl, rfl, ⟨by omega, Nat.le_refl _⟩, fun j hj => absurd hj (Nat.not_lt_zero j)⟩ ⟨rfl, rfl, rfl, rfl, rfl, rfl, rfl, rfl, trivial⟩ trivial ?_
      rintro kk E m ⟨i, f, rfl, rfl, rfl, hf0_0, hf0_1⟩
      simp only [zB, zA]
      refine (gc)<|(Qm)<|(Ql)<|Qn ?_
      refine ze rfl ?_ ?_
      ·intro hc4
       have hit := of_decide_eq_true hc4
       refine Qk<|Qb<|Qs<|Qs ?_
       rcases zo8 l i (l.length - 3 + 1) with h112 | ⟨h112, ho⟩ | ⟨o, h112, ho⟩
       ·skip
        refine Qp<|(ga) ?_
        refine yP (Uu 9) rfl rfl (wb (show i < l.length by omega)) (xC hl _) rfl ?_
        refine (Qm)<|(QN)<|Qn ?_
        refine ze rfl ?_ ?_
        ·intro hc5
         exact absurd (of_decide_eq_true hc5) (by omega)
        ·intro hc5
         refine Qk<|(gu) ?_
         refine zW [(0, _), (1, _), (5, _), (6, _), (7, _), (8, _), (9, _), (10, _), (57, _), (58, _), (59, _), (60, _), (61, _), (62, _), (63, _), (64, _)] [(93, .bool (decide (oc l i)))] [] ⟨rfl, rfl, rfl, rfl, rfl, rfl, rfl, rfl, rfl, rfl, rfl, rfl, rfl, rfl, rfl, rfl, trivial⟩ trivial ?_ ?_
         ·skip
          refine (ga)<|(Q2 1) ?_
          refine yP (Uu 9) rfl rfl (wb (show i + 1 < l.length by omega)) (xC hl _) rfl ?_
          refine (Qm)<|(Qc)<|(Qm) ?_
          refine zM (fun hb2 => ?_) (fun hb2 => ?_)
          ·skip
           refine (Qy)<|(gk)<|(gk)<|(Q3)<|(Qy) ?_
           refine zG i (i + 3) (Uu 9) rfl rfl rfl ⟨_, rfl⟩ ⟨_, rfl⟩ (by omega) (by omega) rfl ?_
           refine zi (congrArg (fun z => sv ((l.drop i).take z)) (show i + 3 - i = 3 by omega)) ?_
           refine (Qy)<|(g8) ?_
           refine xt rfl rfl rfl (fun b hb => hl b (List.mem_of_mem_drop (List.mem_of_mem_take hb))) (by decide) ?_
           refine (QT)<|Qn ?_
           exact ⟨⟨rfl, rfl, rfl, rfl, rfl, rfl, rfl, rfl, rfl, rfl, rfl, rfl, rfl, rfl, rfl, rfl, trivial⟩, ⟨zf (by first | exact (decide_eq_false (fun x => of_decide_eq_false hb2 (by have := (z0K x).2.1; omega))).symm | rfl), trivial⟩, trivial⟩
          ·skip
           refine (gm)<|(gm)<|(QF)<|Qn ?_
           exact ⟨⟨rfl, rfl, rfl, rfl, rfl, rfl, rfl, rfl, rfl, rfl, rfl, rfl, rfl, rfl, rfl, rfl, trivial⟩, ⟨zf (by first | exact (decide_eq_false (fun x => of_decide_eq_false hb2 (by have := (z0K x).2.1; omega))).symm | rfl), trivial⟩, trivial⟩
         ·simp only [zB]
          refine ze rfl ?_ ?_
          ·intro hc6
           have hoc := of_decide_eq_true hc6
           have hfin := ZN hoc hf0_1
           refine (g5)<|(gh) ?_
           rw [hfin]
           exact ⟨_, rfl, yt⟩
          ·intro hc6
           have hbn := z8O hf0_1 (of_decide_eq_false hc6)
           refine Qk<|(g5)<|(Q2 1)<|(gj)<|(Q2 1)<|(g3)<|(g4) ?_
           refine zW [(0, _), (1, _), (5, _), (6, _), (7, _), (8, _), (9, _), (10, _), (57, _), (58, _), (59, _), (60, _), (61, _), (62, _), (63, _), (64, _), (93, _), (95, _), (96, _), (97, _), (98, _)] [(107, .bool (decide (((3 : Nat) : Int) ≤ m) && decide ((((i + 1 + 16) / 8 : Nat) : Int) < ((f + 1 : Nat) : Int))))] [] ⟨rfl, rfl, rfl, rfl, rfl, rfl, rfl, rfl, rfl, rfl, rfl, rfl, rfl, rfl, rfl, rfl, rfl, rfl, rfl, rfl, rfl, trivial⟩ trivial ?_ ?_
           ·skip
            refine (Qm) ?_
            refine yo (i := 0) (Uu 3) rfl rfl rfl rfl rfl ?_
            refine (QL)<|(Qm) ?_
            refine zM (fun hb3 => ?_) (fun hb3 => ?_)
            ·skip
             refine (Qy)<|(gk) ?_
             refine (Ca (z0F (i + 1) (by omega)))<|(Qy)<|(QG)<|(QT)<|Qn ?_
             exact ⟨⟨rfl, rfl, rfl, rfl, rfl, rfl, rfl, rfl, rfl, rfl, rfl, rfl, rfl, rfl, rfl, rfl, rfl, rfl, rfl, rfl, rfl, trivial⟩, ⟨zf (by rw [hb3] <;> rfl), trivial⟩, trivial⟩
            ·skip
             refine (gm)<|(QF)<|Qn ?_
             exact ⟨⟨rfl, rfl, rfl, rfl, rfl, rfl, rfl, rfl, rfl, rfl, rfl, rfl, rfl, rfl, rfl, rfl, rfl, rfl, rfl, rfl, rfl, trivial⟩, ⟨zf (by rw [hb3] <;> rfl), trivial⟩, trivial⟩
           ·simp only [zB]
            refine ze rfl ?_ ?_
            ·intro hc7
             have hmm := V3 hc7
             refine Qs ?_
             rcases Xe (l.drop (i + 1)) with hq | ⟨r, hq⟩
             ·skip
              refine Qp<|(ga) ?_
              refine zG (i + 1) l.length (Uu 9) rfl rfl rfl ⟨_, rfl⟩ rfl (by omega) (by omega) rfl ?_
              refine zi (congrArg sv (show (l.drop (i + 1)).take (l.length - (i + 1)) = (l.drop (i + 1)) from List.take_of_length_le (by simp))) ?_
              refine (Qm) ?_
              refine YD rfl (fun w hG => Wz (l.drop (i + 1)) m (fun b hb => hl b (List.mem_of_mem_drop hb)) hmm.1 (by rw [List.length_drop]; omega) w hG) rfl rfl ?_
              refine zi (show _ = Value.int .i64 (-1) by rw [hq]; rfl) ?_
              refine (gx)<|(QE)<|Qn ?_
              refine ze rfl ?_ ?_
              ·intro hc8
               exact absurd (of_decide_eq_true hc8) (by decide)
              ·intro hc8
               have hfin : ixp l = none := by rw [wz (i := i + 1) (by omega) hbn, hq]; rfl
               refine Qk<|(gw) ?_
               rw [hfin]
               exact ⟨_, rfl, yt⟩
             ·skip
              refine Qp<|(ga) ?_
              refine zG (i + 1) l.length (Uu 9) rfl rfl rfl ⟨_, rfl⟩ rfl (by omega) (by omega) rfl ?_
              refine zi (congrArg sv (show (l.drop (i + 1)).take (l.length - (i + 1)) = (l.drop (i + 1)) from List.take_of_length_le (by simp))) ?_
              refine (Qm) ?_
              refine YD rfl (fun w hG => Wz (l.drop (i + 1)) m (fun b hb => hl b (List.mem_of_mem_drop hb)) hmm.1 (by rw [List.length_drop]; omega) w hG) rfl rfl ?_
              refine zi (show _ = ii r by rw [hq]; rfl) ?_
              refine (gx)<|(QE)<|Qn ?_
              refine ze rfl ?_ ?_
              ·intro hc8
               have hfin : ixp l = some (r + (i + 1)) := by rw [wz (i := i + 1) (by omega) hbn, hq]; rfl
               refine (g5)<|(Qm) ?_
               refine zT rfl rfl rfl (by have := XT hq; simp at this; omega) ?_
               refine (gh) ?_
               rw [hfin]
               exact ⟨_, rfl, yt⟩
              ·intro hc8
               exact absurd (of_decide_eq_false hc8) (by omega)
            ·intro hc7
             refine (g4) ?_
             refine zW [(0, _), (1, _), (5, _), (6, _), (7, _), (8, _), (9, _), (10, _), (57, _), (58, _), (59, _), (60, _), (61, _), (62, _), (63, _), (64, _), (93, _), (95, _), (96, _), (97, _), (98, _), (107, _)] [(132, .bool (decide (m < ((3 : Nat) : Int)) && decide (((4 + (i + 1) / 2 ^ 4 : Nat) : Int) ≤ ((f + 1 : Nat) : Int)) && decide (((i + 1 : Nat) : Int) < ((l.length - 3 + 1) : Nat))))] [] ⟨rfl, rfl, rfl, rfl, rfl, rfl, rfl, rfl, rfl, rfl, rfl, rfl, rfl, rfl, rfl, rfl, rfl, rfl, rfl, rfl, rfl, rfl, trivial⟩ trivial ?_ ?_
             ·skip
              refine (Qm) ?_
              refine yo (i := 0) (Uu 3) rfl rfl rfl rfl rfl ?_
              refine (QG)<|(Qm) ?_
              refine zM (fun hb4 => ?_) (fun hb4 => ?_)
              ·skip
               refine (Qy)<|(gk) ?_
               refine Zg (s := 4) rfl rfl rfl (by omega) ?_
               refine (Qy) ?_
               refine zT (p := 4) rfl rfl rfl (by omega) ?_
               refine (Qy)<|(QE)<|(QT)<|(Qm) ?_
               refine zM (fun hb5 => ?_) (fun hb5 => ?_)
               ·skip
                refine (Qy)<|(gk)<|(Ql)<|(QT)<|Qn ?_
                exact ⟨⟨rfl, rfl, rfl, rfl, rfl, rfl, rfl, rfl, rfl, rfl, rfl, rfl, rfl, rfl, rfl, rfl, rfl, rfl, rfl, rfl, rfl, rfl, trivial⟩, ⟨zf (by rw [hb4, hb5] <;> rfl), trivial⟩, trivial⟩
               ·skip
                refine (gz)<|(QF)<|Qn ?_
                exact ⟨⟨rfl, rfl, rfl, rfl, rfl, rfl, rfl, rfl, rfl, rfl, rfl, rfl, rfl, rfl, rfl, rfl, rfl, rfl, rfl, rfl, rfl, rfl, trivial⟩, ⟨zf (by rw [hb4, hb5] <;> rfl), trivial⟩, trivial⟩
              ·skip
               refine (gm)<|(Qo)<|(QF)<|(Qm)<|(gz)<|(QF)<|Qn ?_
               exact ⟨⟨rfl, rfl, rfl, rfl, rfl, rfl, rfl, rfl, rfl, rfl, rfl, rfl, rfl, rfl, rfl, rfl, rfl, rfl, rfl, rfl, rfl, rfl, trivial⟩, ⟨zf (by rw [hb4] <;> rfl), trivial⟩, trivial⟩
             ·simp only [zB]
              refine ze rfl ?_ ?_
              ·intro hc9
               have hm3 := z3c hc9
               refine Qs ?_
               rcases Xe (l.drop (i + 1)) with hq | ⟨r, hq⟩
               ·skip
                refine Qp<|(ga) ?_
                refine zG (i + 1) l.length (Uu 9) rfl rfl rfl ⟨_, rfl⟩ rfl (by omega) (by omega) rfl ?_
                refine zi (congrArg sv (show (l.drop (i + 1)).take (l.length - (i + 1)) = (l.drop (i + 1)) from List.take_of_length_le (by simp))) ?_
                refine (Qm) ?_
                refine (Ca (Xc (l.drop (i + 1)) (fun b hb => hl b (List.mem_of_mem_drop hb)) (by rw [List.length_drop]; omega) (by rw [List.length_drop]; omega))) ?_
                refine zi (show _ = Value.int .i64 (-1) by rw [hq]; rfl) ?_
                refine (gx)<|(Ql)<|Qn ?_
                refine ze rfl ?_ ?_
                ·intro hc10
                 have hfin : ixp l = none := by rw [wz (i := i + 1) (by omega) hbn, hq]; rfl
                 refine (gw) ?_
                 rw [hfin]
                 exact ⟨_, rfl, yt⟩
                ·intro hc10
                 exact absurd (of_decide_eq_false hc10) (by decide)
               ·skip
                refine Qp<|(ga) ?_
                refine zG (i + 1) l.length (Uu 9) rfl rfl rfl ⟨_, rfl⟩ rfl (by omega) (by omega) rfl ?_
                refine zi (congrArg sv (show (l.drop (i + 1)).take (l.length - (i + 1)) = (l.drop (i + 1)) from List.take_of_length_le (by simp))) ?_
                refine (Qm) ?_
                refine (Ca (Xc (l.drop (i + 1)) (fun b hb => hl b (List.mem_of_mem_drop hb)) (by rw [List.length_drop]; omega) (by rw [List.length_drop]; omega))) ?_
                refine zi (show _ = ii r by rw [hq]; rfl) ?_
                refine (gx)<|(Ql)<|Qn ?_
                refine ze rfl ?_ ?_
                ·intro hc10
                 exact absurd (of_decide_eq_true hc10) (by omega)
                ·intro hc10
                 have hfin : ixp l = some (i + 1 + r) := by rw [wz (i := i + 1) (by omega) hbn, hq]; exact congrArg some (Nat.add_comm _ _)
                 refine Qk<|(g5)<|(Qm) ?_
                 refine zT rfl rfl rfl (by have := XT hq; simp at this; omega) ?_
                 refine (gh) ?_
                 rw [hfin]
                 exact ⟨_, rfl, yt⟩
              ·intro hc9
               refine Qk ?_
               refine QzL ⟨_, _, rfl, rfl, rfl, (by omega), hbn⟩ ⟨rfl, rfl, rfl, rfl, rfl, rfl, rfl, rfl, trivial⟩ trivial ?_
               omega
       ·skip
        refine Qp<|(ga) ?_
        refine yP (Uu 9) rfl rfl (wb (show i < l.length by omega)) (xC hl _) rfl ?_
        refine (Qm)<|(QN)<|Qn ?_
        refine ze rfl ?_ ?_
        ·intro hc5
         skip
         refine (g5)<|(Qm)<|(gd) ?_
         refine zG (i + 1) (l.length - 3 + 1) (Uu 9) rfl rfl rfl ⟨_, rfl⟩ ⟨_, rfl⟩ (by omega) (by omega) rfl ?_
         refine (Qm) ?_
         refine (Ca (Vn ((l.drop (i + 1)).take ((l.length - 3 + 1) - (i + 1))) 112 (fun b hb => hl b (List.mem_of_mem_drop (List.mem_of_mem_take hb))) (by decide))) ?_
         refine zi (show _ = Value.int .i64 (-1) by rw [ho]; rfl) ?_
         refine (gx)<|(Ql)<|Qn ?_
         refine ze rfl ?_ ?_
         ·intro hc11
          have hfin := YS (zlZ rfl h112 hf0_1 ho)
          refine (gw) ?_
          rw [hfin]
          exact ⟨_, rfl, yt⟩
         ·intro hc11
          exact absurd (of_decide_eq_false hc11) (by decide)
        ·intro hc5
         exact absurd (of_decide_eq_false hc5) (by omega)
       ·skip
        refine Qp<|(ga) ?_
        refine yP (Uu 9) rfl rfl (wb (show i < l.length by omega)) (xC hl _) rfl ?_
        refine (Qm)<|(QN)<|Qn ?_
        refine ze rfl ?_ ?_
        ·intro hc5
         skip
         refine (g5)<|(Qm)<|(gd) ?_
         refine zG (i + 1) (l.length - 3 + 1) (Uu 9) rfl rfl rfl ⟨_, rfl⟩ ⟨_, rfl⟩ (by omega) (by omega) rfl ?_
         refine (Qm) ?_
         refine (Ca (Vn ((l.drop (i + 1)).take ((l.length - 3 + 1) - (i + 1))) 112 (fun b hb => hl b (List.mem_of_mem_drop (List.mem_of_mem_take hb))) (by decide))) ?_
         refine zi (show _ = ii o by rw [ho]; rfl) ?_
         refine (gx)<|(Ql)<|Qn ?_
         refine ze rfl ?_ ?_
         ·intro hc11
          exact absurd (of_decide_eq_true hc11) (by omega)
         ·intro hc11
          refine Qk<|Qp<|(ga) ?_
          have hol : o < min ((l.length - 3 + 1) - (i + 1)) (l.length - (i + 1)) := (by have h9 := (Vq ho).1; simpa using h9)
          refine (Q2 1)<|(Q3) ?_
          refine z0d fun e he => ?_
          have hbe : ∀ j, j < e → ¬ oc l j := by rw [he]; exact zjF h112 hf0_1 ho
          refine (g3)<|(gu) ?_
          refine zW [(0, _), (1, _), (5, _), (6, _), (7, _), (8, _), (9, _), (10, _), (11, _), (57, _), (58, _), (59, _), (60, _), (61, _), (62, _), (63, _), (64, _), (65, _), (66, _), (67, _), (68, _), (69, _), (70, _), (71, _), (72, _), (73, _), (74, _), (75, _), (76, _), (77, _)] [(93, .bool (decide (oc l e)))] [] ⟨rfl, rfl, rfl, rfl, rfl, rfl, rfl, rfl, rfl, rfl, rfl, rfl, rfl, rfl, rfl, rfl, rfl, rfl, rfl, rfl, rfl, rfl, rfl, rfl, rfl, rfl, rfl, rfl, rfl, rfl, trivial⟩ trivial ?_ ?_
          ·skip
           refine (ga)<|(Q2 1) ?_
           refine yP (Uu 9) rfl rfl (wb (show e + 1 < l.length by omega)) (xC hl _) rfl ?_
           refine (Qm)<|(Qc)<|(Qm) ?_
           refine zM (fun hb6 => ?_) (fun hb6 => ?_)
           ·skip
            refine (Qy)<|(gk)<|(gk)<|(Q3)<|(Qy) ?_
            refine zG e (e + 3) (Uu 9) rfl rfl rfl ⟨_, rfl⟩ ⟨_, rfl⟩ (by omega) (by omega) rfl ?_
            refine zi (congrArg (fun z => sv ((l.drop e).take z)) (show e + 3 - e = 3 by omega)) ?_
            refine (Qy)<|(g8) ?_
            refine xt rfl rfl rfl (fun b hb => hl b (List.mem_of_mem_drop (List.mem_of_mem_take hb))) (by decide) ?_
            refine (QT)<|Qn ?_
            exact ⟨⟨rfl, rfl, rfl, rfl, rfl, rfl, rfl, rfl, rfl, rfl, rfl, rfl, rfl, rfl, rfl, rfl, rfl, rfl, rfl, rfl, rfl, rfl, rfl, rfl, rfl, rfl, rfl, rfl, rfl, rfl, trivial⟩, ⟨zf (by first | exact (decide_eq_false (fun x => of_decide_eq_false hb6 (by have := (z0K x).2.1; omega))).symm | rfl), trivial⟩, trivial⟩
           ·skip
            refine (gm)<|(gm)<|(QF)<|Qn ?_
            exact ⟨⟨rfl, rfl, rfl, rfl, rfl, rfl, rfl, rfl, rfl, rfl, rfl, rfl, rfl, rfl, rfl, rfl, rfl, rfl, rfl, rfl, rfl, rfl, rfl, rfl, rfl, rfl, rfl, rfl, rfl, rfl, trivial⟩, ⟨zf (by first | exact (decide_eq_false (fun x => of_decide_eq_false hb6 (by have := (z0K x).2.1; omega))).symm | rfl), trivial⟩, trivial⟩
          ·simp only [zB]
           refine ze rfl ?_ ?_
           ·intro hc6
            have hoc := of_decide_eq_true hc6
            have hfin := ZN hoc hbe
            refine (g5)<|(gh) ?_
            rw [hfin]
            exact ⟨_, rfl, yt⟩
           ·intro hc6
            have hbn := z8O hbe (of_decide_eq_false hc6)
            refine Qk<|(g5)<|(Q2 1)<|(gj)<|(Q2 1)<|(g3)<|(g4) ?_
            refine zW [(0, _), (1, _), (5, _), (6, _), (7, _), (8, _), (9, _), (10, _), (11, _), (57, _), (58, _), (59, _), (60, _), (61, _), (62, _), (63, _), (64, _), (65, _), (66, _), (67, _), (68, _), (69, _), (70, _), (71, _), (72, _), (73, _), (74, _), (75, _), (76, _), (77, _), (93, _), (95, _), (96, _), (97, _), (98, _)] [(107, .bool (decide (((3 : Nat) : Int) ≤ m) && decide ((((e + 1 + 16) / 8 : Nat) : Int) < ((f + 1 : Nat) : Int))))] [] ⟨rfl, rfl, rfl, rfl, rfl, rfl, rfl, rfl, rfl, rfl, rfl, rfl, rfl, rfl, rfl, rfl, rfl, rfl, rfl, rfl, rfl, rfl, rfl, rfl, rfl, rfl, rfl, rfl, rfl, rfl, rfl, rfl, rfl, rfl, rfl, trivial⟩ trivial ?_ ?_
            ·skip
             refine (Qm) ?_
             refine yo (i := 0) (Uu 3) rfl rfl rfl rfl rfl ?_
             refine (QL)<|(Qm) ?_
             refine zM (fun hb7 => ?_) (fun hb7 => ?_)
             ·skip
              refine (Qy)<|(gk) ?_
              refine (Ca (z0F (e + 1) (by omega)))<|(Qy)<|(QG)<|(QT)<|Qn ?_
              exact ⟨⟨rfl, rfl, rfl, rfl, rfl, rfl, rfl, rfl, rfl, rfl, rfl, rfl, rfl, rfl, rfl, rfl, rfl, rfl, rfl, rfl, rfl, rfl, rfl, rfl, rfl, rfl, rfl, rfl, rfl, rfl, rfl, rfl, rfl, rfl, rfl, trivial⟩, ⟨zf (by rw [hb7] <;> rfl), trivial⟩, trivial⟩
             ·skip
              refine (gm)<|(QF)<|Qn ?_
              exact ⟨⟨rfl, rfl, rfl, rfl, rfl, rfl, rfl, rfl, rfl, rfl, rfl, rfl, rfl, rfl, rfl, rfl, rfl, rfl, rfl, rfl, rfl, rfl, rfl, rfl, rfl, rfl, rfl, rfl, rfl, rfl, rfl, rfl, rfl, rfl, rfl, trivial⟩, ⟨zf (by rw [hb7] <;> rfl), trivial⟩, trivial⟩
            ·simp only [zB]
             refine ze rfl ?_ ?_
             ·intro hc7
              have hmm := V3 hc7
              refine Qs ?_
              rcases Xe (l.drop (e + 1)) with hq | ⟨r, hq⟩
              ·skip
               refine Qp<|(ga) ?_
               refine zG (e + 1) l.length (Uu 9) rfl rfl rfl ⟨_, rfl⟩ rfl (by omega) (by omega) rfl ?_
               refine zi (congrArg sv (show (l.drop (e + 1)).take (l.length - (e + 1)) = (l.drop (e + 1)) from List.take_of_length_le (by simp))) ?_
               refine (Qm) ?_
               refine YD rfl (fun w hG => Wz (l.drop (e + 1)) m (fun b hb => hl b (List.mem_of_mem_drop hb)) hmm.1 (by rw [List.length_drop]; omega) w hG) rfl rfl ?_
               refine zi (show _ = Value.int .i64 (-1) by rw [hq]; rfl) ?_
               refine (gx)<|(QE)<|Qn ?_
               refine ze rfl ?_ ?_
               ·intro hc8
                exact absurd (of_decide_eq_true hc8) (by decide)
               ·intro hc8
                have hfin : ixp l = none := by rw [wz (i := e + 1) (by omega) hbn, hq]; rfl
                refine Qk<|(gw) ?_
                rw [hfin]
                exact ⟨_, rfl, yt⟩
              ·skip
               refine Qp<|(ga) ?_
               refine zG (e + 1) l.length (Uu 9) rfl rfl rfl ⟨_, rfl⟩ rfl (by omega) (by omega) rfl ?_
               refine zi (congrArg sv (show (l.drop (e + 1)).take (l.length - (e + 1)) = (l.drop (e + 1)) from List.take_of_length_le (by simp))) ?_
               refine (Qm) ?_
               refine YD rfl (fun w hG => Wz (l.drop (e + 1)) m (fun b hb => hl b (List.mem_of_mem_drop hb)) hmm.1 (by rw [List.length_drop]; omega) w hG) rfl rfl ?_
               refine zi (show _ = ii r by rw [hq]; rfl) ?_
               refine (gx)<|(QE)<|Qn ?_
               refine ze rfl ?_ ?_
               ·intro hc8
                have hfin : ixp l = some (r + (e + 1)) := by rw [wz (i := e + 1) (by omega) hbn, hq]; rfl
                refine (g5)<|(Qm) ?_
                refine zT rfl rfl rfl (by have := XT hq; simp at this; omega) ?_
                refine (gh) ?_
                rw [hfin]
                exact ⟨_, rfl, yt⟩
               ·intro hc8
                exact absurd (of_decide_eq_false hc8) (by omega)
             ·intro hc7
              refine (g4) ?_
              refine zW [(0, _), (1, _), (5, _), (6, _), (7, _), (8, _), (9, _), (10, _), (11, _), (57, _), (58, _), (59, _), (60, _), (61, _), (62, _), (63, _), (64, _), (65, _), (66, _), (67, _), (68, _), (69, _), (70, _), (71, _), (72, _), (73, _), (74, _), (75, _), (76, _), (77, _), (93, _), (95, _), (96, _), (97, _), (98, _), (107, _)] [(132, .bool (decide (m < ((3 : Nat) : Int)) && decide (((4 + (e + 1) / 2 ^ 4 : Nat) : Int) ≤ ((f + 1 : Nat) : Int)) && decide (((e + 1 : Nat) : Int) < ((l.length - 3 + 1) : Nat))))] [] ⟨rfl, rfl, rfl, rfl, rfl, rfl, rfl, rfl, rfl, rfl, rfl, rfl, rfl, rfl, rfl, rfl, rfl, rfl, rfl, rfl, rfl, rfl, rfl, rfl, rfl, rfl, rfl, rfl, rfl, rfl, rfl, rfl, rfl, rfl, rfl, rfl, trivial⟩ trivial ?_ ?_
              ·skip
               refine (Qm) ?_
               refine yo (i := 0) (Uu 3) rfl rfl rfl rfl rfl ?_
               refine (QG)<|(Qm) ?_
               refine zM (fun hb8 => ?_) (fun hb8 => ?_)
               ·skip
                refine (Qy)<|(gk) ?_
                refine Zg (s := 4) rfl rfl rfl (by omega) ?_
                refine (Qy) ?_
                refine zT (p := 4) rfl rfl rfl (by omega) ?_
                refine (Qy)<|(QE)<|(QT)<|(Qm) ?_
                refine zM (fun hb9 => ?_) (fun hb9 => ?_)
                ·skip
                 refine (Qy)<|(gk)<|(Ql)<|(QT)<|Qn ?_
                 exact ⟨⟨rfl, rfl, rfl, rfl, rfl, rfl, rfl, rfl, rfl, rfl, rfl, rfl, rfl, rfl, rfl, rfl, rfl, rfl, rfl, rfl, rfl, rfl, rfl, rfl, rfl, rfl, rfl, rfl, rfl, rfl, rfl, rfl, rfl, rfl, rfl, rfl, trivial⟩, ⟨zf (by rw [hb8, hb9] <;> rfl), trivial⟩, trivial⟩
                ·skip
                 refine (gz)<|(QF)<|Qn ?_
                 exact ⟨⟨rfl, rfl, rfl, rfl, rfl, rfl, rfl, rfl, rfl, rfl, rfl, rfl, rfl, rfl, rfl, rfl, rfl, rfl, rfl, rfl, rfl, rfl, rfl, rfl, rfl, rfl, rfl, rfl, rfl, rfl, rfl, rfl, rfl, rfl, rfl, rfl, trivial⟩, ⟨zf (by rw [hb8, hb9] <;> rfl), trivial⟩, trivial⟩
               ·skip
                refine (gm)<|(Qo)<|(QF)<|(Qm)<|(gz)<|(QF)<|Qn ?_
                exact ⟨⟨rfl, rfl, rfl, rfl, rfl, rfl, rfl, rfl, rfl, rfl, rfl, rfl, rfl, rfl, rfl, rfl, rfl, rfl, rfl, rfl, rfl, rfl, rfl, rfl, rfl, rfl, rfl, rfl, rfl, rfl, rfl, rfl, rfl, rfl, rfl, rfl, trivial⟩, ⟨zf (by rw [hb8] <;> rfl), trivial⟩, trivial⟩
              ·simp only [zB]
               refine ze rfl ?_ ?_
               ·intro hc9
                have hm3 := z3c hc9
                refine Qs ?_
                rcases Xe (l.drop (e + 1)) with hq | ⟨r, hq⟩
                ·skip
                 refine Qp<|(ga) ?_
                 refine zG (e + 1) l.length (Uu 9) rfl rfl rfl ⟨_, rfl⟩ rfl (by omega) (by omega) rfl ?_
                 refine zi (congrArg sv (show (l.drop (e + 1)).take (l.length - (e + 1)) = (l.drop (e + 1)) from List.take_of_length_le (by simp))) ?_
                 refine (Qm) ?_
                 refine (Ca (Xc (l.drop (e + 1)) (fun b hb => hl b (List.mem_of_mem_drop hb)) (by rw [List.length_drop]; omega) (by rw [List.length_drop]; omega))) ?_
                 refine zi (show _ = Value.int .i64 (-1) by rw [hq]; rfl) ?_
                 refine (gx)<|(Ql)<|Qn ?_
                 refine ze rfl ?_ ?_
                 ·intro hc10
                  have hfin : ixp l = none := by rw [wz (i := e + 1) (by omega) hbn, hq]; rfl
                  refine (gw) ?_
                  rw [hfin]
                  exact ⟨_, rfl, yt⟩
                 ·intro hc10
                  exact absurd (of_decide_eq_false hc10) (by decide)
                ·skip
                 refine Qp<|(ga) ?_
                 refine zG (e + 1) l.length (Uu 9) rfl rfl rfl ⟨_, rfl⟩ rfl (by omega) (by omega) rfl ?_
                 refine zi (congrArg sv (show (l.drop (e + 1)).take (l.length - (e + 1)) = (l.drop (e + 1)) from List.take_of_length_le (by simp))) ?_
                 refine (Qm) ?_
                 refine (Ca (Xc (l.drop (e + 1)) (fun b hb => hl b (List.mem_of_mem_drop hb)) (by rw [List.length_drop]; omega) (by rw [List.length_drop]; omega))) ?_
                 refine zi (show _ = ii r by rw [hq]; rfl) ?_
                 refine (gx)<|(Ql)<|Qn ?_
                 refine ze rfl ?_ ?_
                 ·intro hc10
                  exact absurd (of_decide_eq_true hc10) (by omega)
                 ·intro hc10
                  have hfin : ixp l = some (e + 1 + r) := by rw [wz (i := e + 1) (by omega) hbn, hq]; exact congrArg some (Nat.add_comm _ _)
                  refine Qk<|(g5)<|(Qm) ?_
                  refine zT rfl rfl rfl (by have := XT hq; simp at this; omega) ?_
                  refine (gh) ?_
                  rw [hfin]
                  exact ⟨_, rfl, yt⟩
               ·intro hc9
                refine Qk ?_
                refine QzL ⟨_, _, rfl, rfl, rfl, (by omega), hbn⟩ ⟨rfl, rfl, rfl, rfl, rfl, rfl, rfl, rfl, trivial⟩ trivial ?_
                omega
        ·intro hc5
         exact absurd (of_decide_eq_false hc5) (by omega)
      ·intro hc4
       have hit := of_decide_eq_false hc4
       have hfin := YS (l := l) (fun j x => hf0_1 j (by have := z0C x; omega) x)
       refine Qe<|(gw) ?_
       rw [hfin]
       exact ⟨_, rfl, yt⟩
theorem Vs (l : LN) (m : Int) (hl : By l) (hz : l.length < 4294967281) : Fp (MLB m :: G) 58 #[sv l, sv PSK] (ixv (ixp l)) := by
 refine Qf1 Tryz.func58 ?_
 refine (gb)<|(g5)<|(Qm) ?_
 refine (Ca (z7b l m hl hz))<|(gh) ?_
 exact ⟨_, rfl, yt⟩
end Go.Proofs.YtacflmjoigffpaaGreatDoor
