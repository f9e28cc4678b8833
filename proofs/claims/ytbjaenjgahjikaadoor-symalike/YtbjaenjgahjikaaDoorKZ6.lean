import Derived.Test.YtbjaenjgahjikaaDoorKZ5
import Derived.Test.YtbjaenjgahjikaaDoorRows
namespace Go.Proofs.YtbjaenjgahjikaaDoor
open Go Go.RowKit
theorem eqg23 : Tryd.prog.eqGuardType Tryd.prog.depth 23 = false := by kernel_rfl
theorem eqg26 : Tryd.prog.eqGuardType Tryd.prog.depth 26 = false := by kernel_rfl
theorem eqg28 : Tryd.prog.eqGuardType Tryd.prog.depth 28 = false := by kernel_rfl
theorem eqg30 : Tryd.prog.eqGuardType Tryd.prog.depth 30 = false := by kernel_rfl
theorem eqg123 : Tryd.prog.eqGuardType Tryd.prog.depth 123 = false := by kernel_rfl
theorem eqg124 : Tryd.prog.eqGuardType Tryd.prog.depth 124 = false := by kernel_rfl
theorem pls26 (w : World) : (((#[.mk "Has" 4 0 false "" "" 0, .mk "Key" 23 1 false "" "" 1, .mk "N" 24 33 false "" "" 40] : Array Field).mapM fun f => do pure (f.offset, ← sizeOf f.type) : Sem (Array (Nat × Nat)))).run Tryd.prog w = .ok #[(0, 1), (1, 32), (33, 1)] w := places_run (l := [(0, 1), (1, 32), (33, 1)]) (by kernel_rfl) w
theorem pls28 (w : World) : (((#[.mk "Cipher" 26 0 false "" "" 0, .mk "Chain" 23 34 false "" "" 48, .mk "Hash" 23 66 false "" "" 80] : Array Field).mapM fun f => do pure (f.offset, ← sizeOf f.type) : Sem (Array (Nat × Nat)))).run Tryd.prog w = .ok #[(0, 34), (34, 32), (66, 32)] w := places_run (l := [(0, 34), (34, 32), (66, 32)]) (by kernel_rfl) w
theorem pls67 (w : World) : (((#[.mk "H" 64 0 false "" "" 0, .mk "Held" 65 8 false "" "" 32, .mk "N" 3 72 false "" "" 96, .mk "Len" 3 73 false "" "" 104] : Array Field).mapM fun f => do pure (f.offset, ← sizeOf f.type) : Sem (Array (Nat × Nat)))).run Tryd.prog w = .ok #[(0, 8), (8, 64), (72, 1), (73, 1)] w := places_run (l := [(0, 8), (8, 64), (72, 1), (73, 1)]) (by kernel_rfl) w
theorem pls126 (w : World) : (((#[.mk "R" 123 0 false "" "" 0, .mk "Pad" 123 2 false "" "" 16, .mk "Acc" 124 4 false "" "" 32, .mk "Held" 96 7 false "" "" 56, .mk "N" 3 23 false "" "" 72] : Array Field).mapM fun f => do pure (f.offset, ← sizeOf f.type) : Sem (Array (Nat × Nat)))).run Tryd.prog w = .ok #[(0, 2), (2, 2), (4, 3), (7, 16), (23, 1)] w := places_run (l := [(0, 2), (2, 2), (4, 3), (7, 16), (23, 1)]) (by kernel_rfl) w
theorem sis5 : ((Tryd.prog.info? 5).map (·.size)).isSome = true := by kernel_rfl
theorem s_und26 : Tryd.prog.underlying 26 = some (.struct #[.mk "Has" 4 0 false "" "" 0, .mk "Key" 23 1 false "" "" 1, .mk "N" 24 33 false "" "" 40]) := by kernel_rfl
theorem s_und4 : Tryd.prog.underlying 4 = some (.bool) := by kernel_rfl
theorem s_und23 : Tryd.prog.underlying 23 = some (.array 32 5) := by kernel_rfl
theorem s_siz23 : (Tryd.prog.info? 23).map (·.size) = some 32 := by kernel_rfl
theorem s_und5 : Tryd.prog.underlying 5 = some (.int .u8) := by kernel_rfl
theorem s_siz5 : (Tryd.prog.info? 5).map (·.size) = some 1 := by kernel_rfl
theorem s_und24 : Tryd.prog.underlying 24 = some (.int .u64) := by kernel_rfl
theorem eqv26 {f0 g0 : Bool} {f1 g1 : Nat → Nat} {f2 g2 : Int} : Eqv Tryd.prog 10000 26 (.agg (cells 34 [pV (.bool f0), pI .u8 32 f1, pV (.int .u64 f2)])) (.agg (cells 34 [pV (.bool g0), pI .u8 32 g1, pV (.int .u64 g2)])) ([(f0 == g0), allEq 32 f1 g1, (f2 == g2)].all id) := eqv_struct s_und26 (by kernel_rfl) ⟨⟨by decide, _, _, shown_one (k := 0) s_und4 rfl rfl rfl (Nat.le_of_ble_eq_true rfl), shown_one (k := 0) s_und4 rfl rfl rfl (Nat.le_of_ble_eq_true rfl), eqv_bool s_und4⟩, ⟨by decide, _, _, shown_row (k := 1) s_und23 rfl s_siz23 rfl rfl (Nat.le_of_ble_eq_true rfl), shown_row (k := 1) s_und23 rfl s_siz23 rfl rfl (Nat.le_of_ble_eq_true rfl), eqv_arr s_und23 s_und5 s_siz5⟩, ⟨by decide, _, _, shown_one (k := 2) s_und24 rfl rfl rfl (Nat.le_of_ble_eq_true rfl), shown_one (k := 2) s_und24 rfl rfl rfl (Nat.le_of_ble_eq_true rfl), eqv_int s_und24⟩, trivial⟩
theorem s_und28 : Tryd.prog.underlying 28 = some (.struct #[.mk "Cipher" 26 0 false "" "" 0, .mk "Chain" 23 34 false "" "" 48, .mk "Hash" 23 66 false "" "" 80]) := by kernel_rfl
theorem s_siz26 : (Tryd.prog.info? 26).map (·.size) = some 34 := by kernel_rfl
theorem sam28 {f0 : Bool} {f1 : Nat → Nat} {f2 : Int} {f3 : Nat → Nat} {f4 : Nat → Nat} : Same Tryd.prog 10000 28 (.agg (cells 98 [pV (.bool f0), pI .u8 32 f1, pV (.int .u64 f2), pI .u8 32 f3, pI .u8 32 f4])) := (same_struct s_und28 (by kernel_rfl) (List.forall_mem_cons.2 ⟨⟨_, shown_sub (k := 0) (c := 3) s_und26 rfl s_siz26 rfl rfl rfl (Nat.le_of_ble_eq_true rfl), (same_struct s_und26 (by kernel_rfl) (List.forall_mem_cons.2 ⟨⟨_, shown_one (k := 0) s_und4 rfl rfl rfl (Nat.le_of_ble_eq_true rfl), same_bool s_und4⟩, (List.forall_mem_cons.2 ⟨⟨_, shown_row (k := 1) s_und23 rfl s_siz23 rfl rfl (Nat.le_of_ble_eq_true rfl), same_arr s_und23 s_und5 s_siz5⟩, (List.forall_mem_cons.2 ⟨⟨_, shown_one (k := 2) s_und24 rfl rfl rfl (Nat.le_of_ble_eq_true rfl), same_int s_und24⟩, (fun _ h => by cases h)⟩)⟩)⟩))⟩, (List.forall_mem_cons.2 ⟨⟨_, shown_row (k := 3) s_und23 rfl s_siz23 rfl rfl (Nat.le_of_ble_eq_true rfl), same_arr s_und23 s_und5 s_siz5⟩, (List.forall_mem_cons.2 ⟨⟨_, shown_row (k := 4) s_und23 rfl s_siz23 rfl rfl (Nat.le_of_ble_eq_true rfl), same_arr s_und23 s_und5 s_siz5⟩, (fun _ h => by cases h)⟩)⟩)⟩))
theorem s_und30 : Tryd.prog.underlying 30 = some (.array 2 26) := by kernel_rfl
theorem sam30 {f0 : Bool} {f1 : Nat → Nat} {f2 : Int} {f3 : Bool} {f4 : Nat → Nat} {f5 : Int} : Same Tryd.prog 10000 30 (.agg (cells 68 [pV (.bool f0), pI .u8 32 f1, pV (.int .u64 f2), pV (.bool f3), pI .u8 32 f4, pV (.int .u64 f5)])) := by
  refine same_array s_und30 s_siz26 fun i hi w => ?_
  have hi2 : i = 0 ∨ i = 1 := by omega
  rcases hi2 with rfl | rfl
  · exact ⟨_, elem_sub (k := 0) (c := 3) s_und26 rfl s_siz26 rfl rfl (Nat.le_of_ble_eq_true rfl) w, (same_struct s_und26 (by kernel_rfl) (List.forall_mem_cons.2 ⟨⟨_, shown_one (k := 0) s_und4 rfl rfl rfl (Nat.le_of_ble_eq_true rfl), same_bool s_und4⟩, (List.forall_mem_cons.2 ⟨⟨_, shown_row (k := 1) s_und23 rfl s_siz23 rfl rfl (Nat.le_of_ble_eq_true rfl), same_arr s_und23 s_und5 s_siz5⟩, (List.forall_mem_cons.2 ⟨⟨_, shown_one (k := 2) s_und24 rfl rfl rfl (Nat.le_of_ble_eq_true rfl), same_int s_und24⟩, (fun _ h => by cases h)⟩)⟩)⟩))⟩
  · exact ⟨_, elem_sub (k := 3) (c := 3) s_und26 rfl s_siz26 rfl rfl (Nat.le_of_ble_eq_true rfl) w, (same_struct s_und26 (by kernel_rfl) (List.forall_mem_cons.2 ⟨⟨_, shown_one (k := 0) s_und4 rfl rfl rfl (Nat.le_of_ble_eq_true rfl), same_bool s_und4⟩, (List.forall_mem_cons.2 ⟨⟨_, shown_row (k := 1) s_und23 rfl s_siz23 rfl rfl (Nat.le_of_ble_eq_true rfl), same_arr s_und23 s_und5 s_siz5⟩, (List.forall_mem_cons.2 ⟨⟨_, shown_one (k := 2) s_und24 rfl rfl rfl (Nat.le_of_ble_eq_true rfl), same_int s_und24⟩, (fun _ h => by cases h)⟩)⟩)⟩))⟩
end Go.Proofs.YtbjaenjgahjikaaDoor
namespace Go.Proofs.YtbjaenjgahjikaaDoor
open Go Go.RowKit
end Go.Proofs.YtbjaenjgahjikaaDoor
namespace Go.Proofs.YtbjaenjgahjikaaDoor
open Go Go.RowKit
variable {G : Mem}
set_option maxHeartbeats 400000 in
theorem grow_zero (n : Nat) (hn : n = 0) : Fx Tryd.prog G [] 59 #[nilS, ii n] (fun v l1 nw => l1 = [] ∧ ∃ v', v = v' ∧ OwnS 5 1 v' 0 [] nw) := by
  refine QfN Tryd.func59 ?_
  refine Qs<|Qp<|(Qa)<|Qn<|Qs<|Qs<|Qp<|(Qm)<|(Ql)<|(Qaf)<|Qn<|(Qcf)<|Qk<|Qs<|Qs<|Qp<|(Qm)<|(Qm) ?_
  refine e_capSl (Uu 33) rfl rfl rfl ?_
  refine (Qm)<|(QC (shows_nil [] 1)) ?_
  refine e_sub_in rfl rfl rfl (by omega) (by omega) ?_
  refine e_as (show _ = ii 0 from rfl) ?_
  refine e_sub_in rfl rfl rfl (by omega) (by omega) ?_
  refine e_as (show _ = ii n from rfl) ?_
  refine (Qa)<|Qn<|Qs<|Qp<|(Qm)<|(QG)<|(Qaf)<|Qn<|(Qcf)<|Qk<|Qs<|Qp<|(Qm)<|(Qa)<|Qn<|Qr ?_
  exact ⟨_, _, _, 99, rfl, .tmp rfl, (own_nil _ _), rfl⟩
set_option maxHeartbeats 400000 in
theorem grow_some (n : Nat) (hn : 0 < n) (hm : n ≤ 1099511627776) : Fx Tryd.prog G [] 59 #[nilS, ii n] (fun v l1 nw => l1 = [] ∧ ∃ v', v = v' ∧ OwnS 5 1 v' 0 [] nw) := by
  refine QfN Tryd.func59 ?_
  refine Qs<|Qp<|(Qa)<|Qn<|Qs<|Qs<|Qp<|(Qm)<|(Ql)<|(Qaf)<|Qn<|(Qcf)<|Qk<|Qs<|Qs<|Qp<|(Qm)<|(Qm) ?_
  refine e_capSl (Uu 33) rfl rfl rfl ?_
  refine (Qm)<|(QC (shows_nil [] 1)) ?_
  refine e_sub_in rfl rfl rfl (by omega) (by omega) ?_
  refine e_as (show _ = ii 0 from rfl) ?_
  refine e_sub_in rfl rfl rfl (by omega) (by omega) ?_
  refine e_as (show _ = ii n from rfl) ?_
  refine (Qa)<|Qn<|Qs<|Qp<|(Qm)<|(QG)<|(Qat)<|Qn<|(Qct)<|Qp<|(Qm)<|(Qm) ?_
  refine e_capSl (Uu 33) rfl rfl rfl ?_
  refine e_sliceV 0 0 (shows_nil [] 1) (Uu 33) (Uz 5) rfl rfl rfl rfl ⟨_, rfl⟩ (by omega) (by omega) rfl ?_
  refine (Qm) ?_
  refine e_appendZ 0 (Uu 33) (Uu 3) (Uz 5) (Uy 5) (Ub 5) rfl rfl rfl (by omega) (by simp only [maxLen]; omega) (by omega) rfl fun v3_1 oz3_1 xs3_1 ho3_1 => ?_
  refine (Qm)<|(QC (shows_nil [] 1)) ?_
  refine e_sliceV 0 0 ho3_1.shows (Uu 33) (Uz 5) rfl rfl rfl rfl ⟨_, rfl⟩ (by omega) (by omega) rfl ?_
  refine (Qa)<|Qn<|Qs<|Qp<|(Qm)<|(Qa)<|Qn<|Qr ?_
  exact ⟨_, _, _, 0, rfl, .tmp rfl, (own_fix (OwnS.cut ho3_1 (Nat.zero_le _)) rfl rfl), rfl⟩
end Go.Proofs.YtbjaenjgahjikaaDoor
namespace Go.Proofs.YtbjaenjgahjikaaDoor
open Go Go.RowKit
theorem grow_fn {G : Mem} (n : Nat) (hm : n ≤ 1099511627776) : Fx Tryd.prog G [] 59 #[nilS, ii n] (fun v l1 nw => l1 = [] ∧ ∃ v', v = v' ∧ OwnS 5 1 v' 0 [] nw) := by
  by_cases h : n = 0
  · exact grow_zero n h
  · exact grow_some n (by omega) hm
variable {G : Mem}
set_option maxHeartbeats 2000000 in
theorem concat_fn (v : Value) (vs : List Value) (ls : List (List Nat)) (hv : Shows G 1 v vs.length vs) (hL : ShowsL G vs ls) (hn : vs.length ≤ 1099511627776) (hm : ls.flatten.length ≤ 1099511627776) : Fx Tryd.prog G [] 42 #[v] (fun v l1 nw => l1 = [] ∧ ∃ v', v = v' ∧ OwnS 5 1 v' ls.flatten.length (ls.flatten.map by8) nw) := by
  have hvl := hL.1
  have hup := upto_le ls
  refine QfN Tryd.func42 ?_
  refine Qs<|Qp<|(Qa)<|Qn<|Qs<|Qp<|(Qa)<|Qn<|Qs<|Qs<|Qp<|(Qm)<|(QC hv)<|(Qm)<|Qn<|Qb ?_
  refine QzK [(0, _), (2, _), (9, _), (10, _)] [] (fun kk E m => ∃ (i : Nat) (s : Nat), kk = vs.length - i ∧ E = [(3, ii s), (11, ii i)] ∧ m = [] ∧ (i ≤ vs.length) ∧ (s = (upto ls i).length)) ⟨0, 0, rfl, rfl, rfl, by omega, rfl⟩ ⟨rfl, rfl, rfl, rfl, rfl, rfl, trivial⟩ trivial ?_
  rintro kk E m ⟨i, s, rfl, rfl, rfl, hf0_0, hf0_1⟩
  simp only [catE, catL]
  have hs1 := hup (i + 1)
  have hs2 : i < ls.length → (upto ls (i + 1)).length = (upto ls i).length + (ls.getD i []).length := fun h => by rw [upto_next h, List.length_append]
  refine Qs<|Qp<|(Ql)<|Qn<|Qs ?_
  refine e_cond rfl ?_ ?_
  · intro hc0
    have hc0 : i < vs.length := by have := of_decide_eq_true hc0; omega
    refine Qk<|Qs<|Qb<|Qs<|Qp ?_
    refine e_atV hv (Uu 88) (Uz 33) rfl rfl (by omega) rfl ?_
    refine (QS) ?_
    refine e_loadV hv seenG (Uu 33) rfl rfl (get_getD (by omega)) rfl ?_
    refine (Qa)<|Qn<|Qs<|Qp<|(Qm)<|(Qm)<|(QC (hL.2 i (by omega))) ?_
    refine e_add_i rfl rfl rfl (by have := hs2 (by omega); omega) ?_
    refine (Qa)<|Qn<|Qs<|Qp<|(Qm)<|(Ql)<|(Qaf)<|Qn<|(Qcf)<|Qk<|Qp<|(Q2 1)<|(Qm)<|Qn ?_
    refine QzL ⟨i + 1, _, rfl, rfl, rfl, by omega, (by rw [upto_next (by omega), List.length_append, hf0_1])⟩ ⟨rfl, rfl, rfl, rfl, rfl, rfl, trivial⟩ trivial ?_
    omega
  · intro hc0
    have hc0 := of_decide_eq_false hc0
    have hz0 : i = vs.length := by omega
    refine Qe<|Qs<|QR ⟨[], 4, [], none⟩<|(Qm) ?_
    refine e_callN 0 (fun v => v) rfl rfl (Un 59) seenG (grow_fn s (by have := hup i; omega)) (by decide) rfl rfl rfl fun v2_1 oz2_1 ho2_1 => ?_
    refine (Qa)<|Qn<|Qs<|Qs<|Qp<|(Qm)<|(QC hv)<|(Qm)<|Qn<|Qb ?_
    refine QzK [(0, _), (2, _), (3, _), (9, _), (10, _), (11, _), (25, _), (26, _)] [] (fun kk E m => ∃ (j : Nat) (w : Value) (oz : Option Blk), kk = vs.length - j ∧ E = [(6, w), (27, ii j)] ∧ m = [(0, oz)] ∧ (j ≤ vs.length) ∧ (OwnS 5 1 w (upto ls j).length ((upto ls j).map by8) (Option.toList oz))) ⟨0, v2_1, oz2_1, rfl, rfl, rfl, by omega, ho2_1⟩ ⟨rfl, rfl, rfl, rfl, rfl, rfl, rfl, rfl, rfl, rfl, trivial⟩ ⟨rfl, trivial⟩ ?_
    rintro kk E m ⟨j, w, oz, rfl, rfl, rfl, hf1_0, hf1_1⟩
    simp only [catE, catL]
    have hs3 := hup (j + 1)
    have hs4 : j < ls.length → (upto ls (j + 1)).length = (upto ls j).length + (ls.getD j []).length := fun h => by rw [upto_next h, List.length_append]
    refine Qs<|Qp<|(Ql)<|Qn<|Qs ?_
    refine e_cond rfl ?_ ?_
    · intro hc2
      have hc2 : j < vs.length := by have := of_decide_eq_true hc2; omega
      refine Qk<|Qs<|Qb<|Qs<|Qp ?_
      refine e_atV hv (Uu 88) (Uz 33) rfl rfl (by omega) rfl ?_
      refine (QS) ?_
      refine e_loadV hv seenG (Uu 33) rfl rfl (get_getD (by omega)) rfl ?_
      refine (Qa)<|Qn<|Qp<|(Qm)<|(Qm) ?_
      refine e_append 0 hf1_1 (hL.2 j (by omega)) rfl seenG (Uu 33) (Uz 5) (Uy 5) (Ub 5) (by rfl) rfl rfl by8_one (by have := hs4 (by omega); simp only [maxLen]; omega) (by have := hs4 (by omega); omega) rfl fun v3_2 oz3_2 ho3_2 => ?_
      refine (Qa)<|Qn<|Qp<|(Q2 1)<|(Qm)<|Qn ?_
      refine QzL ⟨j + 1, _, _, rfl, rfl, rfl, by omega, (own_fix ho3_2 (by rw [upto_next (by omega), List.length_append]) (by rw [upto_next (by omega), List.map_append]))⟩ ⟨rfl, rfl, rfl, rfl, rfl, rfl, rfl, rfl, rfl, rfl, trivial⟩ ⟨rfl, trivial⟩ ?_
      omega
    · intro hc2
      have hc2 := of_decide_eq_false hc2
      have hz1 : j = vs.length := by omega
      refine Qe<|Qs<|Qp<|(Qm)<|(Qa)<|Qn<|Qr ?_
      exact ⟨_, _, _, 0, rfl, .tmp rfl, (own_fix hf1_1 (by rw [hz1, hvl, upto_all]) (by rw [hz1, hvl, upto_all])), rfl⟩
set_option maxHeartbeats 400000 in
theorem dfill_fn (n : Nat) : Fx Tryd.prog G [] 94 #[ii n] (fun v l1 nw => l1 = [] ∧ ∃ v', v = v' ∧ OwnS 5 1 v' ((16 - n % 16) % 16) ((zrs ((16 - n % 16) % 16)).map by8) nw) := by
  refine QfN Tryd.func94 ?_
  refine Qs<|Qp<|(Qa)<|Qn<|Qs<|Qp<|(Qm)<|(Q4 16) ?_
  refine e_sub_in (p := 16) rfl rfl rfl (by omega) (by omega) ?_
  refine (Q4 16) ?_
  refine e_make 0 (Uu 33) (Uz 5) (Uy 5) (Ub 5) rfl rfl rfl (by omega) (by omega) rfl fun r1 => ?_
  refine (Qa)<|Qn<|Qr ?_
  exact ⟨_, _, _, 0, rfl, .tmp rfl, (own_made (zrs_len _) (by simp only [maxLen]; omega) (fun j hj => zrs_at hj)), rfl⟩
set_option maxHeartbeats 2000000 in
theorem deight_fn (n : Nat) : Fx Tryd.prog G [] 95 #[ii n] (fun v l1 nw => l1 = [] ∧ ∃ v', v = v' ∧ OwnS 5 1 v' 8 ((lowl n 8).map by8) nw) := by
  refine QfN Tryd.func95 ?_
  refine Qs<|Qp<|(Qa)<|Qn<|Qs<|Qp ?_
  refine e_make 0 (l := 8) (Uu 33) (Uz 5) (Uy 5) (Ub 5) rfl rfl rfl (by omega) (by omega) rfl fun r1 => ?_
  refine (Qa)<|Qn<|Qs<|Qs<|Qp<|(Qm) ?_
  refine e_lenSl (Uu 33) rfl rfl rfl ?_
  refine (Qm)<|Qn<|Qb ?_
  refine QzK [(0, _), (2, _), (3, _), (7, _)] [] (fun kk E m => ∃ (i : Nat) (s : Nat → Nat), kk = 8 - i ∧ E = [(8, ii i)] ∧ m = [(0, some ⟨r1, arr .u8 8 s, 5⟩)] ∧ (i ≤ 8) ∧ (∀ t, t < i → s t = (lowl n 8).getD t 0)) ⟨0, fun _ => 0, rfl, rfl, rfl, by omega, fun t ht => absurd ht (Nat.not_lt_zero t)⟩ ⟨rfl, rfl, rfl, rfl, rfl, trivial⟩ ⟨rfl, trivial⟩ ?_
  rintro kk E m ⟨i, s, rfl, rfl, rfl, hf0_0, hf0_1⟩
  simp only [catE, catL]
  refine Qs<|Qp<|(Ql)<|Qn<|Qs ?_
  refine e_cond rfl ?_ ?_
  · intro hc0
    have hc0 : i < 8 := by have := of_decide_eq_true hc0; omega
    refine Qk<|Qs<|Qb<|Qs<|Qp<|(Qm)<|(Qa)<|Qn<|Qp<|(Qm)<|(Qm)<|(Qm)<|(Qm)<|(Q7 8) ?_
    refine e_shr_i rfl rfl rfl (by omega) ?_
    refine e_conv_u8 (Uu 3) (Uu 5) rfl rfl rfl ?_
    refine e_atSl (i) (Uu 33) (Uz 5) rfl rfl (by omega) (by omega) rfl ?_
    refine (Qu 0)<|Qn<|Qp<|(Q2 1)<|(Qm)<|Qn ?_
    refine QzL ⟨i + 1, upd s i _, rfl, rfl, rfl, by omega, upd_lt hf0_1 (low_at n (by omega))⟩ ⟨rfl, rfl, rfl, rfl, rfl, trivial⟩ ⟨rfl, trivial⟩ ?_
    omega
  · intro hc0
    have hc0 := of_decide_eq_false hc0
    have hz0 : i = 8 := by omega
    subst hz0
    refine Qe<|Qs<|Qp<|(Qm)<|(Qa)<|Qn<|Qr ?_
    exact ⟨_, _, _, 0, rfl, .tmp rfl, (own_made (lowl_len n 8) (by decide) hf0_1), rfl⟩
end Go.Proofs.YtbjaenjgahjikaaDoor
namespace Go.Proofs.YtbjaenjgahjikaaDoor
open Go Go.RowKit
variable {G : Mem}
set_option maxHeartbeats 400000 in
theorem rot32_fn (x s : Nat) (hs : s < 32) : Fn Tryd.prog G 101 #[uw x, ii s] (uw (rotl x s)) := by
  refine Qf1 Tryd.func101 ?_
  refine Qs<|Qp<|(Qa)<|Qn<|Qs<|Qp<|(Qm) ?_
  refine e_conv_u (Uu 3) (Uu 137) rfl rfl rfl ?_
  refine e_as (congrArg u (Nat.mod_eq_of_lt (show s < 18446744073709551616 by omega))) ?_
  refine (Q9 31) ?_
  refine e_as (congrArg u (and31 hs)) ?_
  refine (Qa)<|Qn<|Qs<|Qp<|(Qm)<|(Qm) ?_
  refine e_shl_w rfl rfl rfl (by omega) ?_
  refine (Qm)<|(Qm) ?_
  refine e_sub_u (p := 32) rfl rfl rfl (by omega) ?_
  refine e_as (congrArg u (show (32 + 18446744073709551616 - s) % 18446744073709551616 = 32 - s by omega)) ?_
  refine e_shr_w rfl rfl rfl (by omega) ?_
  refine e_or_w rfl rfl rfl  ?_
  refine (Qa)<|Qn<|Qr ?_
  exact ⟨_, rfl, .tmp rfl⟩
set_option maxHeartbeats 400000 in
theorem quarter_fn (f : Nat → Nat) (r a b c d : Nat) (ha : a < 16) (hb : b < 16) (hc : c < 16) (hd : d < 16) : Fx Tryd.prog G [⟨r, arr .u32 16 f, 120⟩] 102 #[ii a, ii b, ii c, ii d, ptr r] (fun v l1 nw => v = .tuple #[] ∧ l1 = [⟨r, arr .u32 16 (qst f a b c d), 120⟩] ∧ nw = []) := by
  refine QfW Tryd.func102 ?_
  refine Qs<|(Qg)<|(Qm)<|(Qi)<|(Q1 0)<|(Qm)<|(Qi)<|(Q1 0) ?_
  refine e_add_w rfl rfl rfl  ?_
  refine (Qi)<|(Qu 0)<|Qn<|Qs<|(Qg)<|(Qm)<|(Qm)<|(Qi)<|(Q1 0)<|(Qm)<|(Qi)<|(Q1 0) ?_
  refine e_xor_w rfl rfl rfl  ?_
  refine e_call rfl (Un 101) (rot32_fn _ _ (by decide)) rfl rfl ?_
  refine (Qi)<|(Qu 0)<|Qn<|Qs<|(Qg)<|(Qm)<|(Qi)<|(Q1 0)<|(Qm)<|(Qi)<|(Q1 0) ?_
  refine e_add_w rfl rfl rfl  ?_
  refine (Qi)<|(Qu 0)<|Qn<|Qs<|(Qg)<|(Qm)<|(Qm)<|(Qi)<|(Q1 0)<|(Qm)<|(Qi)<|(Q1 0) ?_
  refine e_xor_w rfl rfl rfl  ?_
  refine e_call rfl (Un 101) (rot32_fn _ _ (by decide)) rfl rfl ?_
  refine (Qi)<|(Qu 0)<|Qn<|Qs<|(Qg)<|(Qm)<|(Qi)<|(Q1 0)<|(Qm)<|(Qi)<|(Q1 0) ?_
  refine e_add_w rfl rfl rfl  ?_
  refine (Qi)<|(Qu 0)<|Qn<|Qs<|(Qg)<|(Qm)<|(Qm)<|(Qi)<|(Q1 0)<|(Qm)<|(Qi)<|(Q1 0) ?_
  refine e_xor_w rfl rfl rfl  ?_
  refine e_call rfl (Un 101) (rot32_fn _ _ (by decide)) rfl rfl ?_
  refine (Qi)<|(Qu 0)<|Qn<|Qs<|(Qg)<|(Qm)<|(Qi)<|(Q1 0)<|(Qm)<|(Qi)<|(Q1 0) ?_
  refine e_add_w rfl rfl rfl  ?_
  refine (Qi)<|(Qu 0)<|Qn<|(Qg)<|(Qm)<|(Qm)<|(Qi)<|(Q1 0)<|(Qm)<|(Qi)<|(Q1 0) ?_
  refine e_xor_w rfl rfl rfl  ?_
  refine e_call rfl (Un 101) (rot32_fn _ _ (by decide)) rfl rfl ?_
  refine (Qi)<|(Qu 0)<|Qn ?_
  exact ⟨rfl, 0, rfl⟩
set_option maxHeartbeats 2000000 in
theorem rounds_fn (f : Nat → Nat) : Fn Tryd.prog G 90 #[.agg (arr .u32 16 f)] (.agg (arr .u32 16 (dbls f 10))) := by
  refine Qf1 Tryd.func90 ?_
  refine Qs<|Qp<|(Qh 0) fun r1=>(QH 1) fun r2=>Qn<|Qs<|Qp<|(QY)<|(Qa)<|Qn<|Qs<|Qs<|Qp<|(Qm)<|Qn<|Qb ?_
  refine Qz (fun kk E m => ∃ (n : Nat), kk = 10 - n ∧ E = [(1, ptr r1), (2, ptr r2), (3, .func (.func 102) #[] #[ptr r1]), (7, ii n)] ∧ m = [(0, some ⟨r1, arr .u32 16 (twoN f n), 120⟩), (1, some ⟨r2, arr .u32 16 (fun _ => 0), 120⟩)] ∧ (n ≤ 10)) ⟨0, rfl, rfl, rfl, by omega⟩ ⟨rfl, rfl, rfl, rfl, trivial⟩ ⟨rfl, rfl, trivial⟩ ?_
  rintro kk E m ⟨n, rfl, rfl, rfl, hf0_0⟩
  refine Qs<|Qp<|(Ql)<|Qn<|Qs ?_
  refine e_cond rfl ?_ ?_
  · intro hc0
    have hc0 := of_decide_eq_true hc0
    refine Qk<|Qs<|Qb<|Qs<|Qs<|Qp<|(Qm)<|Qn<|Qb ?_
    refine Qz (fun kk E m => ∃ (i : Nat), kk = 4 - i ∧ E = [(1, ptr r1), (2, ptr r2), (3, .func (.func 102) #[] #[ptr r1]), (7, ii n), (9, ii i)] ∧ m = [(0, some ⟨r1, arr .u32 16 (colN (twoN f n) i), 120⟩), (1, some ⟨r2, arr .u32 16 (fun _ => 0), 120⟩)] ∧ (i ≤ 4)) ⟨0, rfl, rfl, rfl, by omega⟩ ⟨rfl, rfl, rfl, rfl, rfl, trivial⟩ ⟨rfl, rfl, trivial⟩ ?_
    rintro kk E m ⟨i, rfl, rfl, rfl, hf1_0⟩
    refine Qs<|Qp<|(Ql)<|Qn<|Qs ?_
    refine e_cond rfl ?_ ?_
    · intro hc1
      have hc1 := of_decide_eq_true hc1
      refine Qk<|Qs<|Qb<|Qs<|Qp<|(Qm)<|(Qa)<|Qn<|QR ⟨[], 5, [], none⟩<|(Qm)<|(Qm)<|(Qm) ?_
      refine e_add_i (p := 4) rfl rfl rfl (by omega) ?_
      refine (Qm) ?_
      refine e_add_i (p := 8) rfl rfl rfl (by omega) ?_
      refine (Qm) ?_
      refine e_add_i (p := 12) rfl rfl rfl (by omega) ?_
      refine e_callW 0 rfl rfl (Un 102) rfl (by simp) (quarter_fn (G := []) _ r1 i (4 + i) (8 + i) (12 + i) (by omega) (by omega) (by omega) (by omega)) rfl rfl ?_
      refine Qn<|Qp<|(Q2 1)<|(Qm)<|Qn ?_
      refine Qzr ⟨i + 1, rfl, rfl, rfl, by omega⟩ ⟨rfl, rfl, rfl, rfl, rfl, trivial⟩ ⟨rfl, rfl, trivial⟩ ?_
      omega
    · intro hc1
      have hc1 := of_decide_eq_false hc1
      have hz1 : i = 4 := by omega
      subst hz1
      refine Qe<|Qs<|Qp<|(Qm)<|Qn<|Qb ?_
      refine Qz (fun kk E m => ∃ (j : Nat), kk = 4 - j ∧ E = [(1, ptr r1), (2, ptr r2), (3, .func (.func 102) #[] #[ptr r1]), (7, ii n), (22, ii j)] ∧ m = [(0, some ⟨r1, arr .u32 16 (diaN (colN (twoN f n) 4) j), 120⟩), (1, some ⟨r2, arr .u32 16 (fun _ => 0), 120⟩)] ∧ (j ≤ 4)) ⟨0, rfl, rfl, rfl, by omega⟩ ⟨rfl, rfl, rfl, rfl, rfl, trivial⟩ ⟨rfl, rfl, trivial⟩ ?_
      rintro kk E m ⟨j, rfl, rfl, rfl, hf2_0⟩
      refine Qs<|Qp<|(Ql)<|Qn<|Qs ?_
      refine e_cond rfl ?_ ?_
      · intro hc2
        have hc2 := of_decide_eq_true hc2
        refine Qk<|Qs<|Qb<|Qs<|Qp<|(Qm)<|(Qa)<|Qn<|QR ⟨[], 5, [], none⟩<|(Qm)<|(Qm)<|(Qm)<|(Q2 1)<|(Q4 4) ?_
        refine e_add_i (p := 4) rfl rfl rfl (by omega) ?_
        refine (Qm)<|(Q2 2)<|(Q4 4) ?_
        refine e_add_i (p := 8) rfl rfl rfl (by omega) ?_
        refine (Qm)<|(Q2 3)<|(Q4 4) ?_
        refine e_add_i (p := 12) rfl rfl rfl (by omega) ?_
        refine e_callW 0 rfl rfl (Un 102) rfl (by simp) (quarter_fn (G := []) _ r1 j (4 + (j + 1) % 4) (8 + (j + 2) % 4) (12 + (j + 3) % 4) (by omega) (by omega) (by omega) (by omega)) rfl rfl ?_
        refine Qn<|Qp<|(Q2 1)<|(Qm)<|Qn ?_
        refine Qzr ⟨j + 1, rfl, rfl, rfl, by omega⟩ ⟨rfl, rfl, rfl, rfl, rfl, trivial⟩ ⟨rfl, rfl, trivial⟩ ?_
        omega
      · intro hc2
        have hc2 := of_decide_eq_false hc2
        have hz2 : j = 4 := by omega
        subst hz2
        refine Qe<|Qp<|(Q2 1)<|(Qm)<|Qn ?_
        refine Qzr ⟨n + 1, rfl, rfl, rfl, by omega⟩ ⟨rfl, rfl, rfl, rfl, trivial⟩ ⟨rfl, rfl, trivial⟩ ?_
        omega
  · intro hc0
    have hc0 := of_decide_eq_false hc0
    have hz0 : n = 10 := by omega
    subst hz0
    refine Qe<|Qs<|Qp<|(Qd 0)<|(Qt 1)<|Qn<|Qr ?_
    rw [← arr_congr (k := .u32) (n := 16) (twoN_dbls f 10)]
    exact ⟨_, rfl, .cell (i := 1) rfl rfl (Uu 120) rfl (Uz 120) (arr_size _ _ _)⟩
end Go.Proofs.YtbjaenjgahjikaaDoor
namespace Go.Proofs.YtbjaenjgahjikaaDoor
open Go Go.RowKit
variable {G : Mem}
set_option maxHeartbeats 2000000 in
theorem start_fn (k : Nat → Nat) (c : Nat) (nn : Nat → Nat) (hk : L8 32 k) (hn : L8 12 nn) (hc : c < 4294967296) : Fn Tryd.prog G 89 #[.agg (arr .u8 32 k), uw c, .agg (arr .u8 12 nn)] (.agg (arr .u32 16 (wrd (allb k c nn)))) := by
  refine Qf1 Tryd.func89 ?_
  refine Qs<|Qp<|(Qh 0) fun r1=>(Qh 1) fun r2=>(QH 2) fun r3=>Qn<|Qs<|Qp<|(Qm) ?_
  refine e_build (arr .u32 16 (fun t => if t = 0 then 1634760805 else if t = 1 then 857760878 else if t = 2 then 2036477234 else if t = 3 then 1797285236 else if t = 12 then c else 0)) (Ub 120 rfl) (Uu 120 rfl) (Uz 63 rfl) rfl (by kernel_rfl) rfl ?_
  refine (QH 3) fun r4=>(Qt 3)<|Qn<|Qs<|Qs<|Qp<|(Qd 0)<|(Qm)<|Qn<|Qb ?_
  refine Qz (fun kk E m => ∃ (i : Nat) (s : Nat → Nat), kk = 32 - i ∧ E = [(3, ptr r1), (5, ptr r2), (6, ptr r3), (7, ptr r4), (14, .agg (arr .u8 32 k)), (15, ii i)] ∧ m = [(0, some ⟨r1, arr .u8 32 k, 23⟩), (1, some ⟨r2, arr .u8 12 nn, 80⟩), (2, some ⟨r3, arr .u32 16 (fun _ => 0), 120⟩), (3, some ⟨r4, arr .u32 16 s, 120⟩)] ∧ (i ≤ 32) ∧ (∀ t, t < 16 → s t = stw k c nn i 0 t)) ⟨0, (fun t => if t = 0 then 1634760805 else if t = 1 then 857760878 else if t = 2 then 2036477234 else if t = 3 then 1797285236 else if t = 12 then c else 0), rfl, rfl, rfl, by omega, stw_first k c nn⟩ ⟨rfl, rfl, rfl, rfl, rfl, rfl, trivial⟩ ⟨rfl, rfl, rfl, rfl, trivial⟩ ?_
  rintro kk E m ⟨i, s, rfl, rfl, rfl, hf0_0, hf0_1⟩
  refine Qs<|Qp<|(Ql)<|Qn<|Qs ?_
  refine e_cond rfl ?_ ?_
  · intro hc0
    have hc0 := of_decide_eq_true hc0
    refine Qk<|Qs<|Qb<|Qs<|Qp<|(Qm)<|(QX)<|(Qa)<|(Qa)<|Qn<|(Qg)<|(Qm)<|(Q5 4) ?_
    refine e_add_i (p := 4) rfl rfl rfl (by omega) ?_
    refine (Qi)<|(Q1 3)<|(Qm) ?_
    refine e_conv_w (Uu 5) (Uu 63) rfl rfl rfl ?_
    refine e_as (congrArg uw (Nat.mod_eq_of_lt (Nat.lt_trans (hk i (by omega)) (by decide)))) ?_
    refine (Qm)<|(Q4 4)<|(Q6 8) ?_
    refine e_shl_w rfl rfl rfl (by omega) ?_
    refine e_or_w rfl rfl rfl  ?_
    refine (Qi)<|(Qu 3)<|Qn<|Qp<|(Q2 1)<|(Qm)<|Qn ?_
    refine Qzr ⟨i + 1, upd s (4 + i / 4) _, rfl, rfl, rfl, by omega, stw_key hk (by omega) hf0_1⟩ ⟨rfl, rfl, rfl, rfl, rfl, rfl, trivial⟩ ⟨rfl, rfl, rfl, rfl, trivial⟩ ?_
    omega
  · intro hc0
    have hc0 := of_decide_eq_false hc0
    have hz0 : i = 32 := by omega
    subst hz0
    refine Qe<|Qs<|Qs<|Qp<|(Qd 1)<|(Qm)<|Qn<|Qb ?_
    refine Qz (fun kk E m => ∃ (q : Nat) (s2 : Nat → Nat), kk = 12 - q ∧ E = [(3, ptr r1), (5, ptr r2), (6, ptr r3), (7, ptr r4), (33, .agg (arr .u8 12 nn)), (34, ii q)] ∧ m = [(0, some ⟨r1, arr .u8 32 k, 23⟩), (1, some ⟨r2, arr .u8 12 nn, 80⟩), (2, some ⟨r3, arr .u32 16 (fun _ => 0), 120⟩), (3, some ⟨r4, arr .u32 16 s2, 120⟩)] ∧ (q ≤ 12) ∧ (∀ t, t < 16 → s2 t = stw k c nn 32 q t)) ⟨0, s, rfl, rfl, rfl, by omega, hf0_1⟩ ⟨rfl, rfl, rfl, rfl, rfl, rfl, trivial⟩ ⟨rfl, rfl, rfl, rfl, trivial⟩ ?_
    rintro kk E m ⟨q, s2, rfl, rfl, rfl, hf1_0, hf1_1⟩
    refine Qs<|Qp<|(Ql)<|Qn<|Qs ?_
    refine e_cond rfl ?_ ?_
    · intro hc1
      have hc1 := of_decide_eq_true hc1
      refine Qk<|Qs<|Qb<|Qs<|Qp<|(Qm)<|(QX)<|(Qa)<|(Qa)<|Qn<|(Qg)<|(Qm)<|(Q5 4) ?_
      refine e_add_i (p := 13) rfl rfl rfl (by omega) ?_
      refine (Qi)<|(Q1 3)<|(Qm) ?_
      refine e_conv_w (Uu 5) (Uu 63) rfl rfl rfl ?_
      refine e_as (congrArg uw (Nat.mod_eq_of_lt (Nat.lt_trans (hn q (by omega)) (by decide)))) ?_
      refine (Qm)<|(Q4 4)<|(Q6 8) ?_
      refine e_shl_w rfl rfl rfl (by omega) ?_
      refine e_or_w rfl rfl rfl  ?_
      refine (Qi)<|(Qu 3)<|Qn<|Qp<|(Q2 1)<|(Qm)<|Qn ?_
      refine Qzr ⟨q + 1, upd s2 (13 + q / 4) _, rfl, rfl, rfl, by omega, stw_nonce hn (by omega) hf1_1⟩ ⟨rfl, rfl, rfl, rfl, rfl, rfl, trivial⟩ ⟨rfl, rfl, rfl, rfl, trivial⟩ ?_
      omega
    · intro hc1
      have hc1 := of_decide_eq_false hc1
      have hz1 : q = 12 := by omega
      subst hz1
      refine Qe<|Qs<|Qp<|(Qd 3)<|(Qt 2)<|Qn<|Qr ?_
      rw [← arr_congr (k := .u32) (n := 16) (stw_end k nn hc), ← arr_congr (k := .u32) (n := 16) hf1_1]
      exact ⟨_, rfl, .cell (i := 2) rfl rfl (Uu 120) rfl (Uz 120) (arr_size _ _ _)⟩
set_option maxHeartbeats 2000000 in
theorem block_fn (k : Nat → Nat) (c : Nat) (nn : Nat → Nat) (hk : L8 32 k) (hn : L8 12 nn) (hc : c < 4294967296) : Fn Tryd.prog G 78 #[.agg (arr .u8 32 k), uw c, .agg (arr .u8 12 nn)] (.agg (arr .u8 64 (blkf k c nn))) := by
  obtain ⟨w, hw⟩ : ∃ w, w = wrd (allb k c nn) := ⟨_, rfl⟩
  obtain ⟨v, hv⟩ : ∃ v, v = dbls (wrd (allb k c nn)) 10 := ⟨_, rfl⟩
  refine Qf1 Tryd.func78 ?_
  refine Qs<|Qp<|(Qh 0) fun r1=>(Qh 1) fun r2=>(QH 2) fun r3=>Qn<|Qs<|Qp<|(Qd 0)<|(Qm)<|(Qd 1) ?_
  refine e_call rfl (Un 89) (start_fn k c nn hk hn hc) rfl rfl ?_
  refine e_as (congrArg (fun f => Value.agg (arr .u32 16 f)) hw.symm) ?_
  refine (QH 3) fun r4=>(Qt 3)<|Qn<|Qs<|Qp<|(Qd 3) ?_
  refine e_call rfl (Un 90) (rounds_fn w) rfl rfl ?_
  refine e_as (congrArg (fun f => Value.agg (arr .u32 16 f)) (show dbls w 10 = v by rw [hv, hw])) ?_
  refine (QH 4) fun r5=>(Qt 4)<|Qn<|Qs<|Qp<|(QH 5) fun r6=>Qn<|Qs<|Qs<|Qp<|(Qm)<|Qn<|Qb ?_
  refine Qz (fun kk E m => ∃ (i : Nat) (s : Nat → Nat), kk = 64 - i ∧ E = [(6, ptr r3), (7, ptr r4), (8, ptr r5), (9, ptr r6), (17, ii i)] ∧ m = [(0, some ⟨r1, arr .u8 32 k, 23⟩), (1, some ⟨r2, arr .u8 12 nn, 80⟩), (2, some ⟨r3, arr .u8 64 (fun _ => 0), 65⟩), (3, some ⟨r4, arr .u32 16 w, 120⟩), (4, some ⟨r5, arr .u32 16 v, 120⟩), (5, some ⟨r6, arr .u8 64 s, 65⟩)] ∧ (i ≤ 64) ∧ (∀ t, t < i → s t = blkf k c nn t)) ⟨0, fun _ => 0, rfl, rfl, rfl, by omega, fun t ht => absurd ht (Nat.not_lt_zero t)⟩ ⟨rfl, rfl, rfl, rfl, rfl, trivial⟩ ⟨rfl, rfl, rfl, rfl, rfl, rfl, trivial⟩ ?_
  rintro kk E m ⟨i, s, rfl, rfl, rfl, hf0_0, hf0_1⟩
  refine Qs<|Qp<|(Ql)<|Qn<|Qs ?_
  refine e_cond rfl ?_ ?_
  · intro hc0
    have hc0 := of_decide_eq_true hc0
    refine Qk<|Qs<|Qb<|Qs<|Qp<|(Qm)<|(Qa)<|Qn<|(Qg)<|(Qm)<|(Qm)<|(Q5 4)<|(Qi)<|(Q1 4)<|(Qm)<|(Q5 4)<|(Qi)<|(Q1 3) ?_
    refine e_add_w rfl rfl rfl  ?_
    refine (Qm)<|(Q4 4)<|(Q6 8) ?_
    refine e_shr_w rfl rfl rfl (by omega) ?_
    refine e_conv_u8 (Uu 63) (Uu 5) rfl rfl rfl ?_
    refine (Qi)<|(Qu 5)<|Qn<|Qp<|(Q2 1)<|(Qm)<|Qn ?_
    refine Qzr ⟨i + 1, upd s i _, rfl, rfl, rfl, by omega, upd_lt hf0_1 (blk_at k c nn hv hw (by omega))⟩ ⟨rfl, rfl, rfl, rfl, rfl, trivial⟩ ⟨rfl, rfl, rfl, rfl, rfl, rfl, trivial⟩ ?_
    omega
  · intro hc0
    have hc0 := of_decide_eq_false hc0
    have hz0 : i = 64 := by omega
    subst hz0
    refine Qe<|Qs<|Qp<|(Qd 5)<|(Qt 2)<|Qn<|Qr ?_
    rw [← arr_congr (k := .u8) (n := 64) hf0_1]
    exact ⟨_, rfl, .cell (i := 2) rfl rfl (Uu 65) rfl (Uz 65) (arr_size _ _ _)⟩
end Go.Proofs.YtbjaenjgahjikaaDoor
namespace Go.Proofs.YtbjaenjgahjikaaDoor
open Go Go.RowKit
variable {G : Mem}
set_option maxHeartbeats 400000 in
theorem blocks_fn (n : Nat) (hn : n < 9223372036854775808) : Fn Tryd.prog G 88 #[ii n] (u ((n + 63) / 64)) := by
  refine Qf1 Tryd.func88 ?_
  refine Qs<|Qp<|(Qa)<|Qn<|Qs<|Qp<|(Qm) ?_
  refine e_conv_u (Uu 3) (Uu 24) rfl rfl rfl ?_
  refine e_as (congrArg u (Nat.mod_eq_of_lt (show n < 18446744073709551616 by omega))) ?_
  refine e_add_u (q := 63) rfl rfl rfl  ?_
  refine e_as (congrArg u (Nat.mod_eq_of_lt (show n + 63 < 18446744073709551616 by omega))) ?_
  refine e_quo_u (q := 64) rfl rfl rfl (by omega) (by omega) ?_
  refine (Qa)<|Qn<|Qr ?_
  exact ⟨_, rfl, .tmp rfl⟩
set_option maxHeartbeats 2000000 in
theorem stream_ok (k : Nat → Nat) (c : Nat) (nn : Nat → Nat) (v : Value) (l : List Nat) (hv : Sh G v l) (hk : L8 32 k) (hn : L8 12 nn) (hc : c < 4294967296) (hl : l.length ≤ 1600) (ho : ¬ 64 * (4294967296 - c) < l.length) : Fx Tryd.prog G [] 77 #[.agg (arr .u8 32 k), uw c, .agg (arr .u8 12 nn), v] (fun v l1 nw => l1 = [] ∧ ∃ v', v = .tuple #[v', ii 0] ∧ OwnS 5 1 v' (l.length - 0) ((strl k c nn l 0).map by8) nw) := by
  refine QfM Tryd.func77 ?_
  refine Qs<|Qp<|(Qh 0) fun r1=>(Qh 1) fun r2=>(Qa)<|(Qa)<|Qn<|Qs<|Qs<|Qp<|(Qm)<|(QC hv)<|(QG)<|(Qaf)<|Qn<|(Qcf)<|Qk<|Qs<|Qs<|Qp<|(Qm) ?_
  refine e_conv_u (Uu 63) (Uu 24) rfl rfl rfl ?_
  refine e_as (congrArg u (Nat.mod_eq_of_lt (show c < 18446744073709551616 by omega))) ?_
  refine (Qm)<|(QC hv) ?_
  refine e_call rfl (Un 88) (blocks_fn _ (by omega)) rfl rfl ?_
  refine e_add_u rfl rfl rfl  ?_
  refine e_as (congrArg u (Nat.mod_eq_of_lt (show c + (l.length + 63) / 64 < 18446744073709551616 by omega))) ?_
  refine (QG)<|(Qaf)<|Qn<|(Qcf)<|Qk<|Qs<|Qp<|(Qm)<|(QC hv) ?_
  refine e_make 2 (Uu 33) (Uz 5) (Uy 5) (Ub 5) rfl rfl rfl (by omega) (by omega) rfl fun r3 => ?_
  refine (Qa)<|Qn<|Qs<|Qp<|(QH 3) fun r4=>Qn<|Qs<|Qs<|Qp<|(Qm)<|(QC hv)<|(Qm)<|Qn<|Qb ?_
  refine Qz (fun kk E m => ∃ (i : Nat) (s : Nat → Nat) (p : Nat → Nat), kk = l.length - i ∧ E = [(1, uw c), (4, ptr r1), (6, ptr r2), (10, .slice (some ⟨r3, 0, none⟩) l.length l.length), (11, ptr r4), (27, v), (28, ii l.length), (29, ii i)] ∧ m = [(0, some ⟨r1, arr .u8 32 k, 23⟩), (1, some ⟨r2, arr .u8 12 nn, 80⟩), (2, some ⟨r3, arr .u8 l.length s, 5⟩), (3, some ⟨r4, arr .u8 64 p, 65⟩)] ∧ (i ≤ l.length) ∧ (∀ t, t < i → s t = strv k c nn l t) ∧ (i % 64 ≠ 0 → ∀ t, t < 64 → p t = blkf k ((c + i / 64 % 4294967296) % 4294967296) nn t)) ⟨0, fun _ => 0, fun _ => 0, rfl, rfl, rfl, by omega, fun t ht => absurd ht (Nat.not_lt_zero t), fun h => absurd rfl h⟩ ⟨rfl, rfl, rfl, rfl, rfl, rfl, rfl, rfl, trivial⟩ ⟨rfl, rfl, rfl, rfl, trivial⟩ ?_
  rintro kk E m ⟨i, s, p, rfl, rfl, rfl, hf0_0, hf0_1, hf0_2⟩
  refine Qs<|Qp<|(Ql)<|Qn<|Qs ?_
  refine e_cond rfl ?_ ?_
  · intro hc2
    have hc2 := of_decide_eq_true hc2
    refine Qk<|Qs<|Qb<|Qs<|Qp<|(Qm) ?_
    refine e_atV hv (Uu 33) (Uz 5) rfl rfl (by omega) rfl ?_
    refine (QS) ?_
    refine e_loadV hv seenG (Uu 5) rfl rfl (nth_by8 (show i < l.length by omega)) rfl ?_
    refine (Qa)<|(Qa)<|Qn<|Qs<|Qs<|Qp<|(Qm)<|(Q4 64)<|(Qc)<|Qn ?_
    refine e_cond rfl ?_ ?_
    · intro hc3
      have hc3 := of_decide_eq_true hc3
      refine Qp<|(Qd 0)<|(Qm)<|(Qm)<|(Q5 64) ?_
      refine e_conv_w (Uu 3) (Uu 63) rfl rfl rfl ?_
      refine e_add_w rfl rfl rfl  ?_
      refine (Qd 1) ?_
      refine e_call rfl (Un 78) (block_fn k _ nn hk hn (Nat.mod_lt _ (by decide))) rfl rfl ?_
      refine (Qt 3)<|Qn<|Qp<|(Qm)<|(Qm)<|(Qm)<|(Qm)<|(Q4 64)<|(Qi)<|(Q1 3) ?_
      refine e_xor_b rfl rfl rfl  ?_
      refine e_atSl (i) (Uu 33) (Uz 5) rfl rfl (by omega) (by omega) rfl ?_
      refine (Qu 2)<|Qn<|Qp<|(Q2 1)<|(Qm)<|Qn ?_
      refine Qzr ⟨i + 1, upd s i _, _, rfl, rfl, rfl, by omega, upd_lt hf0_1 (strv_in k c nn _ l (by omega) (by first | rfl | exact hf0_2 (by omega) _ (by omega))), fun h t ht => by rw [show (i + 1) / 64 = i / 64 by omega] <;> exact hf0_2 (by omega) t ht⟩ ⟨rfl, rfl, rfl, rfl, rfl, rfl, rfl, rfl, trivial⟩ ⟨rfl, rfl, rfl, rfl, trivial⟩ ?_
      omega
    · intro hc3
      have hc3 := of_decide_eq_false hc3
      refine Qk<|Qp<|(Qm)<|(Qm)<|(Qm)<|(Qm)<|(Q4 64)<|(Qi)<|(Q1 3) ?_
      refine e_xor_b rfl rfl rfl  ?_
      refine e_atSl (i) (Uu 33) (Uz 5) rfl rfl (by omega) (by omega) rfl ?_
      refine (Qu 2)<|Qn<|Qp<|(Q2 1)<|(Qm)<|Qn ?_
      refine Qzr ⟨i + 1, upd s i _, _, rfl, rfl, rfl, by omega, upd_lt hf0_1 (strv_in k c nn _ l (by omega) (by first | rfl | exact hf0_2 (by omega) _ (by omega))), fun h t ht => by rw [show (i + 1) / 64 = i / 64 by omega] <;> exact hf0_2 (by omega) t ht⟩ ⟨rfl, rfl, rfl, rfl, rfl, rfl, rfl, rfl, trivial⟩ ⟨rfl, rfl, rfl, rfl, trivial⟩ ?_
      omega
  · intro hc2
    have hc2 := of_decide_eq_false hc2
    have hz2 : i = l.length := by omega
    subst hz2
    refine Qe<|Qs<|Qp<|(Qm)<|(Qa)<|(Qa)<|Qn<|Qr ?_
    exact ⟨_, _, _, _, 2, rfl, .tmp rfl, .tmp rfl, (own_fix (own_made (strl_len k c nn l 0) (by simp only [maxLen]; omega) (fun j hj => (hf0_1 j (by omega)).trans (strl_at k c nn l (by omega)).symm)) rfl rfl), rfl⟩
end Go.Proofs.YtbjaenjgahjikaaDoor
namespace Go.Proofs.YtbjaenjgahjikaaDoor
open Go Go.RowKit
variable {G : Mem}
set_option maxHeartbeats 400000 in
theorem dprime_fn : Fn Tryd.prog G 118 #[] (f3 QQ) := by
  refine Qf1 Tryd.func118 ?_
  refine Qs<|Qp<|(QH 0) fun r1=>Qn<|Qs<|Qp ?_
  refine e_build (arr .u64 3 (wd QQ)) (Ub 146 rfl) (Uu 146 rfl) (Uz 24 rfl) rfl (by kernel_rfl) rfl ?_
  refine (Qt 0)<|Qn<|Qr ?_
  exact ⟨_, rfl, .cell (i := 0) rfl rfl (Uu 146) rfl (Uz 146) (arr_size _ _ _)⟩
set_option maxHeartbeats 400000 in
theorem dpair_fn (f : Nat → Nat) (hf : L8 16 f) : Fn Tryd.prog G 105 #[.agg (arr .u8 16 f)] (f2 (vb f 16)) := by
  refine Qf1 Tryd.func105 ?_
  refine Qs<|Qp<|(Qh 0) fun r1=>(QH 1) fun r2=>Qn<|Qs<|Qp<|(QH 2) fun r3=>Qn<|Qs<|Qs<|Qp<|(Qd 0)<|(Qm)<|Qn<|Qb ?_
  refine QzK [(2, _), (3, _), (6, _)] [(0, _), (1, _)] (fun kk E m => ∃ (k : Nat) (s : Nat → Nat), kk = 16 - k ∧ E = [(7, ii k)] ∧ m = [(2, some ⟨r3, arr .u64 2 s, 123⟩)] ∧ (k ≤ 16) ∧ (∀ j, j < 4 → s j = wd (vb f k) j)) ⟨0, fun _ => 0, rfl, rfl, rfl, by omega, fun j _ => by simp [vb, wd]⟩ ⟨rfl, rfl, rfl, rfl, trivial⟩ ⟨rfl, rfl, rfl, trivial⟩ ?_
  rintro kk E m ⟨k, s, rfl, rfl, rfl, hf0_0, hf0_1⟩
  simp only [catE, catL]
  refine Qs<|Qp<|(Ql)<|Qn<|Qs ?_
  refine e_cond rfl ?_ ?_
  · intro hc0
    have hc0 : k < 16 := by have := of_decide_eq_true hc0; omega
    refine Qk<|Qs<|Qb<|Qs<|Qp<|(Qm)<|(QX)<|(Qa)<|(Qa)<|Qn<|(Qg)<|(Qm)<|(Q5 8)<|(Qi)<|(Q1 2)<|(Qm) ?_
    refine e_conv_u (Uu 5) (Uu 24) rfl rfl rfl ?_
    refine (Qm)<|(Q4 8)<|(Q6 8) ?_
    refine e_shl_u rfl rfl rfl (by omega) ?_
    refine e_or_u rfl rfl rfl  ?_
    refine (Qi)<|(Qu 2)<|Qn<|Qp<|(Q2 1)<|(Qm)<|Qn ?_
    refine QzL ⟨k + 1, upd s (k / 8) _, rfl, rfl, rfl, by omega, pair_step (by omega) hf hf0_1⟩ ⟨rfl, rfl, rfl, rfl, trivial⟩ ⟨rfl, rfl, rfl, trivial⟩ ?_
    omega
  · intro hc0
    have hc0 := of_decide_eq_false hc0
    have hz0 : k = 16 := by omega
    subst hz0
    refine Qe<|Qs<|Qp<|(Qd 2)<|(Qt 1)<|Qn<|Qr ?_
    rw [f2_of (fun j hj => hf0_1 j (by omega))]
    exact ⟨_, rfl, .cell (i := 1) rfl rfl (Uu 123) rfl (Uz 123) (arr_size _ _ _)⟩
set_option maxHeartbeats 400000 in
theorem dclamped_fn (r : Nat → Nat) : Fn Tryd.prog G 106 #[.agg (arr .u64 2 r)] (.agg (arr .u64 2 (clf r))) := by
  refine Qf1 Tryd.func106 ?_
  refine Qs<|Qp<|(Qh 0) fun r1=>(QH 1) fun r2=>Qn<|Qs<|Qp<|(Qj 0)<|(Q1 0)<|(Q9 1152921487695413247)<|(Qj 1)<|(Q1 0)<|(Q9 1152921487695413244) ?_
  refine e_build (arr .u64 2 (clf r)) (Ub 123 rfl) (Uu 123 rfl) (Uz 24 rfl) rfl rfl rfl ?_
  refine (Qt 1)<|Qn<|Qr ?_
  exact ⟨_, rfl, .cell (i := 1) rfl rfl (Uu 123) rfl (Uz 123) (arr_size _ _ _)⟩
set_option maxHeartbeats 400000 in
theorem dplus_fn (a b : Nat) : Fn Tryd.prog G 112 #[f3 a, f3 b] (f3 (a + b)) := by
  refine Qf1 Tryd.func112 ?_
  refine Qs<|Qp<|(Qh 0) fun r1=>(Qh 1) fun r2=>(QH 2) fun r3=>Qn<|Qs<|Qp<|(QH 3) fun r4=>Qn<|Qs<|Qp<|(Qa)<|Qn<|Qs<|Qs<|Qp<|(Qm)<|Qn<|Qb ?_
  refine QzK [(2, _), (3, _), (4, _), (5, _)] [(0, _), (1, _), (2, _)] (fun kk E m => ∃ (k : Nat) (s : Nat → Nat), kk = 3 - k ∧ E = [(6, u (car a b k)), (8, ii k)] ∧ m = [(3, some ⟨r4, arr .u64 3 s, 146⟩)] ∧ (k ≤ 3) ∧ (∀ j, j < k → s j = wd (a + b) j)) ⟨0, fun _ => 0, rfl, rfl, rfl, by omega, fun j hj => absurd hj (Nat.not_lt_zero j)⟩ ⟨by rw [car_zero]; rfl, rfl, rfl, rfl, rfl, rfl, trivial⟩ ⟨rfl, rfl, rfl, rfl, trivial⟩ ?_
  rintro kk E m ⟨k, s, rfl, rfl, rfl, hf0_0, hf0_1⟩
  simp only [catE, catL]
  have hcl := car_le a b k
  refine Qs<|Qp<|(Ql)<|Qn<|Qs ?_
  refine e_cond rfl ?_ ?_
  · intro hc0
    have hc0 : k < 3 := by have := of_decide_eq_true hc0; omega
    refine Qk<|Qs<|Qb<|Qs<|Qp<|(Qm)<|(Qa)<|Qn<|(Qq ⟨[r4], 1, [], none⟩)<|(Qm)<|(Qm)<|(Qi) ?_
    refine e_load1 (i := 0) (Uu 24) rfl rfl rfl (arr_get (by omega)) rfl ⟨[3], rfl, rfl, trivial⟩ ?_
    refine (Qm)<|(Qi) ?_
    refine e_load1 (i := 1) (Uu 24) rfl rfl rfl (arr_get (by omega)) rfl ⟨[3], rfl, rfl, trivial⟩ ?_
    refine (Qm) ?_
    refine e_callE rfl (fun w => add64 _ _ _ (by omega) w) rfl rfl ?_
    refine (Qm)<|(Qx)<|(Qx)<|(Qi) ?_
    refine e_storeN (i := 3) (Uz 24) rfl rfl rfl (by omega) (.inr (by simp)) ?_
    refine (Qa)<|Qn<|Qp<|(Q2 1)<|(Qm)<|Qn ?_
    refine QzL ⟨k + 1, upd s k _, rfl, rfl, rfl, by omega, upd_lt hf0_1 (car_word a b k)⟩ ⟨by rw [← car_next]; rfl, rfl, rfl, rfl, rfl, rfl, trivial⟩ ⟨rfl, rfl, rfl, rfl, trivial⟩ ?_
    omega
  · intro hc0
    have hc0 := of_decide_eq_false hc0
    have hz0 : k = 3 := by omega
    subst hz0
    refine Qe<|Qs<|Qp<|(Qd 3)<|(Qt 2)<|Qn<|Qr ?_
    rw [f3_of hf0_1]
    exact ⟨_, rfl, .cell (i := 2) rfl rfl (Uu 146) rfl (Uz 146) (arr_size _ _ _)⟩
set_option maxHeartbeats 400000 in
theorem dminus_fn (a b : Nat) (ha : a < 2 ^ 192) (hb : b < 2 ^ 192) : Fn Tryd.prog G 117 #[f3 a, f3 b] (.tuple #[f3 (a + 2 ^ 256 - b), u (if a < b then 1 else 0)]) := by
  have hfin : bor a b 3 = if a < b then 1 else 0 := by
    unfold bor
    rw [Nat.mod_eq_of_lt (show a < 2 ^ (64 * 3) from ha), Nat.mod_eq_of_lt (show b < 2 ^ (64 * 3) from hb)]
  refine Qf2 Tryd.func117 ?_
  refine Qs<|Qp<|(Qh 0) fun r1=>(Qh 1) fun r2=>(QH 2) fun r3=>(Qa)<|Qn<|Qs<|Qp<|(QH 3) fun r4=>Qn<|Qs<|Qp<|(Qa)<|Qn<|Qs<|Qs<|Qp<|(Qm)<|Qn<|Qb ?_
  refine QzK [(2, _), (3, _), (4, _), (5, _), (6, _)] [(0, _), (1, _), (2, _)] (fun kk E m => ∃ (k : Nat) (s : Nat → Nat), kk = 3 - k ∧ E = [(7, u (bor a b k)), (9, ii k)] ∧ m = [(3, some ⟨r4, arr .u64 3 s, 146⟩)] ∧ (k ≤ 3) ∧ (∀ j, j < k → s j = wd (a + 2 ^ 256 - b) j)) ⟨0, fun _ => 0, rfl, rfl, rfl, by omega, fun j hj => absurd hj (Nat.not_lt_zero j)⟩ ⟨by rw [bor_zero]; rfl, rfl, rfl, rfl, rfl, rfl, rfl, trivial⟩ ⟨rfl, rfl, rfl, rfl, trivial⟩ ?_
  rintro kk E m ⟨k, s, rfl, rfl, rfl, hf0_0, hf0_1⟩
  simp only [catE, catL]
  have hcl := bor_le a b k
  have hwl := wd_lt b k
  refine Qs<|Qp<|(Ql)<|Qn<|Qs ?_
  refine e_cond rfl ?_ ?_
  · intro hc0
    have hc0 : k < 3 := by have := of_decide_eq_true hc0; omega
    refine Qk<|Qs<|Qb<|Qs<|Qp<|(Qm)<|(Qa)<|Qn<|(Qq ⟨[r4], 1, [], none⟩)<|(Qm)<|(Qm)<|(Qi) ?_
    refine e_load1 (i := 0) (Uu 24) rfl rfl rfl (arr_get (by omega)) rfl ⟨[3], rfl, rfl, trivial⟩ ?_
    refine (Qm)<|(Qi) ?_
    refine e_load1 (i := 1) (Uu 24) rfl rfl rfl (arr_get (by omega)) rfl ⟨[3], rfl, rfl, trivial⟩ ?_
    refine (Qm) ?_
    refine e_callE rfl (fun w => sub64 _ _ _ (by omega) (by omega) w) rfl rfl ?_
    refine (Qm)<|(Qx)<|(Qx)<|(Qi) ?_
    refine e_storeN (i := 3) (Uz 24) rfl rfl rfl (by omega) (.inr (by simp)) ?_
    refine (Qa)<|Qn<|Qp<|(Q2 1)<|(Qm)<|Qn ?_
    refine QzL ⟨k + 1, upd s k _, rfl, rfl, rfl, by omega, upd_lt hf0_1 (bor_word a b k (by omega) (by omega))⟩ ⟨by rw [← bor_next]; rfl, rfl, rfl, rfl, rfl, rfl, rfl, trivial⟩ ⟨rfl, rfl, rfl, rfl, trivial⟩ ?_
    omega
  · intro hc0
    have hc0 := of_decide_eq_false hc0
    have hz0 : k = 3 := by omega
    subst hz0
    refine Qe<|Qs<|Qp<|(Qd 3)<|(Qm)<|(Qt 2)<|(Qa)<|Qn<|Qr ?_
    rw [← hfin, f3_of hf0_1]
    exact ⟨_, _, rfl, .cell (i := 2) rfl rfl (Uu 146) rfl (Uz 146) (arr_size _ _ _), .tmp rfl⟩
set_option maxHeartbeats 400000 in
theorem dbelow_fn (a : Nat) (ha : a < 2 ^ 192) : Fn Tryd.prog G 110 #[f3 a] (.bool (decide (a < QQ))) := by
  have hQQ := QQ_eq
  refine Qf1 Tryd.func110 ?_
  refine Qs<|Qp<|(Qh 0) fun r1=>(Qa)<|Qn<|Qs<|(Qg)<|(Qd 0) ?_
  refine e_call rfl (Un 118) dprime_fn rfl rfl ?_
  refine e_call rfl (Un 117) (dminus_fn _ _ (by omega) (by omega)) rfl rfl ?_
  refine (Qm)<|(Qx)<|(Qx)<|(QH 1) fun r2=>(Qt 1)<|(Qa)<|Qn<|Qs<|Qp<|(Qm)<|(Qc) ?_
  refine e_as (lt_bool _ _) ?_
  refine (Qa)<|Qn<|Qr ?_
  exact ⟨_, rfl, .tmp rfl⟩
set_option maxHeartbeats 400000 in
theorem dtimes_fn (a n : Nat) (hn : n ≤ 1) : Fn Tryd.prog G 121 #[f3 a, u n] (f3 (a * n)) := by
  refine Qf1 Tryd.func121 ?_
  refine Qs<|Qp<|(Qh 0) fun r1=>(QH 1) fun r2=>Qn<|Qs<|Qs<|Qp<|(Qm)<|Qn<|Qb ?_
  refine QzK [(1, _), (2, _), (4, _)] [(1, _)] (fun kk E m => ∃ (k : Nat) (s : Nat → Nat), kk = 3 - k ∧ E = [(6, ii k)] ∧ m = [(0, some ⟨r1, arr .u64 3 s, 146⟩)] ∧ (k ≤ 3) ∧ (∀ j, j < k → s j = wd (a * n) j) ∧ (∀ j, k ≤ j → s j = wd a j)) ⟨0, wd a, rfl, rfl, rfl, by omega, fun j hj => absurd hj (Nat.not_lt_zero j), fun j _ => rfl⟩ ⟨rfl, rfl, rfl, rfl, trivial⟩ ⟨rfl, rfl, trivial⟩ ?_
  rintro kk E m ⟨k, s, rfl, rfl, rfl, hf0_0, hf0_1, hf0_2⟩
  simp only [catE, catL]
  refine Qs<|Qp<|(Ql)<|Qn<|Qs ?_
  refine e_cond rfl ?_ ?_
  · intro hc0
    have hc0 : k < 3 := by have := of_decide_eq_true hc0; omega
    refine Qk<|Qs<|Qb<|Qs<|Qp<|(Qm)<|(Qa)<|Qn<|Qp<|(Qm)<|(Qi)<|(Q1 0)<|(Qm) ?_
    refine e_neg_u rfl rfl (by omega) ?_
    refine e_and_u rfl rfl rfl  ?_
    refine (Qi)<|(Qu 0)<|Qn<|Qp<|(Q2 1)<|(Qm)<|Qn ?_
    refine QzL ⟨k + 1, upd s k _, rfl, rfl, rfl, by omega, upd_lt hf0_1 (by rw [hf0_2 k (Nat.le_refl k)]; exact wd_mul01 a n k hn), upd_ge hf0_2⟩ ⟨rfl, rfl, rfl, rfl, trivial⟩ ⟨rfl, rfl, trivial⟩ ?_
    omega
  · intro hc0
    have hc0 := of_decide_eq_false hc0
    have hz0 : k = 3 := by omega
    subst hz0
    refine Qe<|Qs<|Qp<|(Qd 0)<|(Qt 1)<|Qn<|Qr ?_
    rw [f3_of hf0_1]
    exact ⟨_, rfl, .cell (i := 1) rfl rfl (Uu 146) rfl (Uz 146) (arr_size _ _ _)⟩
set_option maxHeartbeats 400000 in
theorem mul64_fn (x y : Nat) (hx : x < 18446744073709551616) (hy : y < 18446744073709551616) : Fn Tryd.prog G 124 #[u x, u y] (.tuple #[u (x * y / 18446744073709551616), u (x * y % 18446744073709551616)]) := by
  refine Qf2 Tryd.func124 ?_
  refine Qs<|Qp<|(Qa)<|(Qa)<|Qn<|Qs<|Qp<|(Qm)<|(Q9 4294967295)<|(Qa)<|Qn<|Qs<|Qp<|(Qm)<|(Q8 32)<|(Qa)<|Qn<|Qs<|Qp<|(Qm)<|(Q9 4294967295)<|(Qa)<|Qn<|Qs<|Qp<|(Qm)<|(Q8 32)<|(Qa)<|Qn<|Qs<|Qp<|(Qm)<|(Qm) ?_
  refine e_mul_u rfl rfl rfl  ?_
  refine (Qa)<|Qn<|Qs<|Qp<|(Qm)<|(Qm) ?_
  refine e_mul_u rfl rfl rfl  ?_
  refine (Qm)<|(Q8 32) ?_
  refine e_add_u rfl rfl rfl  ?_
  refine (Qa)<|Qn<|Qs<|Qp<|(Qm)<|(Q9 4294967295)<|(Qa)<|Qn<|Qs<|Qp<|(Qm)<|(Q8 32)<|(Qa)<|Qn<|Qs<|Qp<|(Qm)<|(Qm)<|(Qm) ?_
  refine e_mul_u rfl rfl rfl  ?_
  refine e_add_u rfl rfl rfl  ?_
  refine (Qa)<|Qn<|Qs<|Qp<|(Qm)<|(Qm) ?_
  refine e_mul_u rfl rfl rfl  ?_
  refine (Qm) ?_
  refine e_add_u rfl rfl rfl  ?_
  refine (Qm)<|(Q8 32) ?_
  refine e_add_u rfl rfl rfl  ?_
  refine (Qa)<|Qn<|Qs<|Qp<|(Qm)<|(Qm) ?_
  refine e_mul_u rfl rfl rfl  ?_
  refine (Qa)<|Qn<|Qr ?_
  rw [← mul64_hi x y hx hy]
  exact ⟨_, _, rfl, .tmp rfl, .tmp rfl⟩
set_option maxHeartbeats 400000 in
theorem dstep_fn (a b c d : Nat) (ha : a < 18446744073709551616) (hb : b < 18446744073709551616) (hc : c < 18446744073709551616) (hd : d < 18446744073709551616) : Fn Tryd.prog G 120 #[u a, u b, u c, u d] (.tuple #[u ((a * b + c + d) % 18446744073709551616), u ((a * b + c + d) / 18446744073709551616)]) := by
  have hp := prod_lt ha hb
  refine Qf2 Tryd.func120 ?_
  refine Qs<|Qp<|(Qa)<|(Qa)<|Qn<|Qs<|Qp<|(Qm)<|(Qm) ?_
  refine e_call rfl (Un 124) (mul64_fn _ _ (by omega) (by omega)) rfl rfl ?_
  refine (Qm)<|(Qx)<|(Qx)<|(Qa)<|(Qa)<|Qn<|Qs<|Qp<|(Qm)<|(Qm) ?_
  refine e_callE rfl (fun w => add64 _ _ 0 (by omega) w) rfl rfl ?_
  refine (Qm)<|(Qx)<|(Qx)<|(Qa)<|(Qa)<|Qn<|Qs<|Qp<|(Qm)<|(Qm) ?_
  refine e_add_u rfl rfl rfl  ?_
  refine (Qa)<|Qn<|Qs<|Qp<|(Qm)<|(Qm) ?_
  refine e_callE rfl (fun w => add64 _ _ 0 (by omega) w) rfl rfl ?_
  refine (Qm)<|(Qx)<|(Qx)<|(Qa)<|(Qa)<|Qn<|Qs<|Qp<|(Qm)<|(Qm)<|(Qm) ?_
  refine e_add_u rfl rfl rfl  ?_
  refine (Qa)<|(Qa)<|Qn<|Qr ?_
  rw [← step_lo, ← step_hi _ _ _ hp hc hd]
  exact ⟨_, _, rfl, .tmp rfl, .tmp rfl⟩
set_option maxHeartbeats 400000 in
theorem dwide_fn (a b : Nat) (ha : a < 2 ^ 192) (hb : b < 2 ^ 128) : Fn Tryd.prog G 119 #[f3 a, f2 b] (.agg (arr .u64 5 (wd (a * b)))) := by
  refine Qf1 Tryd.func119 ?_
  refine Qs<|Qp<|(Qh 0) fun r1=>(Qh 1) fun r2=>(QH 2) fun r3=>Qn<|Qs<|Qp<|(QH 3) fun r4=>Qn<|Qs<|Qs<|Qp<|(Qm)<|Qn<|Qb ?_
  refine QzK [(2, _), (3, _), (4, _), (5, _)] [(0, _), (1, _), (2, _)] (fun kk E m => ∃ (k : Nat) (s : Nat → Nat), kk = 3 - k ∧ E = [(9, ii k)] ∧ m = [(3, some ⟨r4, arr .u64 5 s, 149⟩)] ∧ (k ≤ 3) ∧ (∀ t, t < 5 → s t = wd (a % 2 ^ (64 * k) * b) t)) ⟨0, fun _ => 0, rfl, rfl, rfl, by omega, fun t _ => by simp [Nat.mod_one, wd]⟩ ⟨rfl, rfl, rfl, rfl, rfl, trivial⟩ ⟨rfl, rfl, rfl, rfl, trivial⟩ ?_
  rintro kk E m ⟨k, s, rfl, rfl, rfl, hf0_0, hf0_1⟩
  simp only [catE, catL]
  refine Qs<|Qp<|(Ql)<|Qn<|Qs ?_
  refine e_cond rfl ?_ ?_
  · intro hc0
    have hc0 : k < 3 := by have := of_decide_eq_true hc0; omega
    refine Qk<|Qs<|Qb<|Qs<|Qp<|(Qm)<|(Qa)<|Qn<|Qs<|Qp<|(Qa)<|Qn<|Qs<|Qs<|Qp<|(Qm)<|Qn<|Qb ?_
    refine QzK [(2, _), (3, _), (4, _), (5, _), (6, _), (9, _)] [(0, _), (1, _), (2, _)] (fun kk E m => ∃ (j : Nat) (s2 : Nat → Nat), kk = 2 - j ∧ E = [(7, u (wO a b k j)), (12, ii j)] ∧ m = [(3, some ⟨r4, arr .u64 5 s2, 149⟩)] ∧ (j ≤ 2) ∧ (∀ t, t < k + j → s2 t = wd (wS a b k j) t) ∧ (∀ t, k + j ≤ t → t < 5 → s2 t = wd (a % 2 ^ (64 * k) * b) t)) ⟨0, s, rfl, rfl, rfl, by omega, fun t ht => (hf0_1 t (by omega)).trans (wS_zero a b k t (by omega)).symm, fun t _ ht => hf0_1 t ht⟩ ⟨by rw [wO_zero]; rfl, rfl, rfl, rfl, rfl, rfl, rfl, rfl, trivial⟩ ⟨rfl, rfl, rfl, rfl, trivial⟩ ?_
    rintro kk E m ⟨j, s2, rfl, rfl, rfl, hf1_0, hf1_1, hf1_2⟩
    simp only [catE, catL]
    have ha1 := wd_lt a k
    have hb1 := wd_lt b j
    have ho1 := wO_lt a b k j (by omega)
    have hs2 : j < 2 → s2 (k + j) = wd (a % 2 ^ (64 * k) * b) (k + j) := fun h => hf1_2 (k + j) (by omega) (by omega)
    refine Qs<|Qp<|(Ql)<|Qn<|Qs ?_
    refine e_cond rfl ?_ ?_
    · intro hc1
      have hc1 : j < 2 := by have := of_decide_eq_true hc1; omega
      refine Qk<|Qs<|Qb<|Qs<|Qp<|(Qm)<|(Qa)<|Qn<|(Qg)<|(Qm)<|(Qm)<|(Q3)<|(Qm)<|(Qi)<|(Q1 0)<|(Qm)<|(Qi)<|(Q1 1)<|(Qm)<|(Qm)<|(Q3)<|(Qi)<|(Q1 3)<|(Qm) ?_
      have hs3 := wd_lt (a % 2 ^ (64 * k) * b) (k + j); have hs4 := hs2 hc1
      refine e_call rfl (Un 120) (dstep_fn _ _ _ _ (by omega) (by omega) (by omega) (by omega)) rfl rfl ?_
      refine (Qm)<|(Qx)<|(Qx)<|(Qi)<|(Qu 3)<|(Qa)<|Qn<|Qp<|(Q2 1)<|(Qm)<|Qn ?_
      refine QzL ⟨j + 1, upd s2 (k + j) _, rfl, rfl, rfl, by omega, by rw [hs2 hc1]; exact inner_low hf1_1, fun t h1 h2 => by rw [← hf1_2 t (by omega) h2]; unfold upd; rw [if_neg (by omega)]⟩ ⟨by rw [← wide_hi, ← hs2 hc1]; rfl, rfl, rfl, rfl, rfl, rfl, rfl, rfl, trivial⟩ ⟨rfl, rfl, rfl, rfl, trivial⟩ ?_
      omega
    · intro hc1
      have hc1 := of_decide_eq_false hc1
      have hz1 : j = 2 := by omega
      subst hz1
      refine Qe<|Qp<|(Qm)<|(Q2 2)<|(Qm)<|(Qi)<|(Qu 3)<|Qn<|Qp<|(Q2 1)<|(Qm)<|Qn ?_
      refine QzL ⟨k + 1, upd s2 (k + 2) _, rfl, rfl, rfl, by omega, outer_row2 hb hf1_1 hf1_2⟩ ⟨rfl, rfl, rfl, rfl, rfl, trivial⟩ ⟨rfl, rfl, rfl, rfl, trivial⟩ ?_
      omega
  · intro hc0
    have hc0 := of_decide_eq_false hc0
    have hz0 : k = 3 := by omega
    subst hz0
    refine Qe<|Qs<|Qp<|(Qd 3)<|(Qt 2)<|Qn<|Qr ?_
    rw [Nat.mod_eq_of_lt (show a < 2 ^ (64 * 3) from ha)] at hf0_1
    rw [← arr_congr hf0_1]
    exact ⟨_, rfl, .cell (i := 2) rfl rfl (Uu 149) rfl (Uz 149) (arr_size _ _ _)⟩
end Go.Proofs.YtbjaenjgahjikaaDoor
namespace Go.Proofs.YtbjaenjgahjikaaDoor
open Go Go.RowKit
variable {G : Mem}
set_option maxHeartbeats 2000000 in
theorem dproduct_fn (a b : Nat) (ha : a < 2 ^ 131) (hb : b < 2 ^ 124) : Fn Tryd.prog G 111 #[f3 a, f2 b] (f3 (a * b % QQ)) := by
  obtain ⟨x, hx⟩ : ∃ x, x = a * b := ⟨_, rfl⟩
  have hx2 : x < 2 ^ 255 := by rw [hx]; exact Nat.lt_of_le_of_lt (Nat.mul_le_mul (Nat.le_of_lt_succ ha) (Nat.le_of_lt hb)) (by decide)
  obtain ⟨L, hL⟩ : ∃ L, L = x % 2 ^ 130 := ⟨_, rfl⟩
  obtain ⟨H, hH⟩ : ∃ H, H = x / 2 ^ 130 := ⟨_, rfl⟩
  have hL2 : L < 2 ^ 130 := by rw [hL]; exact Nat.mod_lt _ (by decide)
  have hH2 : H < 2 ^ 125 := by omega
  have hQQ := QQ_eq
  obtain ⟨S, hS⟩ : ∃ S, S = L + 5 * H := ⟨_, rfl⟩
  have hS2 : S < 2 ^ 192 := by omega
  obtain ⟨t, ht⟩ : ∃ t, t = (if S < QQ then 1 else 0) := ⟨_, rfl⟩
  have ht1 : t ≤ 1 := by rw [ht]; split <;> omega
  refine Qf1 Tryd.func111 ?_
  refine Qs<|Qp<|(Qh 0) fun r1=>(Qh 1) fun r2=>(QH 2) fun r3=>Qn<|Qs<|Qp<|(Qd 0)<|(Qd 1) ?_
  refine e_call rfl (Un 119) (dwide_fn a b (by omega) (by omega)) rfl rfl ?_
  refine e_as (congrArg (fun z => Value.agg (arr .u64 5 (wd z))) hx.symm) ?_
  refine (QH 3) fun r4=>(Qt 3)<|Qn<|Qs<|Qp<|(Qj 2)<|(Q1 3)<|(Q8 2)<|(Qj 3)<|(Q1 3) ?_
  refine e_shl_u (s := 62) rfl rfl rfl (by omega) ?_
  refine e_or_u rfl rfl rfl  ?_
  refine e_as (congrArg u ((hi0 x).trans (by rw [← hH]))) ?_
  refine (Qj 3)<|(Q1 3)<|(Q8 2) ?_
  refine e_as (congrArg u ((hi1 hx2).trans (by rw [← hH]))) ?_
  refine e_build (arr .u64 2 (wd H)) (Ub 123 rfl) (Uu 123 rfl) (Uz 24 rfl) rfl rfl rfl ?_
  refine (QH 4) fun r5=>(Qt 4)<|Qn<|Qs<|Qp<|(Qj 0)<|(Q1 3) ?_
  refine e_as (congrArg u ((lo0 x).trans (by rw [← hL]))) ?_
  refine (Qj 1)<|(Q1 3) ?_
  refine e_as (congrArg u ((lo1 x).trans (by rw [← hL]))) ?_
  refine (Qj 2)<|(Q1 3)<|(Q9 3) ?_
  refine e_as (congrArg u ((lo2 x).trans (by rw [← hL]))) ?_
  refine e_build (arr .u64 3 (wd L)) (Ub 146 rfl) (Uu 146 rfl) (Uz 24 rfl) rfl rfl rfl ?_
  refine (QH 5) fun r6=>(Qt 5)<|Qn<|Qs<|Qp<|(Qa)<|Qn<|Qs<|Qs<|Qp<|(Qm)<|Qn<|Qb ?_
  refine QzK [(4, _), (6, _), (7, _)] [(0, _), (1, _), (2, _), (3, _), (4, _)] (fun kk E m => ∃ (k : Nat) (s : Nat → Nat), kk = 2 - k ∧ E = [(8, u (qS L H k / 2 ^ (64 * k))), (34, ii k)] ∧ m = [(5, some ⟨r6, arr .u64 3 s, 146⟩)] ∧ (k ≤ 2) ∧ (∀ t, t < k → s t = wd (qS L H k) t) ∧ (∀ t, k ≤ t → s t = wd L t)) ⟨0, wd L, rfl, rfl, rfl, by omega, fun t ht => absurd ht (Nat.not_lt_zero t), fun t _ => rfl⟩ ⟨by rw [qS_zero]; rfl, rfl, rfl, rfl, rfl, trivial⟩ ⟨rfl, rfl, rfl, rfl, rfl, rfl, trivial⟩ ?_
  rintro kk E m ⟨k, s, rfl, rfl, rfl, hf0_0, hf0_1, hf0_2⟩
  simp only [catE, catL]
  have hw1 := wd_lt H k
  have hw2 := wd_lt L k
  have hov := qS_lt L H k
  have hsk := hf0_2 k (Nat.le_refl k)
  refine Qs<|Qp<|(Ql)<|Qn<|Qs ?_
  refine e_cond rfl ?_ ?_
  · intro hc0
    have hc0 : k < 2 := by have := of_decide_eq_true hc0; omega
    refine Qk<|Qs<|Qb<|Qs<|Qp<|(Qm)<|(Qa)<|Qn<|(Qg)<|(Qm)<|(Qm)<|(Qi)<|(Q1 4)<|(Qm)<|(Qi)<|(Q1 5)<|(Qm) ?_
    refine e_call rfl (Un 120) (dstep_fn _ 5 _ _ (by omega) (by omega) (by omega) (by omega)) rfl rfl ?_
    refine (Qm)<|(Qx)<|(Qx)<|(Qi)<|(Qu 5)<|(Qa)<|Qn<|Qp<|(Q2 1)<|(Qm)<|Qn ?_
    refine QzL ⟨k + 1, upd s k _, rfl, rfl, rfl, by omega, qS_low (hf0_2 k (Nat.le_refl k)) hf0_1, upd_ge hf0_2⟩ ⟨by rw [← qS_hi, ← hsk]; rfl, rfl, rfl, rfl, rfl, trivial⟩ ⟨rfl, rfl, rfl, rfl, rfl, rfl, trivial⟩ ?_
    omega
  · intro hc0
    have hc0 := of_decide_eq_false hc0
    have hz0 : k = 2 := by omega
    subst hz0
    refine Qe<|Qs<|Qp<|(Qj 2)<|(Q1 5)<|(Qm) ?_
    refine e_add_u rfl rfl rfl  ?_
    refine e_as (congrArg u (Nat.mod_eq_of_lt (show s 2 + qS L H 2 / 2 ^ (64 * 2) < 18446744073709551616 by have := hf0_2 2 (Nat.le_refl 2); have h4 : wd L 2 < 4 := wd2_lt hL2; omega))) ?_
    refine (Qj 2)<|(Qu 5)<|Qn<|Qs<|(Qg)<|(Qd 5) ?_
    refine e_as (show _ = f3 S by rw [hS]; exact (f3_of (qS_end hL2 hH2 hf0_1 hf0_2)).symm) ?_
    refine e_call rfl (Un 118) dprime_fn rfl rfl ?_
    refine e_call rfl (Un 117) (dminus_fn _ _ (by omega) (by omega)) rfl rfl ?_
    refine (Qm)<|(Qx)<|(Qx) ?_
    refine e_as (congrArg u ht.symm) ?_
    refine (QH 6) fun r7=>(Qt 6)<|(Qa)<|Qn<|Qs<|(Qg)<|(Qd 6) ?_
    refine e_call rfl (Un 118) dprime_fn rfl rfl ?_
    refine (Qm) ?_
    refine e_call rfl (Un 121) (dtimes_fn _ _ (by omega)) rfl rfl ?_
    refine e_call rfl (Un 112) (dplus_fn _ _) rfl rfl ?_
    refine (Qt 2)<|Qn<|Qr ?_
    rw [ht, ← hx, f3_of (prod5_fin (S := S) hx2 (by rw [hS, hL, hH]))]
    exact ⟨_, rfl, .cell (i := 2) rfl rfl (Uu 146) rfl (Uz 146) (arr_size _ _ _)⟩
end Go.Proofs.YtbjaenjgahjikaaDoor
namespace Go.Proofs.YtbjaenjgahjikaaDoor
open Go Go.RowKit
variable {G : Mem}
set_option maxHeartbeats 2000000 in
theorem dtake_fn (r p : Nat → Nat) (A : Nat) (h : Nat → Nat) (n : Nat) (hr0 : r 0 < 18446744073709551616) (hr1 : r 1 < 18446744073709551616) (hR : k3 r < 2 ^ 124) (hA : A < 2 ^ 130) (hn : n ≤ 16) (hh : L8 16 h) (hz : ∀ j, n ≤ j → j < 16 → h j = 0) : Fn Tryd.prog G 104 #[PV r p (wd A) h n] (PV r p (wd (pst (k3 r) A ((List.range n).map h))) (fun _ => 0) ((0 : Nat) : Int)) := by
  obtain ⟨V, hV⟩ : ∃ V, V = vb h 16 := ⟨_, rfl⟩
  obtain ⟨B, hB⟩ : ∃ B, B = leN ((List.range n).map h ++ [1]) := ⟨_, rfl⟩
  have hB2 : B < 2 * 2 ^ 128 := by rw [hB]; exact bl_small (fun b hb => by obtain ⟨j, hj, rfl⟩ := List.mem_map.1 hb; exact hh j (by have := List.mem_range.1 hj; omega)) (by simp; exact hn)
  have hps : (A + B) * k3 r % QQ = pst (k3 r) A ((List.range n).map h) := by unfold pst; rw [← hB, Nat.mod_mul_mod]
  refine Qf1 Tryd.func104 ?_
  refine Qs<|Qp<|(Qh 0) fun r1=>(QH 1) fun r2=>Qn<|Qs<|Qp<|(Qf 7)<|(Qv 3 0) ?_
  refine e_call rfl (Un 105) (dpair_fn h hh) rfl rfl ?_
  refine e_as (congrArg f2 hV.symm) ?_
  refine (QH 2) fun r3=>(Qt 2)<|Qn<|Qs<|Qp<|(Qj 0)<|(Q1 2)<|(Qj 1)<|(Q1 2) ?_
  refine e_build (arr .u64 3 (upd (wd V) 2 0)) (Ub 146 rfl) (Uu 146 rfl) (Uz 24 rfl) rfl rfl rfl ?_
  refine (QH 3) fun r4=>(Qt 3)<|Qn<|Qs<|(Qg)<|(Qf 23)<|(QV 4 0)<|(Q5 8)<|(Qi)<|(Q1 3)<|(Qf 23)<|(QV 4 0)<|(Q4 8)<|(Q6 8) ?_
  refine e_shl_u (p := 1) rfl rfl rfl (by omega) ?_
  refine e_or_u rfl rfl rfl  ?_
  refine (Qi)<|(Qu 3)<|Qn<|Qs<|(Qg)<|(Qf 4)<|(Qv 2 0)<|(Qd 3) ?_
  refine e_as (show _ = f3 B from (f3_of (held_one hh hz hn hV hB)).symm) ?_
  refine e_call rfl (Un 112) (dplus_fn _ _) rfl rfl ?_
  refine (Qf 0)<|(Qv 0 0) ?_
  refine e_as (f2_of (wd_k3 hr0 hr1)).symm ?_
  refine e_call rfl (Un 111) (dproduct_fn (A + B) (k3 r) (by omega) hR) rfl rfl ?_
  refine e_as (congrArg f3 hps) ?_
  refine (Qf 4) ?_
  refine e_stC (i := 0) 2 (Uz 124) rfl rfl rfl rfl (by decide) (.inl rfl) ?_
  refine Qn<|Qs<|Qp ?_
  refine e_build0 (Ub 96 rfl) (Uu 96 rfl) sis5 rfl ?_
  refine (Qf 7) ?_
  refine e_stC (i := 0) 3 (Uz 96) rfl rfl rfl rfl (by decide) (.inl rfl) ?_
  refine (Qf 23) ?_
  refine e_stV (i := 0) 4 (Uz 3) rfl rfl rfl rfl rfl (by decide) (.inl rfl) ?_
  refine Qn<|Qs<|Qp<|(QD 0) ?_
  refine e_as (show _ = PV r p (wd (pst (k3 r) A ((List.range n).map h))) (fun _ => 0) ((0 : Nat) : Int) from rfl) ?_
  refine e_storeA (i := 1) (Uz 126) rfl rfl (arrv_size _ _) (cells_one ⟨fun _ => rfl, fun _ => rfl, fun _ => rfl, fun _ => rfl, fun _ => rfl, trivial⟩) rfl cells_sz (.inl rfl) ?_
  refine Qn<|Qr ?_
  exact ⟨_, rfl, .cell (i := 1) rfl rfl (Uu 126) rfl (Uz 126) (arrv_size _ _)⟩
set_option maxHeartbeats 2000000 in
theorem dpad_fn (r p : Nat → Nat) (A : Nat) (h : Nat → Nat) (n : Int) (hp0 : p 0 < 18446744073709551616) (hp1 : p 1 < 18446744073709551616) : Fn Tryd.prog G 107 #[PV r p (wd A) h n] (.agg (arr .u8 16 (tgn (k3 (wd A)) (k3 p)))) := by
  obtain ⟨X, hX⟩ : ∃ X, X = A + k3 p := ⟨_, rfl⟩
  have hE : ∀ s : Nat → Nat, (∀ j, j < 16 → s j = bt X j) → arr .u8 16 s = arr .u8 16 (tgn (k3 (wd A)) (k3 p)) := fun s h => arr_congr fun j hj => (h j hj).trans (by rw [hX]; exact bt_tgn A (k3 p) hj)
  refine Qf1 Tryd.func107 ?_
  refine Qs<|Qp<|(Qh 0) fun r1=>(QH 1) fun r2=>Qn<|Qs<|Qp<|(Qf 4)<|(Qv 2 0)<|(Qf 2)<|(QA 2 0)<|(QI 1 0 0)<|(Qf 2)<|(QA 3 1)<|(QI 1 1 0) ?_
  refine e_build (arr .u64 3 (upd p 2 0)) (Ub 146 rfl) (Uu 146 rfl) (Uz 24 rfl) rfl rfl rfl ?_
  refine e_as (show _ = f3 (k3 p) from (f3_of (k3_three hp0 hp1)).symm) ?_
  refine e_call rfl (Un 112) (dplus_fn _ _) rfl rfl ?_
  refine e_as (congrArg f3 hX.symm) ?_
  refine (QH 2) fun r3=>(Qt 2)<|Qn<|Qs<|Qp<|(QH 3) fun r4=>Qn<|Qs<|Qs<|Qp<|(Qm)<|Qn<|Qb ?_
  refine QzK [(2, _), (3, _), (4, _)] [(0, _), (1, _), (2, _)] (fun kk E m => ∃ (i : Nat) (s : Nat → Nat), kk = 16 - i ∧ E = [(16, ii i)] ∧ m = [(3, some ⟨r4, arr .u8 16 s, 96⟩)] ∧ (i ≤ 16) ∧ (∀ j, j < i → s j = bt X j)) ⟨0, fun _ => 0, rfl, rfl, rfl, by omega, fun j hj => absurd hj (Nat.not_lt_zero j)⟩ ⟨rfl, rfl, rfl, rfl, trivial⟩ ⟨rfl, rfl, rfl, rfl, trivial⟩ ?_
  rintro kk E m ⟨i, s, rfl, rfl, rfl, hf0_0, hf0_1⟩
  simp only [catE, catL]
  refine Qs<|Qp<|(Ql)<|Qn<|Qs ?_
  refine e_cond rfl ?_ ?_
  · intro hc0
    have hc0 : i < 16 := by have := of_decide_eq_true hc0; omega
    refine Qk<|Qs<|Qb<|Qs<|Qp<|(Qm)<|(Qa)<|Qn<|Qp<|(Qm)<|(Qm)<|(Q5 8)<|(Qi)<|(Q1 2)<|(Qm)<|(Q4 8)<|(Q6 8) ?_
    refine e_shr_u rfl rfl rfl (by omega) ?_
    refine e_conv_u8 (Uu 24) (Uu 5) rfl rfl rfl ?_
    refine (Qi)<|(Qu 3)<|Qn<|Qp<|(Q2 1)<|(Qm)<|Qn ?_
    refine QzL ⟨i + 1, upd s i _, rfl, rfl, rfl, by omega, upd_lt hf0_1 (bt_word X i)⟩ ⟨rfl, rfl, rfl, rfl, trivial⟩ ⟨rfl, rfl, rfl, rfl, trivial⟩ ?_
    omega
  · intro hc0
    have hc0 := of_decide_eq_false hc0
    have hz0 : i = 16 := by omega
    subst hz0
    refine Qe<|Qs<|Qp<|(Qd 3)<|(Qt 1)<|Qn<|Qr ?_
    rw [← hE _ hf0_1]
    exact ⟨_, rfl, .cell (i := 1) rfl rfl (Uu 96) rfl (Uz 96) (arr_size _ _ _)⟩
end Go.Proofs.YtbjaenjgahjikaaDoor
namespace Go.Proofs.YtbjaenjgahjikaaDoor
open Go Go.RowKit
variable {G : Mem}
set_option maxHeartbeats 2000000 in
theorem dbegin_fn (f : Nat → Nat) (hf : L8 32 f) : Fn Tryd.prog G 92 #[.agg (arr .u8 32 f)] (PV (w8 (bL f)) (fun j => w8 (bL f) (j + 2)) (fun _ => 0) (fun _ => 0) 0) := by
  refine Qf1 Tryd.func92 ?_
  refine Qs<|Qp<|(Qh 0) fun r1=>(QH 1) fun r2=>Qn<|Qs<|(Qg) ?_
  refine e_sliceA 0 16 (Uu 23) (Uz 5) rfl rfl rfl rfl ⟨_, rfl⟩ (by omega) (by omega) (by omega) rfl ?_
  refine e_toArr (Uu 96) rfl (by omega) rfl ?_
  refine e_loadS (i := 0) (Uu 96) rfl (Uz 96) rfl rfl (by omega) rfl ⟨[], trivial⟩ ?_
  refine e_as (congrArg Value.agg (arr_congr (fun j _ => congrArg f (Nat.zero_add j)))) ?_
  refine e_call rfl (Un 105) (dpair_fn f (fun j hj => hf j (by omega))) rfl rfl ?_
  refine e_sliceA 16 32 (Uu 23) (Uz 5) rfl rfl rfl ⟨_, rfl⟩ rfl (by omega) (by omega) (by omega) rfl ?_
  refine e_toArr (Uu 96) rfl (by omega) rfl ?_
  refine e_loadS (i := 0) (Uu 96) rfl (Uz 96) rfl rfl (by omega) rfl ⟨[], trivial⟩ ?_
  refine e_call rfl (Un 105) (dpair_fn (fun t => f (16 + t)) (fun j hj => hf _ (by omega))) rfl rfl ?_
  refine e_as (congrArg Value.agg (arr_congr (pad_key hf))) ?_
  refine (QH 2) fun r3=>(QH 3) fun r4=>(Qt 2)<|(Qt 3)<|Qn<|Qs<|(Qg)<|(Qd 2) ?_
  refine e_call rfl (Un 106) (dclamped_fn _) rfl rfl ?_
  refine e_as (congrArg Value.agg (arr_congr (clamp_key hf))) ?_
  refine (Qd 3) ?_
  refine e_buildS (cells 24 [pI .u64 2 (w8 (bL f)), pI .u64 2 (fun j => w8 (bL f) (j + 2)), pI .u64 3 (fun _ => 0), pI .u8 16 (fun _ => 0), pV (.int .i64 0)]) (Ub 126 rfl) (Uu 126 rfl) pls126 rfl rfl rfl ?_
  refine e_storeA (i := 1) (Uz 126) rfl rfl (arrv_size _ _) (cells_one ⟨fun _ => rfl, fun _ => rfl, fun _ => rfl, fun _ => rfl, fun _ => rfl, trivial⟩) rfl cells_sz (.inl rfl) ?_
  refine Qn<|Qr ?_
  exact ⟨_, rfl, .cell (i := 1) rfl rfl (Uu 126) rfl (Uz 126) (arrv_size _ _)⟩
set_option maxHeartbeats 4000000 in
theorem dcheck_fn (r p a h : Nat → Nat) (n : Int) (ha0 : a 0 < 18446744073709551616) (ha1 : a 1 < 18446744073709551616) (ha2 : a 2 < 18446744073709551616) (hr0 : r 0 < 18446744073709551616) (hr1 : r 1 < 18446744073709551616) : Fn Tryd.prog G 103 #[PV r p a h n] (ii (if (okcd r a n && okh n h 16) = true then 0 else 9)) := by
  refine Qf1 Tryd.func103 ?_
  refine Qs<|Qp<|(Qh 0) fun r1=>(Qa)<|Qn<|Qs<|Qs ?_
  rcases dcases (n := n) hr0 hr1 ha0 ha1 ha2 with ⟨hk0, hko⟩ | ⟨hk0, hk1, hko⟩ | ⟨hk0, hk1, hk2, hko⟩ | ⟨hk0, hk1, hk2, hk3, hko⟩ | ⟨hk0, hk1, k, rfl, hk3, hko⟩
  · skip
    refine (Qg)<|(Qf 0)<|(Qv 0 0) ?_
    refine e_call rfl (Un 106) (dclamped_fn _) rfl rfl ?_
    refine (Qf 0)<|(Qv 0 0) ?_
    refine e_neA (Uu 123) (Uu 24) (Uz 24) eqg123 rfl rfl rfl ?_
    refine e_as (congrArg (fun z => Value.bool (!z)) hk0) ?_
    refine (Qm)<|(Qo)<|(Qo)<|(Qo)<|(Qo)<|(QT)<|(Qm)<|(Qo)<|(Qo)<|(Qo)<|(QT)<|(Qm)<|(Qo)<|(Qo)<|(Qo)<|(QT)<|Qn ?_
    refine e_cond rfl ?_ ?_
    · intro hc0
      have hfin := ok_no (d := okh n h 16) hko
      refine Qs<|Qp<|(Qa)<|Qn<|Qr ?_
      first | rw [if_pos hfin] | rw [if_neg hfin]
      exact ⟨_, rfl, .tmp rfl⟩
    · intro hc0
      exact absurd hc0 (by decide)
  · skip
    refine (Qg)<|(Qf 0)<|(Qv 0 0) ?_
    refine e_call rfl (Un 106) (dclamped_fn _) rfl rfl ?_
    refine (Qf 0)<|(Qv 0 0) ?_
    refine e_neA (Uu 123) (Uu 24) (Uz 24) eqg123 rfl rfl rfl ?_
    refine e_as (congrArg (fun z => Value.bool (!z)) hk0) ?_
    refine (Qm)<|(Qy)<|(Qf 4)<|(Qy)<|(Qv 2 0) ?_
    refine e_as (f3_of (w3_words ha0 ha1 ha2)).symm ?_
    refine (Qy) ?_
    refine e_call rfl (Un 110) (dbelow_fn (w3 a) (w3_lt192 ha0 ha1 ha2)) rfl rfl ?_
    refine (Qy)<|(Q0) ?_
    refine e_as (congrArg (fun z => Value.bool (!z)) (decide_eq_false hk1)) ?_
    refine (QF)<|(Qm)<|(Qo)<|(Qo)<|(Qo)<|(QT)<|(Qm)<|(Qo)<|(Qo)<|(Qo)<|(QT)<|Qn ?_
    refine e_cond rfl ?_ ?_
    · intro hc0
      have hfin := ok_no (d := okh n h 16) hko
      refine Qs<|Qp<|(Qa)<|Qn<|Qr ?_
      first | rw [if_pos hfin] | rw [if_neg hfin]
      exact ⟨_, rfl, .tmp rfl⟩
    · intro hc0
      exact absurd hc0 (by decide)
  · skip
    refine (Qg)<|(Qf 0)<|(Qv 0 0) ?_
    refine e_call rfl (Un 106) (dclamped_fn _) rfl rfl ?_
    refine (Qf 0)<|(Qv 0 0) ?_
    refine e_neA (Uu 123) (Uu 24) (Uz 24) eqg123 rfl rfl rfl ?_
    refine e_as (congrArg (fun z => Value.bool (!z)) hk0) ?_
    refine (Qm)<|(Qy)<|(Qf 4)<|(Qy)<|(Qv 2 0) ?_
    refine e_as (f3_of (w3_words ha0 ha1 ha2)).symm ?_
    refine (Qy) ?_
    refine e_call rfl (Un 110) (dbelow_fn (w3 a) (w3_lt192 ha0 ha1 ha2)) rfl rfl ?_
    refine (Qy)<|(Q0) ?_
    refine e_as (congrArg (fun z => Value.bool (!z)) (decide_eq_true hk1)) ?_
    refine (QF)<|(Qm)<|(Qy)<|(Qf 23)<|(Qy)<|(QV 4 0)<|(Qy)<|(Ql)<|(Qat)<|(QF)<|(Qm)<|(Qo)<|(Qo)<|(Qo)<|(QT)<|Qn ?_
    refine e_cond rfl ?_ ?_
    · intro hc0
      have hfin := ok_no (d := okh n h 16) hko
      refine Qs<|Qp<|(Qa)<|Qn<|Qr ?_
      first | rw [if_pos hfin] | rw [if_neg hfin]
      exact ⟨_, rfl, .tmp rfl⟩
    · intro hc0
      exact absurd hc0 (by decide)
  · skip
    refine (Qg)<|(Qf 0)<|(Qv 0 0) ?_
    refine e_call rfl (Un 106) (dclamped_fn _) rfl rfl ?_
    refine (Qf 0)<|(Qv 0 0) ?_
    refine e_neA (Uu 123) (Uu 24) (Uz 24) eqg123 rfl rfl rfl ?_
    refine e_as (congrArg (fun z => Value.bool (!z)) hk0) ?_
    refine (Qm)<|(Qy)<|(Qf 4)<|(Qy)<|(Qv 2 0) ?_
    refine e_as (f3_of (w3_words ha0 ha1 ha2)).symm ?_
    refine (Qy) ?_
    refine e_call rfl (Un 110) (dbelow_fn (w3 a) (w3_lt192 ha0 ha1 ha2)) rfl rfl ?_
    refine (Qy)<|(Q0) ?_
    refine e_as (congrArg (fun z => Value.bool (!z)) (decide_eq_true hk1)) ?_
    refine (QF)<|(Qm)<|(Qy)<|(Qf 23)<|(Qy)<|(QV 4 0)<|(Qy)<|(Ql)<|(Qaf)<|(QF)<|(Qm)<|(Qy)<|(Qf 23)<|(Qy)<|(QV 4 0)<|(Qy)<|(QE)<|(Qat)<|(QF)<|Qn ?_
    refine e_cond rfl ?_ ?_
    · intro hc0
      have hfin := ok_no (d := okh n h 16) hko
      refine Qs<|Qp<|(Qa)<|Qn<|Qr ?_
      first | rw [if_pos hfin] | rw [if_neg hfin]
      exact ⟨_, rfl, .tmp rfl⟩
    · intro hc0
      exact absurd hc0 (by decide)
  · skip
    refine (Qg)<|(Qf 0)<|(Qv 0 0) ?_
    refine e_call rfl (Un 106) (dclamped_fn _) rfl rfl ?_
    refine (Qf 0)<|(Qv 0 0) ?_
    refine e_neA (Uu 123) (Uu 24) (Uz 24) eqg123 rfl rfl rfl ?_
    refine e_as (congrArg (fun z => Value.bool (!z)) hk0) ?_
    refine (Qm)<|(Qy)<|(Qf 4)<|(Qy)<|(Qv 2 0) ?_
    refine e_as (f3_of (w3_words ha0 ha1 ha2)).symm ?_
    refine (Qy) ?_
    refine e_call rfl (Un 110) (dbelow_fn (w3 a) (w3_lt192 ha0 ha1 ha2)) rfl rfl ?_
    refine (Qy)<|(Q0) ?_
    refine e_as (congrArg (fun z => Value.bool (!z)) (decide_eq_true hk1)) ?_
    refine (QF)<|(Qm)<|(Qy)<|(Qf 23)<|(Qy)<|(QV 4 0)<|(Qy)<|(Ql)<|(Qaf)<|(QF)<|(Qm)<|(Qy)<|(Qf 23)<|(Qy)<|(QV 4 0)<|(Qy)<|(QE)<|(Qaf)<|(QF)<|Qn ?_
    refine e_cond rfl ?_ ?_
    · intro hc0
      exact absurd hc0 (by decide)
    · intro hc0
      refine Qk<|Qs<|Qs<|Qp<|(Qf 7)<|(Qf 23)<|(QV 4 0) ?_
      refine e_sliceA k 16 (Uu 96) (Uz 5) rfl rfl rfl ⟨_, rfl⟩ rfl (by omega) (by omega) (by omega) rfl ?_
      refine e_lenSl (Uu 33) rfl rfl rfl ?_
      refine (Qm)<|Qn<|Qb ?_
      refine QzK [(30, _), (31, _)] [(0, _)] (fun kk E m => ∃ (i : Nat), kk = 16 - k - i ∧ E = [(32, ii i)] ∧ m = [] ∧ (i ≤ 16 - k) ∧ (∀ j, j < i → h (k + j) = 0)) ⟨0, rfl, rfl, rfl, by omega, fun j hj => absurd hj (Nat.not_lt_zero j)⟩ ⟨rfl, rfl, rfl, trivial⟩ ⟨rfl, trivial⟩ ?_
      rintro kk E m ⟨i, rfl, rfl, rfl, hf0_0, hf0_1⟩
      simp only [catE, catL]
      refine Qs<|Qp<|(Ql)<|Qn<|Qs ?_
      refine e_cond rfl ?_ ?_
      · intro hc1
        have hc1 : i < 16 - k := by have := of_decide_eq_true hc1; omega
        refine Qk<|Qs<|Qb<|Qs<|Qp ?_
        refine e_atSl (7 + (k + i)) (Uu 33) (Uz 5) rfl rfl (by omega) (by omega) rfl ?_
        refine e_ldI (i := 0) 3 (k + i) (Uu 5) rfl rfl rfl rfl (by first | rfl | omega) (by omega) (by omega) rfl ⟨[], trivial⟩ ?_
        refine (Qa)<|Qn<|Qs<|Qp<|(Qm)<|(QN)<|Qn ?_
        refine e_cond rfl ?_ ?_
        · intro hc2
          have hc2 := of_decide_eq_true hc2
          have hfin : ¬ (okcd r a (k : Int) && okh (k : Int) h 16) = true := by rw [okh_not hc1 (fun e => hc2 (by rw [e]; rfl))]; simp
          refine Qs<|Qp<|(Qa)<|Qn<|Qr ?_
          first | rw [if_pos hfin] | rw [if_neg hfin]
          exact ⟨_, rfl, .tmp rfl⟩
        · intro hc2
          have hc2 := of_decide_eq_false hc2
          have hcz : h (k + i) = 0 := by omega
          refine Qk<|Qp<|(Q2 1)<|(Qm)<|Qn ?_
          refine QzL ⟨i + 1, rfl, rfl, rfl, by omega, fun j hj => by by_cases e : j = i; exact e ▸ hcz; exact hf0_1 j (by omega)⟩ ⟨rfl, rfl, rfl, trivial⟩ ⟨rfl, trivial⟩ ?_
          omega
      · intro hc1
        have hc1 := of_decide_eq_false hc1
        have hz0 : i = 16 - k := by omega
        have hfin : (okcd r a (k : Int) && okh (k : Int) h 16) = true := by rw [hko, okh_all (by rw [← hz0]; exact hf0_1)]; rfl
        refine Qe<|Qs<|Qp<|(Qa)<|Qn<|Qr ?_
        first | rw [if_pos hfin] | rw [if_neg hfin]
        exact ⟨_, rfl, .tmp rfl⟩
end Go.Proofs.YtbjaenjgahjikaaDoor
namespace Go.Proofs.YtbjaenjgahjikaaDoor
open Go Go.RowKit
variable {G : Mem}
set_option maxHeartbeats 4000000 in
theorem dadd_ok (r p : Nat → Nat) (A : Nat) (h : Nat → Nat) (n : Nat) (v : Value) (l : List Nat) (hv : Sh G v l) (hlb : ∀ b ∈ l, b < 256) (hA : A < 2 ^ 130) (hr0 : r 0 < 18446744073709551616) (hr1 : r 1 < 18446744073709551616) (hR : k3 r < 2 ^ 124) (hn : n < 16) (hh : L8 16 h) (hz : ∀ j, n ≤ j → j < 16 → h j = 0) (hok : (okcd r (wd A) n && okh n h 16) = true) (hlen : l.length + 16 ≤ 9223372036854775807) : Fn Tryd.prog G 91 #[PV r p (wd A) h n, v] (.tuple #[PV r p (wd (accs (k3 r) A (sS h n l) ((sS h n l).length / 16))) (fun i => ((sS h n l).drop (16 * ((sS h n l).length / 16))).getD i 0) (((sS h n l).drop (16 * ((sS h n l).length / 16))).length : Int), ii 0]) := by
  have hSl := sS_len h n l
  have hSb := sS_lt (n := n) (fun j hj => hh j (by omega)) hlb
  have hwA := wd_lt A
  refine Qf2 Tryd.func91 ?_
  refine Qs<|Qp<|(Qh 0) fun r1=>(QH 1) fun r2=>(Qa)<|Qn<|Qs<|Qs<|Qp<|(QD 0) ?_
  refine e_call rfl (Un 103) (dcheck_fn r p (wd A) h n (hwA 0) (hwA 1) (hwA 2) hr0 hr1) rfl rfl ?_
  refine e_as (congrArg ii (if_pos hok)) ?_
  refine (Qa)<|Qn<|Qs<|Qp<|(Qm)<|(QN)<|Qn ?_
  refine e_cond rfl ?_ ?_
  · intro hc0
    exact absurd hc0 (by decide)
  · intro hc0
    refine Qk<|Qs<|Qs<|Qp<|(Qm)<|(QC hv)<|(Qm)<|Qn<|Qb ?_
    refine QzK [(2, _), (4, _), (5, _), (15, _), (16, _)] [(1, _)] (fun kk E m => ∃ (i : Nat) (ac : Nat) (g : Nat → Nat) (c : Nat), kk = l.length - i ∧ E = [(17, ii i)] ∧ m = [(0, some ⟨r1, cells 24 [pI .u64 2 r, pI .u64 2 p, pI .u64 3 (wd ac), pI .u8 16 g, pV (.int .i64 ((c : Nat) : Int))], 126⟩)] ∧ (i ≤ l.length) ∧ (ac = accs (k3 r) A (sS h n l) ((n + i) / 16)) ∧ (c = (n + i) % 16) ∧ (∀ j, j < 16 → g j = hold (sS h n l) (n + i) j)) ⟨0, A, h, n, rfl, rfl, rfl, by omega, by rw [show (n + 0) / 16 = 0 by omega]; rfl, by omega, hold_first hn hz⟩ ⟨rfl, rfl, rfl, rfl, rfl, rfl, trivial⟩ ⟨rfl, rfl, trivial⟩ ?_
    rintro kk E m ⟨i, ac, g, c, rfl, rfl, rfl, hf0_0, hf0_1, hf0_2, hf0_3⟩
    simp only [catE, catL]
    have hac : ac < 2 ^ 130 := by rw [hf0_1]; exact accs_lt hA _
    refine Qs<|Qp<|(Ql)<|Qn<|Qs ?_
    refine e_cond rfl ?_ ?_
    · intro hc1
      have hc1 : i < l.length := by have := of_decide_eq_true hc1; omega
      refine Qk<|Qs<|Qb<|Qs<|Qp ?_
      refine e_atV hv (Uu 33) (Uz 5) rfl rfl (by omega) rfl ?_
      refine (QS) ?_
      refine e_loadV hv seenG (Uu 5) rfl rfl (nth_by8 hc1) rfl ?_
      refine (Qa)<|Qn<|Qs<|Qp<|(Qf 23)<|(QV 4 0)<|(Qm)<|(Qf 7)<|(QB (7 + c)) ?_
      refine e_stI (i := 0) 3 (c) (Uz 5) rfl rfl rfl rfl (by first | rfl | omega) (by omega) (by omega) (.inl rfl) ?_
      refine Qn<|Qs<|Qp<|(Qf 23)<|(QV 4 0)<|(Q2 1)<|(Qf 23) ?_
      refine e_stV (i := 0) 4 (Uz 3) rfl rfl rfl rfl rfl (by decide) (.inl rfl) ?_
      refine Qn<|Qs<|Qp<|(Qf 23)<|(QV 4 0)<|(Qc)<|Qn ?_
      refine e_cond rfl ?_ ?_
      · intro hc2
        have hc2 := of_decide_eq_true hc2
        have hc16 : c + 1 = 16 := by omega
        refine Qp<|(QD 0) ?_
        refine e_as (show _ = PV r p (wd ac) (upd g c l[i]) ((c + 1 : Nat) : Int) from rfl) ?_
        refine e_call rfl (Un 104) (dtake_fn r p ac (upd g c l[i]) (c + 1) hr0 hr1 hR hac (by omega) (fun j hj => by unfold upd; split; exact hlb _ (List.getElem_mem hc1); rw [hf0_3 j hj]; exact hold_lt hSb _ _) (fun j h1 h2 => absurd h2 (by omega))) rfl rfl ?_
        refine e_storeA (i := 0) (Uz 126) rfl rfl (arrv_size _ _) (cells_one ⟨fun _ => rfl, fun _ => rfl, fun _ => rfl, fun _ => rfl, fun _ => rfl, trivial⟩) rfl cells_sz (.inl rfl) ?_
        refine Qn<|Qp<|(Q2 1)<|(Qm)<|Qn ?_
        refine QzL ⟨i + 1, _, _, _, rfl, rfl, rfl, by omega, (by first | exact accs_stay (T := n + i) (by omega) hf0_1 | exact accs_step (T := n + i) (by omega) hf0_1 (by rw [hc16, hf0_2]; exact hold_full (T := n + i) (by omega) (by omega) (sS_at hc1) hf0_3)), by omega, (by first | exact hold_zero (T := n + i) (by omega) | (rw [hf0_2]; exact hold_next (T := n + i) (by omega) (sS_at hc1) hf0_3))⟩ ⟨rfl, rfl, rfl, rfl, rfl, rfl, trivial⟩ ⟨rfl, rfl, trivial⟩ ?_
        omega
      · intro hc2
        have hc2 := of_decide_eq_false hc2
        refine Qk<|Qp<|(Q2 1)<|(Qm)<|Qn ?_
        refine QzL ⟨i + 1, _, _, _, rfl, rfl, rfl, by omega, (by first | exact accs_stay (T := n + i) (by omega) hf0_1 | exact accs_step (T := n + i) (by omega) hf0_1 (by rw [hc16, hf0_2]; exact hold_full (T := n + i) (by omega) (by omega) (sS_at hc1) hf0_3)), by omega, (by first | exact hold_zero (T := n + i) (by omega) | (rw [hf0_2]; exact hold_next (T := n + i) (by omega) (sS_at hc1) hf0_3))⟩ ⟨rfl, rfl, rfl, rfl, rfl, rfl, trivial⟩ ⟨rfl, rfl, trivial⟩ ?_
        omega
    · intro hc1
      have hc1 := of_decide_eq_false hc1
      have hz0 : i = l.length := by omega
      refine Qe<|Qs<|Qp<|(QD 0) ?_
      refine e_as (Eq.trans (show _ = PV r p (wd ac) g ((c : Nat) : Int) from rfl) (show _ = PV r p (wd (accs (k3 r) A (sS h n l) ((sS h n l).length / 16))) (fun i => ((sS h n l).drop (16 * ((sS h n l).length / 16))).getD i 0) (((sS h n l).drop (16 * ((sS h n l).length / 16))).length : Int) from PV_congr (fun _ _ => rfl) (fun _ _ => rfl) (fun _ _ => by rw [hf0_1, hSl, hz0]) (hold_end (by rw [hSl, ← hz0]; exact hf0_3)) (by rw [List.length_drop]; omega))) ?_
      refine e_storeA (i := 1) (Uz 126) rfl rfl (arrv_size _ _) (cells_one ⟨fun _ => rfl, fun _ => rfl, fun _ => rfl, fun _ => rfl, fun _ => rfl, trivial⟩) rfl cells_sz (.inl rfl) ?_
      refine (Qa)<|Qn<|Qr ?_
      exact ⟨_, _, rfl, .cell (i := 1) rfl rfl (Uu 126) rfl (Uz 126) (arrv_size _ _), .tmp rfl⟩
set_option maxHeartbeats 4000000 in
theorem dend_zero (r p : Nat → Nat) (A : Nat) (h : Nat → Nat) (n : Nat) (hr0 : r 0 < 18446744073709551616) (hr1 : r 1 < 18446744073709551616) (hp0 : p 0 < 18446744073709551616) (hp1 : p 1 < 18446744073709551616) (hn : n = 0) (hok : (okcd r (wd A) n && okh n h 16) = true) : Fn Tryd.prog G 93 #[PV r p (wd A) h n] (.tuple #[.agg (arr .u8 16 (tgn (k3 (wd A)) (k3 p))), ii 0]) := by
  have hwA := wd_lt A
  refine Qf2 Tryd.func93 ?_
  refine Qs<|Qp<|(Qh 0) fun r1=>(QH 1) fun r2=>(Qa)<|Qn<|Qs<|Qs<|Qp<|(QD 0) ?_
  refine e_call rfl (Un 103) (dcheck_fn r p (wd A) h n (hwA 0) (hwA 1) (hwA 2) hr0 hr1) rfl rfl ?_
  refine e_as (congrArg ii (if_pos hok)) ?_
  refine (Qa)<|Qn<|Qs<|Qp<|(Qm)<|(QN)<|Qn ?_
  refine e_cond rfl ?_ ?_
  · intro hc0
    exact absurd hc0 (by decide)
  · intro hc0
    refine Qk<|Qs<|Qs<|Qp<|(Qf 23)<|(QV 4 0)<|(QG)<|Qn ?_
    refine e_cond rfl ?_ ?_
    · intro hc1
      exact absurd (of_decide_eq_true hc1) (by omega)
    · intro hc1
      refine Qk<|Qs<|Qp<|(QD 0) ?_
      refine e_call rfl (Un 107) (dpad_fn r p A h n hp0 hp1) rfl rfl ?_
      refine (Qt 1)<|(Qa)<|Qn<|Qr ?_
      exact ⟨_, _, rfl, .cell (i := 1) rfl rfl (Uu 96) rfl (Uz 96) (arr_size _ _ _), .tmp rfl⟩
set_option maxHeartbeats 4000000 in
theorem dend_some (r p : Nat → Nat) (A : Nat) (h : Nat → Nat) (n : Nat) (hr0 : r 0 < 18446744073709551616) (hr1 : r 1 < 18446744073709551616) (hp0 : p 0 < 18446744073709551616) (hp1 : p 1 < 18446744073709551616) (hR : k3 r < 2 ^ 124) (hA : A < 2 ^ 130) (hh : L8 16 h) (hz : ∀ j, n ≤ j → j < 16 → h j = 0) (hn : 0 < n) (hn2 : n < 16) (hok : (okcd r (wd A) n && okh n h 16) = true) : Fn Tryd.prog G 93 #[PV r p (wd A) h n] (.tuple #[.agg (arr .u8 16 (tgn (k3 (wd (pst (k3 r) A ((List.range n).map h)))) (k3 p))), ii 0]) := by
  have hwA := wd_lt A
  refine Qf2 Tryd.func93 ?_
  refine Qs<|Qp<|(Qh 0) fun r1=>(QH 1) fun r2=>(Qa)<|Qn<|Qs<|Qs<|Qp<|(QD 0) ?_
  refine e_call rfl (Un 103) (dcheck_fn r p (wd A) h n (hwA 0) (hwA 1) (hwA 2) hr0 hr1) rfl rfl ?_
  refine e_as (congrArg ii (if_pos hok)) ?_
  refine (Qa)<|Qn<|Qs<|Qp<|(Qm)<|(QN)<|Qn ?_
  refine e_cond rfl ?_ ?_
  · intro hc0
    exact absurd hc0 (by decide)
  · intro hc0
    refine Qk<|Qs<|Qs<|Qp<|(Qf 23)<|(QV 4 0)<|(QG)<|Qn ?_
    refine e_cond rfl ?_ ?_
    · intro hc1
      refine Qp<|(QD 0) ?_
      refine e_call rfl (Un 104) (dtake_fn r p A h n hr0 hr1 hR hA (by omega) hh hz) rfl rfl ?_
      refine e_storeA (i := 0) (Uz 126) rfl rfl (arrv_size _ _) (cells_one ⟨fun _ => rfl, fun _ => rfl, fun _ => rfl, fun _ => rfl, fun _ => rfl, trivial⟩) rfl cells_sz (.inl rfl) ?_
      refine Qn<|Qs<|Qp<|(QD 0) ?_
      refine e_call rfl (Un 107) (dpad_fn r p (pst (k3 r) A ((List.range n).map h)) (fun _ => 0) ((0 : Nat) : Int) hp0 hp1) rfl rfl ?_
      refine (Qt 1)<|(Qa)<|Qn<|Qr ?_
      exact ⟨_, _, rfl, .cell (i := 1) rfl rfl (Uu 96) rfl (Uz 96) (arr_size _ _ _), .tmp rfl⟩
    · intro hc1
      exact absurd (of_decide_eq_false hc1) (by omega)
end Go.Proofs.YtbjaenjgahjikaaDoor
namespace Go.Proofs.YtbjaenjgahjikaaDoor
open Go Go.RowKit
theorem dbegin_msg {G : Mem} (f : Nat → Nat) (hf : ∀ j, j < 32 → f j < 256) : Fn Tryd.prog G 92 #[.agg (arr .u8 32 f)] (stP f []) := by
  rw [← stP_nil f]; exact dbegin_fn f hf
theorem heldF_zero (m : List Nat) : ∀ j, (rem16 m).length ≤ j → j < 16 → heldF m j = 0 := fun j h1 _ => by
  unfold heldF
  rw [List.getD_eq_getElem?_getD, List.getElem?_eq_none h1]; rfl
theorem dadded_msg {G : Mem} (f : Nat → Nat) (m : List Nat) (v : Value) (l : List Nat) (hf : ∀ j, j < 32 → f j < 256) (hm : ∀ b ∈ m, b < 256) (hv : Shows G 1 v l.length (l.map by8)) (hlb : ∀ b ∈ l, b < 256) (hlen : l.length + 16 ≤ 9223372036854775807) :
    Fn Tryd.prog G 91 #[stP f m, v] (.tuple #[stP f (m ++ l), ii 0]) := by
  have hb := bL_lt hf
  have h := dadd_ok (G := G) (w8 (bL f)) (fun j => w8 (bL f) (j + 2)) (acc0 (k3 (w8 (bL f))) m) (heldF m) (rem16 m).length v l hv hlb (Nat.lt_trans (acc0_lt _ _) QQ_lt) (w8_lt hb 0) (w8_lt hb 1) (k3_small (w8_lt hb 0) (w8_lt hb 1) (okR_begun hf)) (by rw [rem16_len]; omega) (fun j _ => heldF_lt hm j) (heldF_zero m) (ok_heldF (okR_begun hf) _ m) hlen
  rw [sS_held, acc0_app, rem16_app] at h
  exact h
theorem dended_msg {G : Mem} (f : Nat → Nat) (m : List Nat) (hf : ∀ j, j < 32 → f j < 256) (hm : ∀ b ∈ m, b < 256) : Fn Tryd.prog G 93 #[stP f m] (.tuple #[.agg (arr .u8 16 (ptg f m)), ii 0]) := by
  have hb := bL_lt hf
  have hok := ok_heldF (okR_begun hf) (k3 (w8 (bL f))) m
  by_cases h0 : (rem16 m).length = 0
  · have h := dend_zero (G := G) (w8 (bL f)) (fun j => w8 (bL f) (j + 2)) (acc0 (k3 (w8 (bL f))) m) (heldF m) (rem16 m).length (w8_lt hb 0) (w8_lt hb 1) (w8_lt hb 2) (w8_lt hb 3) h0 hok
    unfold stP cP
    rw [show acc0 (k3 (w8 (bL f))) m = accE (k3 (w8 (bL f))) m from (if_pos h0).symm] at h ⊢
    exact h
  · have h := dend_some (G := G) (w8 (bL f)) (fun j => w8 (bL f) (j + 2)) (acc0 (k3 (w8 (bL f))) m) (heldF m) (rem16 m).length (w8_lt hb 0) (w8_lt hb 1) (w8_lt hb 2) (w8_lt hb 3) (k3_small (w8_lt hb 0) (w8_lt hb 1) (okR_begun hf)) (Nat.lt_trans (acc0_lt _ _) QQ_lt) (fun j _ => heldF_lt hm j) (heldF_zero m) (by omega) (by rw [rem16_len]; omega) hok
    rw [held_list, show pst (k3 (w8 (bL f))) (acc0 (k3 (w8 (bL f))) m) (rem16 m) = accE (k3 (w8 (bL f))) m from (if_neg h0).symm] at h
    exact h
variable {G : Mem}
set_option maxHeartbeats 2000000 in
theorem dtag_fn (f : Nat → Nat) (v : Value) (l : List Nat) (hf : L8 32 f) (hb : ∀ b ∈ l, b < 256) (hl : l.length ≤ 140737488351232) (hv : Sh G v l) : Fn Tryd.prog G 79 #[.agg (arr .u8 32 f), v] (.agg (arr .u8 16 (ptg f l))) := by
  have hl2 : l.length + 16 ≤ 9223372036854775807 := by omega
  refine Qf1 Tryd.func79 ?_
  refine Qs<|Qp<|(Qh 0) fun r1=>(QH 1) fun r2=>Qn<|Qs<|Qp<|(Qd 0) ?_
  refine e_call rfl (Un 92) (dbegin_msg f hf) rfl rfl ?_
  refine (Qm) ?_
  refine e_call rfl (Un 91) (dadded_msg f [] v l hf (by simp) hv hb hl2) rfl rfl ?_
  refine e_as (show _ = Value.tuple #[stP f l, ii 0] from rfl) ?_
  refine (Qm)<|(Qx)<|(Qx)<|(QH 2) fun r3=>?_
  refine e_storeA (i := 2) (Uz 126) rfl rfl (arrv_size _ _) (cells_one ⟨fun _ => rfl, fun _ => rfl, fun _ => rfl, fun _ => rfl, fun _ => rfl, trivial⟩) rfl cells_sz (.inl rfl) ?_
  refine (Qa)<|Qn<|Qs<|Qp<|(QD 2) ?_
  refine e_call rfl (Un 93) (dended_msg f l hf hb) rfl rfl ?_
  refine (Qm)<|(Qx)<|(Qx)<|(QH 3) fun r4=>(Qt 3)<|(Qa)<|Qn<|Qs<|Qp<|(Qd 3)<|(Qt 1)<|Qn<|Qr ?_
  exact ⟨_, rfl, .cell (i := 1) rfl rfl (Uu 96) rfl (Uz 96) (arr_size _ _ _)⟩
end Go.Proofs.YtbjaenjgahjikaaDoor
namespace Go.Proofs.YtbjaenjgahjikaaDoor
open Go Go.RowKit
variable {G : Mem}
set_option maxHeartbeats 4000000 in
theorem dsummed_fn (va vt : Value) (ad tx : List Nat) (hva : Sh G va ad) (hvt : Sh G vt tx) (hal : ad.length ≤ 10000) (htl : tx.length ≤ 10000) : Fx Tryd.prog G [] 80 #[va, vt] (fun v l1 nw => l1 = [] ∧ ∃ v', v = v' ∧ OwnS 5 1 v' (macIn ad tx).length ((macIn ad tx).map by8) nw) := by
  have hml := macIn_len ad tx
  have hse := summed_eq ad tx
  refine QfN Tryd.func80 ?_
  refine Qs<|Qp<|(Qa)<|Qn<|Qs<|QR ⟨[], 4, [], none⟩<|(Qm)<|(Qm)<|(QC hva) ?_
  refine e_callN 0 (fun v => v) rfl rfl (Un 94) seenG (dfill_fn ad.length) (by simp only [maxLen]; omega) (by rw [List.length_map, zrs_len, Nat.mul_one]) rfl rfl fun v1_1 oz1_1 ho1_1 => ?_
  refine (Qm)<|(Qm)<|(QC hvt) ?_
  refine e_callN 1 (fun v => v) rfl rfl (Un 94) seenG (dfill_fn tx.length) (by simp only [maxLen]; omega) (by rw [List.length_map, zrs_len, Nat.mul_one]) rfl rfl fun v1_2 oz1_2 ho1_2 => ?_
  refine (Qm)<|(QC hva) ?_
  refine e_callN 2 (fun v => v) rfl rfl (Un 95) seenG (deight_fn ad.length) (by simp only [maxLen]; omega) (by rw [List.length_map, lowl_len]) rfl rfl fun v1_3 oz1_3 ho1_3 => ?_
  refine (Qm)<|(QC hvt) ?_
  refine e_callN 3 (fun v => v) rfl rfl (Un 95) seenG (deight_fn tx.length) (by simp only [maxLen]; omega) (by rw [List.length_map, lowl_len]) rfl rfl fun v1_4 oz1_4 ho1_4 => ?_
  refine e_buildSl 4 [va, v1_1, vt, v1_2, v1_3, v1_4].toArray (Uu 88 rfl) (Uz 33 rfl) (Ub 33 rfl) (by decide) (by decide) rfl (fill_ones [va, v1_1, vt, v1_2, v1_3, v1_4] 0 _ (by intro v hv; simp only [List.mem_cons, List.not_mem_nil, or_false] at hv; rcases hv with rfl | rfl | rfl | rfl | rfl | rfl; exact shows_one hva; exact shows_one ho1_1.shows; exact shows_one hvt; exact shows_one ho1_2.shows; exact shows_one ho1_3.shows; exact shows_one ho1_4.shows) (by simp)) rfl fun r5 => ?_
  refine e_callN 5 (fun v => v) rfl rfl (Un 42) (seen_app seenG (seen_app (seenM 0 rfl ⟨[], trivial⟩) (seen_app (seenM 1 rfl ⟨[], trivial⟩) (seen_app (seenM 2 rfl ⟨[], trivial⟩) (seen_app (seenM 3 rfl ⟨[], trivial⟩) (seen1 4 rfl ⟨[], trivial⟩)))))) (concat_fn (G := (G ++ (oz1_1.toList ++ (oz1_2.toList ++ (oz1_3.toList ++ (oz1_4.toList ++ [(⟨r5, [va, v1_1, vt, v1_2, v1_3, v1_4].toArray, 33⟩ : Blk)])))))) (.slice (some ⟨r5, 0, none⟩) 6 6) [va, v1_1, vt, v1_2, v1_3, v1_4] [ad, zrs ((16 - ad.length % 16) % 16), tx, zrs ((16 - tx.length % 16) % 16), lowl ad.length 8, lowl tx.length 8] (Shows.mono (shows_new (r := r5) (len := 6) (z := 1) [va, v1_1, vt, v1_2, v1_3, v1_4].toArray 33 rfl) (fun x h => (List.mem_append_right _ (List.mem_append_right _ (List.mem_append_right _ (List.mem_append_right _ (List.mem_append_right _ h))))))) (showsL_cons (hva.mono (fun x h => (List.mem_append_left _ h))) (showsL_cons (Shows.mono (OwnS.shows (own_fix ho1_1 (zrs_len _).symm rfl)) (fun x h => (List.mem_append_right _ (List.mem_append_left _ h)))) (showsL_cons (hvt.mono (fun x h => (List.mem_append_left _ h))) (showsL_cons (Shows.mono (OwnS.shows (own_fix ho1_2 (zrs_len _).symm rfl)) (fun x h => (List.mem_append_right _ (List.mem_append_right _ (List.mem_append_left _ h))))) (showsL_cons (Shows.mono (OwnS.shows (own_fix ho1_3 (lowl_len ad.length 8).symm rfl)) (fun x h => (List.mem_append_right _ (List.mem_append_right _ (List.mem_append_right _ (List.mem_append_left _ h)))))) (showsL_cons (Shows.mono (OwnS.shows (own_fix ho1_4 (lowl_len tx.length 8).symm rfl)) (fun x h => (List.mem_append_right _ (List.mem_append_right _ (List.mem_append_right _ (List.mem_append_right _ (List.mem_append_left _ h))))))) (showsL_nil _))))))) (Nat.le_of_ble_eq_true rfl) (by rw [hse]; omega)) (by rw [hse]; simp only [maxLen]; omega) (by rw [List.length_map, Nat.mul_one]) rfl rfl fun v1_5 oz1_5 ho1_5 => ?_
  refine (Qa)<|Qn<|Qr ?_
  exact ⟨_, _, _, 5, rfl, .tmp rfl, (own_fix ho1_5 (by rw [hse]) (by rw [hse])), rfl⟩
set_option maxHeartbeats 400000 in
theorem dsame_fn (f g : Nat → Nat) : Fn Tryd.prog G 67 #[.agg (arr .u8 16 f), .agg (arr .u8 16 g)] (.bool (decide (agr f g 16 = 0))) := by
  refine Qf1 Tryd.func67 ?_
  refine Qs<|Qp<|(Qh 0) fun r1=>(Qh 1) fun r2=>(Qa)<|Qn<|Qs<|Qp<|(Qa)<|Qn<|Qs<|Qs<|Qp<|(Qm)<|Qn<|Qb ?_
  refine QzK [(2, _), (3, _), (4, _)] [(0, _), (1, _)] (fun kk E m => ∃ (i : Nat), kk = 16 - i ∧ E = [(5, by8 (agr f g i)), (7, ii i)] ∧ m = [] ∧ (i ≤ 16)) ⟨0, rfl, rfl, rfl, by omega⟩ ⟨rfl, rfl, rfl, rfl, rfl, trivial⟩ ⟨rfl, rfl, trivial⟩ ?_
  rintro kk E m ⟨i, rfl, rfl, rfl, hf0_0⟩
  simp only [catE, catL]
  refine Qs<|Qp<|(Ql)<|Qn<|Qs ?_
  refine e_cond rfl ?_ ?_
  · intro hc0
    have hc0 : i < 16 := by have := of_decide_eq_true hc0; omega
    refine Qk<|Qs<|Qb<|Qs<|Qp<|(Qm)<|(Qa)<|Qn<|(Qg)<|(Qm)<|(Qm)<|(Qi)<|(Q1 0)<|(Qm)<|(Qi)<|(Q1 1) ?_
    refine e_xor_b rfl rfl rfl  ?_
    refine e_or_b rfl rfl rfl  ?_
    refine (Qa)<|Qn<|Qp<|(Q2 1)<|(Qm)<|Qn ?_
    refine QzL ⟨i + 1, rfl, rfl, rfl, by omega⟩ ⟨rfl, rfl, rfl, rfl, rfl, trivial⟩ ⟨rfl, rfl, trivial⟩ ?_
    omega
  · intro hc0
    have hc0 := of_decide_eq_false hc0
    have hz0 : i = 16 := by omega
    subst hz0
    refine Qe<|Qs<|Qp<|(Qm)<|(Qc) ?_
    refine e_as (show _ = Value.bool (decide (agr f g 16 = 0)) from congrArg Value.bool (decide_eq_decide.2 (by omega))) ?_
    refine (Qa)<|Qn<|Qr ?_
    exact ⟨_, rfl, .tmp rfl⟩
set_option maxHeartbeats 400000 in
theorem dstream_fn (k nn : Nat → Nat) (v : Value) (l : List Nat) (hk : L8 32 k) (hn : L8 12 nn) (hv : Sh G v l) (hl : l.length ≤ 1600) : Fx Tryd.prog G [] 65 #[.agg (arr .u8 32 k), .agg (arr .u8 12 nn), v] (fun v l1 nw => l1 = [] ∧ ∃ v', v = v' ∧ OwnS 5 1 v' l.length ((strl k 1 nn l 0).map by8) nw) := by
  refine QfN Tryd.func65 ?_
  refine Qs<|Qp<|(Qh 0) fun r1=>(Qh 1) fun r2=>(Qa)<|Qn<|Qs<|QR ⟨[], 4, [], none⟩<|(Qd 0)<|(Qd 1)<|(Qm) ?_
  refine e_callN 2 (fun v => .tuple #[v, ii 0]) rfl rfl (Un 77) seenG (stream_ok k 1 nn v l hv hk hn (by decide) (by omega) (by omega)) (by simp only [maxLen]; omega) (by rw [List.length_map, strl_len, Nat.mul_one]) rfl rfl fun v1_1 oz1_1 ho1_1 => ?_
  refine (Qm)<|(Qx)<|(Qx)<|(Qa)<|(Qa)<|Qn<|Qs<|Qp<|(Qm)<|(Qa)<|Qn<|Qr ?_
  exact ⟨_, _, _, 2, rfl, .tmp rfl, ho1_1, rfl⟩
end Go.Proofs.YtbjaenjgahjikaaDoor
namespace Go.Proofs.YtbjaenjgahjikaaDoor
open Go Go.RowKit
variable {G : Mem}
set_option maxHeartbeats 4000000 in
theorem dtagOf_fn (k nn : Nat → Nat) (va vt : Value) (ad tx : List Nat) (hva : Sh G va ad) (hvt : Sh G vt tx) (hk : L8 32 k) (hn : L8 12 nn) (hab : (∀ b ∈ ad, b < 256)) (htb : (∀ b ∈ tx, b < 256)) (hal : ad.length ≤ 10000) (htl : tx.length ≤ 10000) : Fn Tryd.prog G 66 #[.agg (arr .u8 32 k), .agg (arr .u8 12 nn), va, vt] (.agg (arr .u8 16 (ptg (okey k nn) (macIn ad tx)))) := by
  have hml := macIn_len ad tx
  refine Qf1 Tryd.func66 ?_
  refine Qs<|Qp<|(Qh 0) fun r1=>(Qh 1) fun r2=>(QH 2) fun r3=>Qn<|Qs<|Qp<|(Qd 0)<|(Qd 1) ?_
  refine e_call rfl (Un 78) (block_fn k 0 nn hk hn (by decide)) rfl rfl ?_
  refine (QH 3) fun r4=>(Qt 3)<|Qn<|Qs<|(Qq ⟨[], 4, [], none⟩) ?_
  refine e_sliceA 0 32 (Uu 65) (Uz 5) rfl rfl rfl rfl ⟨_, rfl⟩ (by omega) (by omega) (by omega) rfl ?_
  refine e_toArr (Uu 23) rfl (by omega) rfl ?_
  refine e_loadS (i := 3) (Uu 23) rfl (Uz 23) rfl rfl (by omega) rfl ⟨[], trivial⟩ ?_
  refine e_as (congrArg Value.agg (arr_congr (fun j _ => show blkf k 0 nn (0 + j) = okey k nn j by rw [Nat.zero_add]; rfl))) ?_
  refine (Qm)<|(Qm) ?_
  refine e_callN 4 (fun v => v) rfl rfl (Un 80) seenG (dsummed_fn va vt ad tx hva hvt hal htl) (by simp only [maxLen]; omega) (by rw [List.length_map, Nat.mul_one]) rfl rfl fun v1_1 oz1_1 ho1_1 => ?_
  refine e_callV oz1_1.toList rfl rfl (Un 79) (subM_opt (i := 4) rfl) (dtag_fn (okey k nn) _ (macIn ad tx) (okey_lt k nn) (macIn_lt hab htb) (by omega) ho1_1.shows) rfl rfl rfl ?_
  refine (Qt 2)<|Qn<|Qr ?_
  exact ⟨_, rfl, .cell (i := 2) rfl rfl (Uu 96) rfl (Uz 96) (arr_size _ _ _)⟩
end Go.Proofs.YtbjaenjgahjikaaDoor
namespace Go.Proofs.YtbjaenjgahjikaaDoor
open Go Go.RowKit
variable {G : Mem}
set_option maxHeartbeats 400000 in
theorem dseal_big2 (k nn : Nat → Nat) (va vt : Value) (ad tx : List Nat) (hva : Sh G va ad) (hvt : Sh G vt tx) (h : ad.length ≤ 200) (h2 : 800 < tx.length) : Fn Tryd.prog G 46 #[.agg (arr .u8 32 k), .agg (arr .u8 12 nn), va, vt] (.tuple #[nilS, ii 1]) := by
  refine Qf2 Tryd.func46 ?_
  refine Qs<|Qp<|(Qh 0) fun r1=>(Qh 1) fun r2=>(Qa)<|(Qa)<|Qn<|Qs<|Qs<|Qp<|(Qm)<|(QC hva)<|(QG)<|(Qaf)<|(Qm)<|(Qy)<|(Qm)<|(Qy)<|(QC hvt)<|(Qy)<|(QG)<|(Qat)<|(QF)<|Qn<|(Qct)<|Qs<|Qp<|(Qa)<|(Qa)<|Qn<|Qr ?_
  exact ⟨_, _, rfl, .tmp rfl, .tmp rfl⟩
set_option maxHeartbeats 4000000 in
theorem dseal_ok (k nn : Nat → Nat) (va vt : Value) (ad tx : List Nat) (hk : L8 32 k) (hn : L8 12 nn) (hva : Sh G va ad) (hvt : Sh G vt tx) (hab : (∀ b ∈ ad, b < 256)) (h : ad.length ≤ 200) (h2 : tx.length ≤ 800) : Fx Tryd.prog G [] 46 #[.agg (arr .u8 32 k), .agg (arr .u8 12 nn), va, vt] (fun v l1 nw => l1 = [] ∧ ∃ v', v = .tuple #[v', ii 0] ∧ OwnS 5 1 v' (sealL k nn ad tx).length ((sealL k nn ad tx).map by8) nw) := by
  have hsl := strl_len k 1 nn tx 0
  have hse := sealL_len k nn ad tx
  refine QfM Tryd.func46 ?_
  refine Qs<|Qp<|(Qh 0) fun r1=>(Qh 1) fun r2=>(Qa)<|(Qa)<|Qn<|Qs<|Qs<|Qp<|(Qm)<|(QC hva)<|(QG)<|(Qaf)<|(Qm)<|(Qy)<|(Qm)<|(Qy)<|(QC hvt)<|(Qy)<|(QG)<|(Qaf)<|(QF)<|Qn<|(Qcf)<|Qk<|Qs<|QR ⟨[], 4, [], none⟩<|(Qd 0)<|(Qd 1)<|(Qm) ?_
  refine e_callN 2 (fun v => v) rfl rfl (Un 65) seenG (dstream_fn k nn vt tx hk hn hvt (by omega)) (by simp only [maxLen]; omega) (by rw [List.length_map, strl_len, Nat.mul_one, Nat.sub_zero]) rfl rfl fun v2_1 oz2_1 ho2_1 => ?_
  refine (Qa)<|Qn<|Qs<|Qp<|(Qd 0)<|(Qd 1)<|(Qm)<|(Qm) ?_
  refine e_callS rfl rfl (Un 66) (seen_app seenG (seenM 2 rfl ⟨[], trivial⟩)) (dtagOf_fn (G := G ++ oz2_1.toList) k nn va _ ad (strl k 1 nn tx 0) (hva.mono (fun x h => List.mem_append_left _ h)) ((own_bytes ho2_1).mono (fun x h => List.mem_append_right _ h)) hk hn hab (strl_lt _ _ _ _ _) (by omega) (by omega)) rfl rfl ?_
  refine (QH 3) fun r4=>(Qt 3)<|Qn<|Qs<|Qp<|(Qm) ?_
  refine e_sliceA 0 16 (Uu 96) (Uz 5) rfl rfl rfl rfl rfl (by omega) (by omega) (by omega) rfl ?_
  refine e_append 2 ho2_1 (arr_shows r4 16 (ptg (okey k nn) (macIn ad (strl k 1 nn tx 0))) 96 0 16 16 (by decide) (by decide)) rfl (seen1 3 rfl ⟨[], trivial⟩) (Uu 33) (Uz 5) (Uy 5) (Ub 5) (by rfl) rfl rfl by8_one (by simp only [maxLen]; simp; omega) (by simp; omega) rfl fun v2_2 oz2_2 ho2_2 => ?_
  refine (Qa)<|(Qa)<|Qn<|Qr ?_
  exact ⟨_, _, _, _, 2, rfl, .tmp rfl, .tmp rfl, (own_fix ho2_2 (by rw [hse]; simp) (seal_cells k nn ad tx)), rfl⟩
set_option maxHeartbeats 400000 in
theorem dopen_big2 (k nn : Nat → Nat) (va vt : Value) (ad tx : List Nat) (hva : Sh G va ad) (hvt : Sh G vt tx) (h : ad.length ≤ 200) (h2 : 816 < tx.length) : Fn Tryd.prog G 47 #[.agg (arr .u8 32 k), .agg (arr .u8 12 nn), va, vt] (.tuple #[nilS, ii 1]) := by
  refine Qf2 Tryd.func47 ?_
  refine Qs<|Qp<|(Qh 0) fun r1=>(Qh 1) fun r2=>(Qa)<|(Qa)<|Qn<|Qs<|Qs<|Qp<|(Qm)<|(QC hva)<|(QG)<|(Qaf)<|(Qm)<|(Qy)<|(Qm)<|(Qy)<|(QC hvt)<|(Qy)<|(QG)<|(Qat)<|(QF)<|Qn<|(Qct)<|Qs<|Qp<|(Qa)<|(Qa)<|Qn<|Qr ?_
  exact ⟨_, _, rfl, .tmp rfl, .tmp rfl⟩
set_option maxHeartbeats 400000 in
theorem dopen_short (k nn : Nat → Nat) (va vt : Value) (ad tx : List Nat) (hva : Sh G va ad) (hvt : Sh G vt tx) (h : ad.length ≤ 200) (h2 : tx.length < 16) : Fn Tryd.prog G 47 #[.agg (arr .u8 32 k), .agg (arr .u8 12 nn), va, vt] (.tuple #[nilS, ii 4]) := by
  refine Qf2 Tryd.func47 ?_
  refine Qs<|Qp<|(Qh 0) fun r1=>(Qh 1) fun r2=>(Qa)<|(Qa)<|Qn<|Qs<|Qs<|Qp<|(Qm)<|(QC hva)<|(QG)<|(Qaf)<|(Qm)<|(Qy)<|(Qm)<|(Qy)<|(QC hvt)<|(Qy)<|(QG)<|(Qaf)<|(QF)<|Qn<|(Qcf)<|Qk<|Qs<|Qs<|Qp<|(Qm)<|(QC hvt)<|(Ql)<|(Qat)<|Qn<|(Qct)<|Qs<|Qp<|(Qa)<|(Qa)<|Qn<|Qr ?_
  exact ⟨_, _, rfl, .tmp rfl, .tmp rfl⟩
set_option maxHeartbeats 4000000 in
theorem dopen_auth (k nn : Nat → Nat) (va vt : Value) (ad tx : List Nat) (hk : L8 32 k) (hn : L8 12 nn) (hva : Sh G va ad) (hvt : Sh G vt tx) (hab : (∀ b ∈ ad, b < 256)) (htb : (∀ b ∈ tx, b < 256)) (h : ad.length ≤ 200) (h2 : 16 ≤ tx.length) (h3 : tx.length ≤ 816) (ho : ¬ opensL k nn ad tx) : Fn Tryd.prog G 47 #[.agg (arr .u8 32 k), .agg (arr .u8 12 nn), va, vt] (.tuple #[nilS, ii 10]) := by
  have hv1 : Shows G 1 (slPart 1 vt 0 (tx.length - 16)) (tx.take (tx.length - 16)).length ((tx.take (tx.length - 16)).map by8) := hvt.cut (by omega) (by omega) (by simp)
  have hv2 : Shows G 1 (slPart 1 vt (tx.length - 16) tx.length) (tx.drop (tx.length - 16)).length ((tx.drop (tx.length - 16)).map by8) := hvt.cut (by omega) (by omega) (by rw [List.take_of_length_le (by simp)])
  refine Qf2 Tryd.func47 ?_
  refine Qs<|Qp<|(Qh 0) fun r1=>(Qh 1) fun r2=>(Qa)<|(Qa)<|Qn<|Qs<|Qs<|Qp<|(Qm)<|(QC hva)<|(QG)<|(Qaf)<|(Qm)<|(Qy)<|(Qm)<|(Qy)<|(QC hvt)<|(Qy)<|(QG)<|(Qaf)<|(QF)<|Qn<|(Qcf)<|Qk<|Qs<|Qs<|Qp<|(Qm)<|(QC hvt)<|(Ql)<|(Qaf)<|Qn<|(Qcf)<|Qk<|Qs<|Qp<|(Qm)<|(QC hvt) ?_
  refine e_sub_in (q := 16) rfl rfl rfl (by omega) (by omega) ?_
  refine (Qa)<|Qn<|Qs<|Qs<|(Qg)<|(Qm)<|(Qm) ?_
  refine e_sliceV (tx.length - 16) tx.length hvt (Uu 33) (Uz 5) rfl rfl rfl ⟨_, rfl⟩ rfl (by omega) (by omega) rfl ?_
  refine e_toArrV hv2 (Uu 96) rfl (by decide) (by rw [List.length_drop]; omega) rfl ?_
  refine e_loadVS hv2 seenG (Uu 96) rfl (Uz 96) rfl (by decide) (by simp; omega) rfl rfl ?_
  refine e_as (last_cells (by rw [List.length_drop]; omega)) ?_
  refine (Qd 0)<|(Qd 1)<|(Qm)<|(Qm)<|(Qm) ?_
  refine e_sliceV 0 (tx.length - 16) hvt (Uu 33) (Uz 5) rfl rfl rfl rfl ⟨_, rfl⟩ (by omega) (by omega) rfl ?_
  refine e_call rfl (Un 66) (dtagOf_fn k nn va _ ad (tx.take (tx.length - 16)) hva hv1 hk hn hab (fun x hx => htb x (List.mem_of_mem_take hx)) (by omega) (by simp; omega)) rfl rfl ?_
  refine e_call rfl (Un 67) (dsame_fn _ _) rfl rfl ?_
  refine e_as (congrArg Value.bool (decide_eq_false (fun e => ho ((opens_iff k nn h2 htb).1 e)))) ?_
  refine (Q0)<|Qn<|(Qct)<|Qs<|Qp<|(Qa)<|(Qa)<|Qn<|Qr ?_
  exact ⟨_, _, rfl, .tmp rfl, .tmp rfl⟩
set_option maxHeartbeats 4000000 in
theorem dopen_ok (k nn : Nat → Nat) (va vt : Value) (ad tx : List Nat) (hk : L8 32 k) (hn : L8 12 nn) (hva : Sh G va ad) (hvt : Sh G vt tx) (hab : (∀ b ∈ ad, b < 256)) (htb : (∀ b ∈ tx, b < 256)) (h : ad.length ≤ 200) (h2 : 16 ≤ tx.length) (h3 : tx.length ≤ 816) (ho : opensL k nn ad tx) : Fx Tryd.prog G [] 47 #[.agg (arr .u8 32 k), .agg (arr .u8 12 nn), va, vt] (fun v l1 nw => l1 = [] ∧ ∃ v', v = .tuple #[v', ii 0] ∧ OwnS 5 1 v' (openL k nn tx).length ((openL k nn tx).map by8) nw) := by
  have hv1 : Shows G 1 (slPart 1 vt 0 (tx.length - 16)) (tx.take (tx.length - 16)).length ((tx.take (tx.length - 16)).map by8) := hvt.cut (by omega) (by omega) (by simp)
  have hv2 : Shows G 1 (slPart 1 vt (tx.length - 16) tx.length) (tx.drop (tx.length - 16)).length ((tx.drop (tx.length - 16)).map by8) := hvt.cut (by omega) (by omega) (by rw [List.take_of_length_le (by simp)])
  have htl : (tx.take (tx.length - 16)).length = tx.length - 16 := by simp
  have hol := openL_len k nn tx
  refine QfM Tryd.func47 ?_
  refine Qs<|Qp<|(Qh 0) fun r1=>(Qh 1) fun r2=>(Qa)<|(Qa)<|Qn<|Qs<|Qs<|Qp<|(Qm)<|(QC hva)<|(QG)<|(Qaf)<|(Qm)<|(Qy)<|(Qm)<|(Qy)<|(QC hvt)<|(Qy)<|(QG)<|(Qaf)<|(QF)<|Qn<|(Qcf)<|Qk<|Qs<|Qs<|Qp<|(Qm)<|(QC hvt)<|(Ql)<|(Qaf)<|Qn<|(Qcf)<|Qk<|Qs<|Qp<|(Qm)<|(QC hvt) ?_
  refine e_sub_in (q := 16) rfl rfl rfl (by omega) (by omega) ?_
  refine (Qa)<|Qn<|Qs<|Qs<|(Qg)<|(Qm)<|(Qm) ?_
  refine e_sliceV (tx.length - 16) tx.length hvt (Uu 33) (Uz 5) rfl rfl rfl ⟨_, rfl⟩ rfl (by omega) (by omega) rfl ?_
  refine e_toArrV hv2 (Uu 96) rfl (by decide) (by rw [List.length_drop]; omega) rfl ?_
  refine e_loadVS hv2 seenG (Uu 96) rfl (Uz 96) rfl (by decide) (by simp; omega) rfl rfl ?_
  refine e_as (last_cells (by rw [List.length_drop]; omega)) ?_
  refine (Qd 0)<|(Qd 1)<|(Qm)<|(Qm)<|(Qm) ?_
  refine e_sliceV 0 (tx.length - 16) hvt (Uu 33) (Uz 5) rfl rfl rfl rfl ⟨_, rfl⟩ (by omega) (by omega) rfl ?_
  refine e_call rfl (Un 66) (dtagOf_fn k nn va _ ad (tx.take (tx.length - 16)) hva hv1 hk hn hab (fun x hx => htb x (List.mem_of_mem_take hx)) (by omega) (by simp; omega)) rfl rfl ?_
  refine e_call rfl (Un 67) (dsame_fn _ _) rfl rfl ?_
  refine e_as (congrArg Value.bool (decide_eq_true ((opens_iff k nn h2 htb).2 ho))) ?_
  refine (Q0)<|Qn<|(Qcf)<|Qk<|Qs<|(Qq ⟨[], 4, [], none⟩)<|(Qd 0)<|(Qd 1)<|(Qm)<|(Qm) ?_
  refine e_sliceV 0 (tx.length - 16) hvt (Uu 33) (Uz 5) rfl rfl rfl rfl ⟨_, rfl⟩ (by omega) (by omega) rfl ?_
  refine e_callN 2 (fun v => v) rfl rfl (Un 65) seenG (dstream_fn k nn _ (tx.take (tx.length - 16)) hk hn hv1 (by omega)) (by simp only [maxLen]; omega) (by rw [List.length_map, strl_len, Nat.mul_one, Nat.sub_zero]) rfl rfl fun v4_1 oz4_1 ho4_1 => ?_
  refine (Qa)<|(Qa)<|Qn<|Qr ?_
  exact ⟨_, _, _, _, 2, rfl, .tmp rfl, .tmp rfl, (own_fix ho4_1 (by rw [htl, hol]) rfl), rfl⟩
end Go.Proofs.YtbjaenjgahjikaaDoor
namespace Go.Proofs.YtbjaenjgahjikaaDoor
open Go Go.RowKit
variable {G : Mem}
set_option maxHeartbeats 2000000 in
theorem dbeg8_fn (f : Nat → Nat) : Fn Tryd.prog G 26 #[.agg (arr .u8 32 f)] (CV true f 0) := by
  refine Qf1 Tryd.func26 ?_
  refine Qs<|Qp<|(Qh 0) fun r1=>(QH 1) fun r2=>Qn<|Qs<|Qp<|(Qd 0) ?_
  refine e_buildS (cells 34 [pV (.bool true), pI .u8 32 f, pV (u 0)]) (Ub 26 rfl) (Uu 26 rfl) pls26 rfl (by kernel_rfl) rfl ?_
  refine e_storeA (i := 1) (Uz 26) rfl rfl (arrv_size _ _) (cells_one ⟨fun _ => rfl, fun _ => rfl, fun _ => rfl, trivial⟩) rfl cells_sz (.inl rfl) ?_
  refine Qn<|Qr ?_
  exact ⟨_, rfl, .cell (i := 1) rfl rfl (Uu 26) rfl (Uz 26) (arrv_size _ _)⟩
set_option maxHeartbeats 2000000 in
theorem dchk8_fn (has : Bool) (k : Nat → Nat) (n : Nat) : Fn Tryd.prog G 62 #[CV has k n] (ii (if okC has k n = true then 0 else 9)) := by
  refine Qf1 Tryd.func62 ?_
  refine Qs<|Qp<|(Qh 0) fun r1=>(Qa)<|Qn<|Qs<|Qs ?_
  rcases ccases has k n with ⟨hk0, hko⟩ | ⟨hk0, hk1, hko⟩ | ⟨hk0, hk1, hk2, hko⟩ | ⟨hk0, hk1, hk2, hko⟩
  · skip
    refine Qp<|(Qf 0)<|(QV 0 0)<|(Q0) ?_
    refine e_as (congrArg (fun z => Value.bool (!z)) hk0) ?_
    refine (Qm)<|(Qo)<|(Qo)<|(Qo)<|(QF)<|Qn ?_
    refine e_cond rfl ?_ ?_
    · intro hc0
      exact absurd hc0 (by decide)
    · intro hc0
      refine Qk<|Qs<|Qp<|(Qa)<|Qn<|Qr ?_
      rw [hko]
      exact ⟨_, rfl, .tmp rfl⟩
  · skip
    refine Qp<|(Qf 0)<|(QV 0 0)<|(Q0) ?_
    refine e_as (congrArg (fun z => Value.bool (!z)) hk0) ?_
    refine (Qm)<|(Qy)<|(QD 0)<|(Qy) ?_
    refine e_buildS (cells 34 [pV (.bool false), pI .u8 32 (fun _ => 0), pV (.int .u64 0)]) (Ub 26 rfl) (Uu 26 rfl) pls26 rfl (by kernel_rfl) rfl ?_
    refine (Qy) ?_
    refine e_nev eqv26 eqg26 rfl rfl rfl ?_
    refine e_as (congrArg Value.bool (((congrArg (fun z => !([(z == false), allEq 32 k (fun _ => 0), ((n : Int) == 0)].all id)) hk0).trans (okC_ne k n)).trans (congrArg (fun z => !z) (hk0 ▸ hko)))) ?_
    refine (QT)<|Qn ?_
    refine e_cond rfl ?_ ?_
    · intro hc0
      refine Qs<|Qp<|(Qa)<|Qn<|Qr ?_
      rw [hko]
      exact ⟨_, rfl, .tmp rfl⟩
    · intro hc0
      exact absurd hc0 (by decide)
  · skip
    refine Qp<|(Qf 0)<|(QV 0 0)<|(Q0) ?_
    refine e_as (congrArg (fun z => Value.bool (!z)) hk0) ?_
    refine (Qm)<|(Qy)<|(QD 0)<|(Qy) ?_
    refine e_buildS (cells 34 [pV (.bool false), pI .u8 32 (fun _ => 0), pV (.int .u64 0)]) (Ub 26 rfl) (Uu 26 rfl) pls26 rfl (by kernel_rfl) rfl ?_
    refine (Qy) ?_
    refine e_nev eqv26 eqg26 rfl rfl rfl ?_
    refine e_as (congrArg Value.bool (((congrArg (fun z => !([(z == false), allEq 32 k (fun _ => 0), ((n : Int) == 0)].all id)) hk0).trans (okC_ne k n)).trans (congrArg (fun z => !z) (hk0 ▸ hko)))) ?_
    refine (QT)<|Qn ?_
    refine e_cond rfl ?_ ?_
    · intro hc0
      refine Qs<|Qp<|(Qa)<|Qn<|Qr ?_
      rw [hko]
      exact ⟨_, rfl, .tmp rfl⟩
    · intro hc0
      exact absurd hc0 (by decide)
  · skip
    refine Qp<|(Qf 0)<|(QV 0 0)<|(Q0) ?_
    refine e_as (congrArg (fun z => Value.bool (!z)) hk0) ?_
    refine (Qm)<|(Qy)<|(QD 0)<|(Qy) ?_
    refine e_buildS (cells 34 [pV (.bool false), pI .u8 32 (fun _ => 0), pV (.int .u64 0)]) (Ub 26 rfl) (Uu 26 rfl) pls26 rfl (by kernel_rfl) rfl ?_
    refine (Qy) ?_
    refine e_nev eqv26 eqg26 rfl rfl rfl ?_
    refine e_as (congrArg Value.bool (((congrArg (fun z => !([(z == false), allEq 32 k (fun _ => 0), ((n : Int) == 0)].all id)) hk0).trans (okC_ne k n)).trans (congrArg (fun z => !z) (hk0 ▸ hko)))) ?_
    refine (QT)<|Qn ?_
    refine e_cond rfl ?_ ?_
    · intro hc0
      exact absurd hc0 (by decide)
    · intro hc0
      refine Qk<|Qs<|Qp<|(Qa)<|Qn<|Qr ?_
      rw [hko]
      exact ⟨_, rfl, .tmp rfl⟩
set_option maxHeartbeats 2000000 in
theorem dnonce_fn (n : Nat) : Fn Tryd.prog G 64 #[u n] (.agg (arr .u8 12 (nonU n))) := by
  refine Qf1 Tryd.func64 ?_
  refine Qs<|Qp<|(QH 0) fun r1=>Qn<|Qs<|Qp<|(QH 1) fun r2=>Qn<|Qs<|Qs<|Qp<|(Qm)<|Qn<|Qb ?_
  refine QzK [(0, _), (2, _), (3, _)] [(0, _)] (fun kk E m => ∃ (i : Nat) (s : Nat → Nat), kk = 8 - i ∧ E = [(5, ii i)] ∧ m = [(1, some ⟨r2, arr .u8 12 s, 80⟩)] ∧ (i ≤ 8) ∧ (∀ t, t < 12 → s t = if t < 4 + i then nonU n t else 0)) ⟨0, fun _ => 0, rfl, rfl, rfl, by omega, (non_first n)⟩ ⟨rfl, rfl, rfl, rfl, trivial⟩ ⟨rfl, rfl, trivial⟩ ?_
  rintro kk E m ⟨i, s, rfl, rfl, rfl, hf0_0, hf0_1⟩
  simp only [catE, catL]
  refine Qs<|Qp<|(Ql)<|Qn<|Qs ?_
  refine e_cond rfl ?_ ?_
  · intro hc0
    have hc0 : i < 8 := by have := of_decide_eq_true hc0; omega
    refine Qk<|Qs<|Qb<|Qs<|Qp<|(Qm)<|(Qa)<|Qn<|Qp<|(Qm) ?_
    refine e_add_i (p := 4) rfl rfl rfl (by omega) ?_
    refine (Qm)<|(Qm)<|(Q7 8) ?_
    refine e_shr_u rfl rfl rfl (by omega) ?_
    refine e_conv_u8 (Uu 24) (Uu 5) rfl rfl rfl ?_
    refine (Qi)<|(Qu 1)<|Qn<|Qp<|(Q2 1)<|(Qm)<|Qn ?_
    refine QzL ⟨i + 1, upd s (4 + i) _, rfl, rfl, rfl, by omega, (non_next hf0_1 rfl)⟩ ⟨rfl, rfl, rfl, rfl, trivial⟩ ⟨rfl, rfl, trivial⟩ ?_
    omega
  · intro hc0
    have hc0 := of_decide_eq_false hc0
    have hz0 : i = 8 := by omega
    subst hz0
    refine Qe<|Qs<|Qp<|(Qd 1) ?_
    refine e_as (congrArg Value.agg (arr_congr (non_last rfl hf0_1))) ?_
    refine (Qt 0)<|Qn<|Qr ?_
    exact ⟨_, rfl, .cell (i := 0) rfl rfl (Uu 80) rfl (Uz 80) (arr_size _ _ _)⟩
set_option maxHeartbeats 2000000 in
theorem dplain_big (k : Nat → Nat) (n : Nat) (vt : Value) (tx : List Nat) (hvt : Sh G vt tx) (hl : 800 < tx.length) : Fn Tryd.prog G 63 #[CV false k n, vt] (.tuple #[CZ, nilS, ii 1]) := by
  refine Qf3 Tryd.func63 ?_
  refine Qs<|Qp<|(Qh 0) fun r1=>(QH 1) fun r2=>(Qa)<|(Qa)<|Qn<|Qs<|Qs<|Qp<|(Qm)<|(QC hvt)<|(QG)<|(Qat)<|Qn<|(Qct)<|Qs<|Qp ?_
  refine e_buildS (cells 34 [pV (.bool false), pI .u8 32 (fun _ => 0), pV (.int .u64 0)]) (Ub 26 rfl) (Uu 26 rfl) pls26 rfl (by kernel_rfl) rfl ?_
  refine e_storeA (i := 1) (Uz 26) rfl rfl (arrv_size _ _) (cells_one ⟨fun _ => rfl, fun _ => rfl, fun _ => rfl, trivial⟩) rfl cells_sz (.inl rfl) ?_
  refine (Qa)<|(Qa)<|Qn<|Qr ?_
  exact ⟨_, _, _, rfl, .cell (i := 1) rfl rfl (Uu 26) rfl (Uz 26) (arrv_size _ _), .tmp rfl, .tmp rfl⟩
set_option maxHeartbeats 2000000 in
theorem dplain_ok (k : Nat → Nat) (n : Nat) (vt : Value) (tx : List Nat) (hvt : Sh G vt tx) (hl : tx.length ≤ 800) : Fx Tryd.prog G [] 63 #[CV false k n, vt] (fun v l1 nw => l1 = [] ∧ ∃ v', v = .tuple #[CV false k n, v', ii 0] ∧ OwnS 5 1 v' tx.length (tx.map by8) nw) := by
  refine QfO Tryd.func63 ?_
  refine Qs<|Qp<|(Qh 0) fun r1=>(QH 1) fun r2=>(Qa)<|(Qa)<|Qn<|Qs<|Qs<|Qp<|(Qm)<|(QC hvt)<|(QG)<|(Qaf)<|Qn<|(Qcf)<|Qk<|Qs<|(Qq ⟨[r2], 1, [], (some [r1])⟩) ?_
  refine e_loadA (i := 0) (Uu 26) rfl (Uz 26) rfl rfl (arrv_size _ _) rfl ⟨[1], ⟨rfl, rfl, trivial⟩, _, rfl, by simp⟩ ?_
  refine e_buildSl0 2 (Uu 33 rfl) (Uz 5 rfl) rfl fun r3 => ?_
  refine (Qm) ?_
  refine e_appendL 2 own_none hvt rfl (fun q hq => .inl hq) ⟨[0], rfl, rfl, trivial⟩ (Uu 33) (Uz 5) (Uy 5) (Ub 5) (by rfl) rfl rfl by8_one (by simp only [maxLen]; omega) (by omega) rfl fun v2_1 oz2_1 ho2_1 => ?_
  refine e_storeA (i := 1) (Uz 26) rfl rfl (arrv_size _ _) (cells_one ⟨fun _ => rfl, fun _ => rfl, fun _ => rfl, trivial⟩) rfl cells_sz (.inr (by simp)) ?_
  refine (Qa)<|(Qa)<|Qn<|Qr ?_
  exact ⟨_, _, _, _, _, 2, rfl, .cell (i := 1) rfl rfl (Uu 26) rfl (Uz 26) (arrv_size _ _), .tmp rfl, .tmp rfl, (own_fix ho2_1 (by omega) rfl), rfl⟩
end Go.Proofs.YtbjaenjgahjikaaDoor
