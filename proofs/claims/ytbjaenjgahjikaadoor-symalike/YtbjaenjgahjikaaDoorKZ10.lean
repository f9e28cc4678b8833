import Derived.Test.YtbjaenjgahjikaaDoorKZ9
import Derived.Test.YtbjaenjgahjikaaDoorRows
namespace Go.Proofs.YtbjaenjgahjikaaDoor
open Go Go.RowKit
variable {G : Mem}
set_option maxHeartbeats 2000000 in
theorem symUsed_bad (o has : Bool) (k : Nat → Nat) (n : Nat) (ch h : Nat → Nat) (vt : Value) (hok : okC has k n = false) : Fn Tryd.prog (IVB :: G) 19 #[.bool o, SV has k n ch h, vt] (.tuple #[(.agg (cells 98 [pV (.bool false), pI .u8 32 (fun _ => 0), pV (.int .u64 0), pI .u8 32 (fun _ => 0), pI .u8 32 (fun _ => 0)])), nilS, ii 9]) := by
  refine Qf3 Tryd.func19 ?_
  refine Qs<|Qp<|(Qh 0) fun r1=>(QH 1) fun r2=>(Qa)<|(Qa)<|Qn<|Qs<|(Qg)<|(Qm)<|(Qf 0) ?_
  refine e_ldK (i := 0) 0 3 (Uu 26 rfl) rfl (Uz 26 rfl) rfl rfl rfl rfl (by decide) rfl ⟨[], trivial⟩ ?_
  refine e_as (show _ = CV has k n from rfl) ?_
  refine (Qf 66) ?_
  refine e_sliceA 0 32 (Uu 23) (Uz 5) rfl rfl rfl rfl rfl (by omega) (by omega) (by omega) rfl ?_
  refine (Qm) ?_
  refine e_callS rfl rfl (Un 36) seen_nil (used_bad (G := []) o has k n _ _ hok) rfl rfl ?_
  refine (Qm)<|(Qx)<|(Qx)<|(Qx)<|(QH 2) fun r3=>?_
  refine e_storeA (i := 2) (Uz 26) rfl rfl (arrv_size _ _) (cells_one ⟨fun _ => rfl, fun _ => rfl, fun _ => rfl, trivial⟩) rfl cells_sz (.inl rfl) ?_
  refine (Qa)<|(Qa)<|Qn<|Qs<|Qs<|Qp<|(Qm)<|(QN) ?_
  refine e_as (congrArg Value.bool (decide_eq_true (by decide))) ?_
  refine Qn ?_
  refine e_cond rfl ?_ ?_
  · intro hc0
    refine Qs<|Qp ?_
    refine e_buildS (cells 98 [pV (.bool false), pI .u8 32 (fun _ => 0), pV (.int .u64 0), pI .u8 32 (fun _ => 0), pI .u8 32 (fun _ => 0)]) (Ub 28 rfl) (Uu 28 rfl) pls28 rfl (by kernel_rfl) rfl ?_
    refine (Qm) ?_
    refine e_storeA (i := 1) (Uz 28) rfl rfl (arrv_size _ _) (cells_one ⟨fun _ => rfl, fun _ => rfl, fun _ => rfl, fun _ => rfl, fun _ => rfl, trivial⟩) rfl cells_sz (.inl rfl) ?_
    refine (Qa)<|(Qa)<|Qn<|Qr ?_
    exact ⟨_, _, _, rfl, .cell (i := 1) rfl rfl (Uu 28) rfl (Uz 28) (arrv_size _ _), .tmp rfl, .tmp rfl⟩
  · intro hc0
    exact absurd hc0 (by decide)
set_option maxHeartbeats 2000000 in
theorem symUsed_pbig (o : Bool) (k : Nat → Nat) (n : Nat) (ch h : Nat → Nat) (vt : Value) (tx : List Nat) (hvt : Shows (IVB :: G) 1 vt tx.length (tx.map by8)) (hok : okC false k n = true) (hl : 800 < tx.length) : Fn Tryd.prog (IVB :: G) 19 #[.bool o, SV false k n ch h, vt] (.tuple #[(.agg (cells 98 [pV (.bool false), pI .u8 32 (fun _ => 0), pV (.int .u64 0), pI .u8 32 (fun _ => 0), pI .u8 32 (fun _ => 0)])), nilS, ii 1]) := by
  refine Qf3 Tryd.func19 ?_
  refine Qs<|Qp<|(Qh 0) fun r1=>(QH 1) fun r2=>(Qa)<|(Qa)<|Qn<|Qs<|(Qg)<|(Qm)<|(Qf 0) ?_
  refine e_ldK (i := 0) 0 3 (Uu 26 rfl) rfl (Uz 26 rfl) rfl rfl rfl rfl (by decide) rfl ⟨[], trivial⟩ ?_
  refine e_as (show _ = CV false k n from rfl) ?_
  refine (Qf 66) ?_
  refine e_sliceA 0 32 (Uu 23) (Uz 5) rfl rfl rfl rfl rfl (by omega) (by omega) (by omega) rfl ?_
  refine (Qm) ?_
  refine e_callS rfl rfl (Un 36) seenG (used_pbig (G := IVB :: G) o k n _ _ tx hvt hok hl) rfl rfl ?_
  refine (Qm)<|(Qx)<|(Qx)<|(Qx)<|(QH 2) fun r3=>?_
  refine e_storeA (i := 2) (Uz 26) rfl rfl (arrv_size _ _) (cells_one ⟨fun _ => rfl, fun _ => rfl, fun _ => rfl, trivial⟩) rfl cells_sz (.inl rfl) ?_
  refine (Qa)<|(Qa)<|Qn<|Qs<|Qs<|Qp<|(Qm)<|(QN) ?_
  refine e_as (congrArg Value.bool (decide_eq_true (by decide))) ?_
  refine Qn ?_
  refine e_cond rfl ?_ ?_
  · intro hc0
    refine Qs<|Qp ?_
    refine e_buildS (cells 98 [pV (.bool false), pI .u8 32 (fun _ => 0), pV (.int .u64 0), pI .u8 32 (fun _ => 0), pI .u8 32 (fun _ => 0)]) (Ub 28 rfl) (Uu 28 rfl) pls28 rfl (by kernel_rfl) rfl ?_
    refine (Qm) ?_
    refine e_storeA (i := 1) (Uz 28) rfl rfl (arrv_size _ _) (cells_one ⟨fun _ => rfl, fun _ => rfl, fun _ => rfl, fun _ => rfl, fun _ => rfl, trivial⟩) rfl cells_sz (.inl rfl) ?_
    refine (Qa)<|(Qa)<|Qn<|Qr ?_
    exact ⟨_, _, _, rfl, .cell (i := 1) rfl rfl (Uu 28) rfl (Uz 28) (arrv_size _ _), .tmp rfl, .tmp rfl⟩
  · intro hc0
    exact absurd hc0 (by decide)
set_option maxHeartbeats 2000000 in
theorem symUsed_over (o : Bool) (k : Nat → Nat) (n : Nat) (ch h : Nat → Nat) (vt : Value) (hn : n = 18446744073709551615) : Fn Tryd.prog (IVB :: G) 19 #[.bool o, SV true k n ch h, vt] (.tuple #[(.agg (cells 98 [pV (.bool false), pI .u8 32 (fun _ => 0), pV (.int .u64 0), pI .u8 32 (fun _ => 0), pI .u8 32 (fun _ => 0)])), nilS, ii 11]) := by
  refine Qf3 Tryd.func19 ?_
  refine Qs<|Qp<|(Qh 0) fun r1=>(QH 1) fun r2=>(Qa)<|(Qa)<|Qn<|Qs<|(Qg)<|(Qm)<|(Qf 0) ?_
  refine e_ldK (i := 0) 0 3 (Uu 26 rfl) rfl (Uz 26 rfl) rfl rfl rfl rfl (by decide) rfl ⟨[], trivial⟩ ?_
  refine e_as (show _ = CV true k n from rfl) ?_
  refine (Qf 66) ?_
  refine e_sliceA 0 32 (Uu 23) (Uz 5) rfl rfl rfl rfl rfl (by omega) (by omega) (by omega) rfl ?_
  refine (Qm) ?_
  refine e_callS rfl rfl (Un 36) seen_nil (used_over (G := []) o k n _ _ hn) rfl rfl ?_
  refine (Qm)<|(Qx)<|(Qx)<|(Qx)<|(QH 2) fun r3=>?_
  refine e_storeA (i := 2) (Uz 26) rfl rfl (arrv_size _ _) (cells_one ⟨fun _ => rfl, fun _ => rfl, fun _ => rfl, trivial⟩) rfl cells_sz (.inl rfl) ?_
  refine (Qa)<|(Qa)<|Qn<|Qs<|Qs<|Qp<|(Qm)<|(QN) ?_
  refine e_as (congrArg Value.bool (decide_eq_true (by decide))) ?_
  refine Qn ?_
  refine e_cond rfl ?_ ?_
  · intro hc0
    refine Qs<|Qp ?_
    refine e_buildS (cells 98 [pV (.bool false), pI .u8 32 (fun _ => 0), pV (.int .u64 0), pI .u8 32 (fun _ => 0), pI .u8 32 (fun _ => 0)]) (Ub 28 rfl) (Uu 28 rfl) pls28 rfl (by kernel_rfl) rfl ?_
    refine (Qm) ?_
    refine e_storeA (i := 1) (Uz 28) rfl rfl (arrv_size _ _) (cells_one ⟨fun _ => rfl, fun _ => rfl, fun _ => rfl, fun _ => rfl, fun _ => rfl, trivial⟩) rfl cells_sz (.inl rfl) ?_
    refine (Qa)<|(Qa)<|Qn<|Qr ?_
    exact ⟨_, _, _, rfl, .cell (i := 1) rfl rfl (Uu 28) rfl (Uz 28) (arrv_size _ _), .tmp rfl, .tmp rfl⟩
  · intro hc0
    exact absurd hc0 (by decide)
set_option maxHeartbeats 2000000 in
theorem symUsed_err_true (k : Nat → Nat) (n : Nat) (ch h : Nat → Nat) (vt : Value) (tx : List Nat) (hvt : Shows (IVB :: G) 1 vt tx.length (tx.map by8)) (hn : n < 18446744073709551615) (e : Nat) (he : e ≠ 0) (hE : ∀ (G2 : Mem) (va : Value), Shows G2 1 va ((List.range 32).map h).length (((List.range 32).map h).map by8) → Sh G2 vt tx → Fn Tryd.prog G2 49 #[.agg (arr .u8 32 k), .agg (arr .u8 12 (nonU n)), va, vt] (.tuple #[nilS, ii e])) : Fn Tryd.prog (IVB :: G) 19 #[.bool true, SV true k n ch h, vt] (.tuple #[(.agg (cells 98 [pV (.bool false), pI .u8 32 (fun _ => 0), pV (.int .u64 0), pI .u8 32 (fun _ => 0), pI .u8 32 (fun _ => 0)])), nilS, ii e]) := by
  refine Qf3 Tryd.func19 ?_
  refine Qs<|Qp<|(Qh 0) fun r1=>(QH 1) fun r2=>(Qa)<|(Qa)<|Qn<|Qs<|(Qg)<|(Qm)<|(Qf 0) ?_
  refine e_ldK (i := 0) 0 3 (Uu 26 rfl) rfl (Uz 26 rfl) rfl rfl rfl rfl (by decide) rfl ⟨[], trivial⟩ ?_
  refine e_as (show _ = CV true k n from rfl) ?_
  refine (Qf 66) ?_
  refine e_sliceA 0 32 (Uu 23) (Uz 5) rfl rfl rfl rfl rfl (by omega) (by omega) (by omega) rfl ?_
  refine (Qm) ?_
  refine e_callS rfl rfl (Un 36) (seen_app (seen1 0 rfl ⟨[], trivial⟩) seenG) (used_err_true (G := ([⟨r1, cS true k n ch h, 28⟩] ++ (IVB :: G))) k n _ _ hn e he (hE ([⟨r1, cS true k n ch h, 28⟩] ++ (IVB :: G)) _ ((cells_shows r1 4 28 h rfl (Nat.le_of_ble_eq_true rfl) (Nat.le_of_ble_eq_true rfl)).mono (fun x h => List.mem_append_left _ h)) (hvt.mono (fun x h => List.mem_append_right _ h)))) rfl rfl ?_
  refine (Qm)<|(Qx)<|(Qx)<|(Qx)<|(QH 2) fun r3=>?_
  refine e_storeA (i := 2) (Uz 26) rfl rfl (arrv_size _ _) (cells_one ⟨fun _ => rfl, fun _ => rfl, fun _ => rfl, trivial⟩) rfl cells_sz (.inl rfl) ?_
  refine (Qa)<|(Qa)<|Qn<|Qs<|Qs<|Qp<|(Qm)<|(QN)<|(Qat)<|Qn ?_
  refine e_cond rfl ?_ ?_
  · intro hc0
    refine Qs<|Qp ?_
    refine e_buildS (cells 98 [pV (.bool false), pI .u8 32 (fun _ => 0), pV (.int .u64 0), pI .u8 32 (fun _ => 0), pI .u8 32 (fun _ => 0)]) (Ub 28 rfl) (Uu 28 rfl) pls28 rfl (by kernel_rfl) rfl ?_
    refine (Qm) ?_
    refine e_storeA (i := 1) (Uz 28) rfl rfl (arrv_size _ _) (cells_one ⟨fun _ => rfl, fun _ => rfl, fun _ => rfl, fun _ => rfl, fun _ => rfl, trivial⟩) rfl cells_sz (.inl rfl) ?_
    refine (Qa)<|(Qa)<|Qn<|Qr ?_
    exact ⟨_, _, _, rfl, .cell (i := 1) rfl rfl (Uu 28) rfl (Uz 28) (arrv_size _ _), .tmp rfl, .tmp rfl⟩
  · intro hc0
    exact absurd hc0 (by decide)
set_option maxHeartbeats 2000000 in
theorem symUsed_err_false (k : Nat → Nat) (n : Nat) (ch h : Nat → Nat) (vt : Value) (tx : List Nat) (hvt : Shows (IVB :: G) 1 vt tx.length (tx.map by8)) (hn : n < 18446744073709551615) (e : Nat) (he : e ≠ 0) (hE : ∀ (G2 : Mem) (va : Value), Shows G2 1 va ((List.range 32).map h).length (((List.range 32).map h).map by8) → Sh G2 vt tx → Fn Tryd.prog G2 51 #[.agg (arr .u8 32 k), .agg (arr .u8 12 (nonU n)), va, vt] (.tuple #[nilS, ii e])) : Fn Tryd.prog (IVB :: G) 19 #[.bool false, SV true k n ch h, vt] (.tuple #[(.agg (cells 98 [pV (.bool false), pI .u8 32 (fun _ => 0), pV (.int .u64 0), pI .u8 32 (fun _ => 0), pI .u8 32 (fun _ => 0)])), nilS, ii e]) := by
  refine Qf3 Tryd.func19 ?_
  refine Qs<|Qp<|(Qh 0) fun r1=>(QH 1) fun r2=>(Qa)<|(Qa)<|Qn<|Qs<|(Qg)<|(Qm)<|(Qf 0) ?_
  refine e_ldK (i := 0) 0 3 (Uu 26 rfl) rfl (Uz 26 rfl) rfl rfl rfl rfl (by decide) rfl ⟨[], trivial⟩ ?_
  refine e_as (show _ = CV true k n from rfl) ?_
  refine (Qf 66) ?_
  refine e_sliceA 0 32 (Uu 23) (Uz 5) rfl rfl rfl rfl rfl (by omega) (by omega) (by omega) rfl ?_
  refine (Qm) ?_
  refine e_callS rfl rfl (Un 36) (seen_app (seen1 0 rfl ⟨[], trivial⟩) seenG) (used_err_false (G := ([⟨r1, cS true k n ch h, 28⟩] ++ (IVB :: G))) k n _ _ hn e he (hE ([⟨r1, cS true k n ch h, 28⟩] ++ (IVB :: G)) _ ((cells_shows r1 4 28 h rfl (Nat.le_of_ble_eq_true rfl) (Nat.le_of_ble_eq_true rfl)).mono (fun x h => List.mem_append_left _ h)) (hvt.mono (fun x h => List.mem_append_right _ h)))) rfl rfl ?_
  refine (Qm)<|(Qx)<|(Qx)<|(Qx)<|(QH 2) fun r3=>?_
  refine e_storeA (i := 2) (Uz 26) rfl rfl (arrv_size _ _) (cells_one ⟨fun _ => rfl, fun _ => rfl, fun _ => rfl, trivial⟩) rfl cells_sz (.inl rfl) ?_
  refine (Qa)<|(Qa)<|Qn<|Qs<|Qs<|Qp<|(Qm)<|(QN)<|(Qat)<|Qn ?_
  refine e_cond rfl ?_ ?_
  · intro hc0
    refine Qs<|Qp ?_
    refine e_buildS (cells 98 [pV (.bool false), pI .u8 32 (fun _ => 0), pV (.int .u64 0), pI .u8 32 (fun _ => 0), pI .u8 32 (fun _ => 0)]) (Ub 28 rfl) (Uu 28 rfl) pls28 rfl (by kernel_rfl) rfl ?_
    refine (Qm) ?_
    refine e_storeA (i := 1) (Uz 28) rfl rfl (arrv_size _ _) (cells_one ⟨fun _ => rfl, fun _ => rfl, fun _ => rfl, fun _ => rfl, fun _ => rfl, trivial⟩) rfl cells_sz (.inl rfl) ?_
    refine (Qa)<|(Qa)<|Qn<|Qr ?_
    exact ⟨_, _, _, rfl, .cell (i := 1) rfl rfl (Uu 28) rfl (Uz 28) (arrv_size _ _), .tmp rfl, .tmp rfl⟩
  · intro hc0
    exact absurd hc0 (by decide)
set_option maxHeartbeats 2000000 in
theorem symUsed_plain_true (k : Nat → Nat) (n : Nat) (ch h : Nat → Nat) (vt : Value) (tx : List Nat) (hvt : Shows (IVB :: G) 1 vt tx.length (tx.map by8)) (htb : (∀ b ∈ tx, b < 256)) (hok : okC false k n = true) (hl : tx.length ≤ 800) (hh : L8 32 h) : Fn Tryd.prog (IVB :: G) 19 #[.bool true, SV false k n ch h, vt] (.tuple #[SV false k n ch (hx h tx), vt, ii 0]) := by
  refine Qf3 Tryd.func19 ?_
  refine Qs<|Qp<|(Qh 0) fun r1=>(QH 1) fun r2=>(Qa)<|(Qa)<|Qn<|Qs<|(Qg)<|(Qm)<|(Qf 0) ?_
  refine e_ldK (i := 0) 0 3 (Uu 26 rfl) rfl (Uz 26 rfl) rfl rfl rfl rfl (by decide) rfl ⟨[], trivial⟩ ?_
  refine e_as (show _ = CV false k n from rfl) ?_
  refine (Qf 66) ?_
  refine e_sliceA 0 32 (Uu 23) (Uz 5) rfl rfl rfl rfl rfl (by omega) (by omega) (by omega) rfl ?_
  refine (Qm) ?_
  refine e_callS rfl rfl (Un 36) seenG (used_plain (G := IVB :: G) true k n _ _ tx hvt hok hl) rfl rfl ?_
  refine (Qm)<|(Qx)<|(Qx)<|(Qx)<|(QH 2) fun r3=>?_
  refine e_storeA (i := 2) (Uz 26) rfl rfl (arrv_size _ _) (cells_one ⟨fun _ => rfl, fun _ => rfl, fun _ => rfl, trivial⟩) rfl cells_sz (.inl rfl) ?_
  refine (Qa)<|(Qa)<|Qn<|Qs<|Qs<|Qp<|(Qm)<|(QN) ?_
  refine e_as (congrArg Value.bool (decide_eq_false (fun h => h rfl))) ?_
  refine Qn ?_
  refine e_cond rfl ?_ ?_
  · intro hc0
    exact absurd hc0 (by decide)
  · intro hc0
    refine Qk<|Qs<|Qp<|(QD 2)<|(Qf 0) ?_
    refine e_stK (i := 0) 0 3 (Uz 26 rfl) rfl rfl ⟨fun _ => rfl, fun _ => rfl, fun _ => rfl, trivial⟩ rfl rfl rfl rfl (by decide) (.inl rfl) ?_
    refine Qn<|Qs<|Qs<|Qp<|(Qm)<|Qn ?_
    refine e_cond rfl ?_ ?_
    · intro hc1
      refine Qs<|Qp<|(QD 0) ?_
      refine e_as (show _ = SV false k n ch h from rfl) ?_
      refine (Qm) ?_
      refine e_conv_strV (l := tx) hvt seenG (Uu 33) (Uu 5) (Uu 9) rfl rfl rfl ?_
      refine e_call rfl (Un 15) (symHash_fn false k n ch h tx htb (by omega) hh) rfl rfl ?_
      refine (Qm) ?_
      refine e_storeA (i := 1) (Uz 28) rfl rfl (arrv_size _ _) (cells_one ⟨fun _ => rfl, fun _ => rfl, fun _ => rfl, fun _ => rfl, fun _ => rfl, trivial⟩) rfl cells_sz (.inl rfl) ?_
      refine (Qa)<|(Qa)<|Qn<|Qr ?_
      exact ⟨_, _, _, rfl, .cell (i := 1) rfl rfl (Uu 28) rfl (Uz 28) (arrv_size _ _), .tmp rfl, .tmp rfl⟩
    · intro hc1
      exact absurd hc1 (by decide)
set_option maxHeartbeats 2000000 in
theorem symUsed_plain_false (k : Nat → Nat) (n : Nat) (ch h : Nat → Nat) (vt : Value) (tx : List Nat) (hvt : Shows (IVB :: G) 1 vt tx.length (tx.map by8)) (htb : (∀ b ∈ tx, b < 256)) (hok : okC false k n = true) (hl : tx.length ≤ 800) (hh : L8 32 h) : Fn Tryd.prog (IVB :: G) 19 #[.bool false, SV false k n ch h, vt] (.tuple #[SV false k n ch (hx h tx), vt, ii 0]) := by
  refine Qf3 Tryd.func19 ?_
  refine Qs<|Qp<|(Qh 0) fun r1=>(QH 1) fun r2=>(Qa)<|(Qa)<|Qn<|Qs<|(Qg)<|(Qm)<|(Qf 0) ?_
  refine e_ldK (i := 0) 0 3 (Uu 26 rfl) rfl (Uz 26 rfl) rfl rfl rfl rfl (by decide) rfl ⟨[], trivial⟩ ?_
  refine e_as (show _ = CV false k n from rfl) ?_
  refine (Qf 66) ?_
  refine e_sliceA 0 32 (Uu 23) (Uz 5) rfl rfl rfl rfl rfl (by omega) (by omega) (by omega) rfl ?_
  refine (Qm) ?_
  refine e_callS rfl rfl (Un 36) seenG (used_plain (G := IVB :: G) false k n _ _ tx hvt hok hl) rfl rfl ?_
  refine (Qm)<|(Qx)<|(Qx)<|(Qx)<|(QH 2) fun r3=>?_
  refine e_storeA (i := 2) (Uz 26) rfl rfl (arrv_size _ _) (cells_one ⟨fun _ => rfl, fun _ => rfl, fun _ => rfl, trivial⟩) rfl cells_sz (.inl rfl) ?_
  refine (Qa)<|(Qa)<|Qn<|Qs<|Qs<|Qp<|(Qm)<|(QN) ?_
  refine e_as (congrArg Value.bool (decide_eq_false (fun h => h rfl))) ?_
  refine Qn ?_
  refine e_cond rfl ?_ ?_
  · intro hc0
    exact absurd hc0 (by decide)
  · intro hc0
    refine Qk<|Qs<|Qp<|(QD 2)<|(Qf 0) ?_
    refine e_stK (i := 0) 0 3 (Uz 26 rfl) rfl rfl ⟨fun _ => rfl, fun _ => rfl, fun _ => rfl, trivial⟩ rfl rfl rfl rfl (by decide) (.inl rfl) ?_
    refine Qn<|Qs<|Qs<|Qp<|(Qm)<|Qn ?_
    refine e_cond rfl ?_ ?_
    · intro hc1
      exact absurd hc1 (by decide)
    · intro hc1
      refine Qk<|Qs<|Qp<|(QD 0) ?_
      refine e_as (show _ = SV false k n ch h from rfl) ?_
      refine (Qm) ?_
      refine e_conv_strV (l := tx) hvt seenG (Uu 33) (Uu 5) (Uu 9) rfl rfl rfl ?_
      refine e_call rfl (Un 15) (symHash_fn false k n ch h tx htb (by omega) hh) rfl rfl ?_
      refine (Qm) ?_
      refine e_storeA (i := 1) (Uz 28) rfl rfl (arrv_size _ _) (cells_one ⟨fun _ => rfl, fun _ => rfl, fun _ => rfl, fun _ => rfl, fun _ => rfl, trivial⟩) rfl cells_sz (.inl rfl) ?_
      refine (Qa)<|(Qa)<|Qn<|Qr ?_
      exact ⟨_, _, _, rfl, .cell (i := 1) rfl rfl (Uu 28) rfl (Uz 28) (arrv_size _ _), .tmp rfl, .tmp rfl⟩
set_option maxHeartbeats 2000000 in
theorem symUsed_ok_true (k : Nat → Nat) (n : Nat) (ch h : Nat → Nat) (vt : Value) (tx out : List Nat) (hvt : Shows (IVB :: G) 1 vt tx.length (tx.map by8)) (htb : (∀ b ∈ tx, b < 256)) (htl : tx.length ≤ 1000) (hol : out.length ≤ 1000) (hn : n < 18446744073709551615) (hh : L8 32 h) (hE : ∀ (G2 : Mem) (va : Value), Shows G2 1 va ((List.range 32).map h).length (((List.range 32).map h).map by8) → Sh G2 vt tx → Fx Tryd.prog G2 [] 49 #[.agg (arr .u8 32 k), .agg (arr .u8 12 (nonU n)), va, vt] (fun v l1 nw => l1 = [] ∧ ∃ v', v = .tuple #[v', ii 0] ∧ OwnS 5 1 v' out.length (out.map by8) nw)) : Fx Tryd.prog (IVB :: G) [] 19 #[.bool true, SV true k n ch h, vt] (fun v l1 nw => l1 = [] ∧ ∃ v', v = .tuple #[SV true k (n + 1) ch (hx h tx), v', ii 0] ∧ OwnS 5 1 v' out.length (out.map by8) nw) := by
  refine QfO Tryd.func19 ?_
  refine Qs<|Qp<|(Qh 0) fun r1=>(QH 1) fun r2=>(Qa)<|(Qa)<|Qn<|Qs<|(Qq ⟨[], 4, [], none⟩)<|(Qm)<|(Qf 0) ?_
  refine e_ldK (i := 0) 0 3 (Uu 26 rfl) rfl (Uz 26 rfl) rfl rfl rfl rfl (by decide) rfl ⟨[], trivial⟩ ?_
  refine e_as (show _ = CV true k n from rfl) ?_
  refine (Qf 66) ?_
  refine e_sliceA 0 32 (Uu 23) (Uz 5) rfl rfl rfl rfl rfl (by omega) (by omega) (by omega) rfl ?_
  refine (Qm) ?_
  refine e_callN 2 (fun v => .tuple #[CV true k (n + 1), v, ii 0]) rfl rfl (Un 36) (seen_app (seen1 0 rfl ⟨[], trivial⟩) seenG) (used_ok_true (G := ([⟨r1, cS true k n ch h, 28⟩] ++ (IVB :: G))) k n _ _ hn out (by simp only [maxLen]; omega) (hE ([⟨r1, cS true k n ch h, 28⟩] ++ (IVB :: G)) _ ((cells_shows r1 4 28 h rfl (Nat.le_of_ble_eq_true rfl) (Nat.le_of_ble_eq_true rfl)).mono (fun x h => List.mem_append_left _ h)) (hvt.mono (fun x h => List.mem_append_right _ h)))) (by simp only [maxLen]; omega) (by rw [List.length_map, Nat.mul_one]) rfl rfl fun v1_1 oz1_1 ho1_1 => ?_
  refine (Qm)<|(Qx)<|(Qx)<|(Qx)<|(QH 3) fun r4=>?_
  refine e_storeA (i := 3) (Uz 26) rfl rfl (arrv_size _ _) (cells_one ⟨fun _ => rfl, fun _ => rfl, fun _ => rfl, trivial⟩) rfl cells_sz (.inl rfl) ?_
  refine (Qa)<|(Qa)<|Qn<|Qs<|Qs<|Qp<|(Qm)<|(QN) ?_
  refine e_as (congrArg Value.bool (decide_eq_false (fun h => h rfl))) ?_
  refine Qn ?_
  refine e_cond rfl ?_ ?_
  · intro hc0
    exact absurd hc0 (by decide)
  · intro hc0
    refine Qk<|Qs<|Qp<|(QD 3)<|(Qf 0) ?_
    refine e_stK (i := 0) 0 3 (Uz 26 rfl) rfl rfl ⟨fun _ => rfl, fun _ => rfl, fun _ => rfl, trivial⟩ rfl rfl rfl rfl (by decide) (.inl rfl) ?_
    refine Qn<|Qs<|Qs<|Qp<|(Qm)<|Qn ?_
    refine e_cond rfl ?_ ?_
    · intro hc1
      refine Qs<|Qp<|(QD 0) ?_
      refine e_as (show _ = SV true k (n + 1) ch h from rfl) ?_
      refine (Qm) ?_
      refine e_conv_strV (l := tx) hvt seenG (Uu 33) (Uu 5) (Uu 9) rfl rfl rfl ?_
      refine e_call rfl (Un 15) (symHash_fn true k (n + 1) ch h tx htb (by omega) hh) rfl rfl ?_
      refine (Qm) ?_
      refine e_storeA (i := 1) (Uz 28) rfl rfl (arrv_size _ _) (cells_one ⟨fun _ => rfl, fun _ => rfl, fun _ => rfl, fun _ => rfl, fun _ => rfl, trivial⟩) rfl cells_sz (.inl rfl) ?_
      refine (Qa)<|(Qa)<|Qn<|Qr ?_
      exact ⟨_, _, _, _, _, 2, rfl, .cell (i := 1) rfl rfl (Uu 28) rfl (Uz 28) (arrv_size _ _), .tmp rfl, .tmp rfl, ho1_1, rfl⟩
    · intro hc1
      exact absurd hc1 (by decide)
set_option maxHeartbeats 2000000 in
theorem symUsed_ok_false (k : Nat → Nat) (n : Nat) (ch h : Nat → Nat) (vt : Value) (tx out : List Nat) (hvt : Shows (IVB :: G) 1 vt tx.length (tx.map by8)) (hob : (∀ b ∈ out, b < 256)) (hol : out.length ≤ 1000) (hn : n < 18446744073709551615) (hh : L8 32 h) (hE : ∀ (G2 : Mem) (va : Value), Shows G2 1 va ((List.range 32).map h).length (((List.range 32).map h).map by8) → Sh G2 vt tx → Fx Tryd.prog G2 [] 51 #[.agg (arr .u8 32 k), .agg (arr .u8 12 (nonU n)), va, vt] (fun v l1 nw => l1 = [] ∧ ∃ v', v = .tuple #[v', ii 0] ∧ OwnS 5 1 v' out.length (out.map by8) nw)) : Fx Tryd.prog (IVB :: G) [] 19 #[.bool false, SV true k n ch h, vt] (fun v l1 nw => l1 = [] ∧ ∃ v', v = .tuple #[SV true k (n + 1) ch (hx h out), v', ii 0] ∧ OwnS 5 1 v' out.length (out.map by8) nw) := by
  refine QfO Tryd.func19 ?_
  refine Qs<|Qp<|(Qh 0) fun r1=>(QH 1) fun r2=>(Qa)<|(Qa)<|Qn<|Qs<|(Qq ⟨[], 4, [], none⟩)<|(Qm)<|(Qf 0) ?_
  refine e_ldK (i := 0) 0 3 (Uu 26 rfl) rfl (Uz 26 rfl) rfl rfl rfl rfl (by decide) rfl ⟨[], trivial⟩ ?_
  refine e_as (show _ = CV true k n from rfl) ?_
  refine (Qf 66) ?_
  refine e_sliceA 0 32 (Uu 23) (Uz 5) rfl rfl rfl rfl rfl (by omega) (by omega) (by omega) rfl ?_
  refine (Qm) ?_
  refine e_callN 2 (fun v => .tuple #[CV true k (n + 1), v, ii 0]) rfl rfl (Un 36) (seen_app (seen1 0 rfl ⟨[], trivial⟩) seenG) (used_ok_false (G := ([⟨r1, cS true k n ch h, 28⟩] ++ (IVB :: G))) k n _ _ hn out (by simp only [maxLen]; omega) (hE ([⟨r1, cS true k n ch h, 28⟩] ++ (IVB :: G)) _ ((cells_shows r1 4 28 h rfl (Nat.le_of_ble_eq_true rfl) (Nat.le_of_ble_eq_true rfl)).mono (fun x h => List.mem_append_left _ h)) (hvt.mono (fun x h => List.mem_append_right _ h)))) (by simp only [maxLen]; omega) (by rw [List.length_map, Nat.mul_one]) rfl rfl fun v1_1 oz1_1 ho1_1 => ?_
  refine (Qm)<|(Qx)<|(Qx)<|(Qx)<|(QH 3) fun r4=>?_
  refine e_storeA (i := 3) (Uz 26) rfl rfl (arrv_size _ _) (cells_one ⟨fun _ => rfl, fun _ => rfl, fun _ => rfl, trivial⟩) rfl cells_sz (.inl rfl) ?_
  refine (Qa)<|(Qa)<|Qn<|Qs<|Qs<|Qp<|(Qm)<|(QN) ?_
  refine e_as (congrArg Value.bool (decide_eq_false (fun h => h rfl))) ?_
  refine Qn ?_
  refine e_cond rfl ?_ ?_
  · intro hc0
    exact absurd hc0 (by decide)
  · intro hc0
    refine Qk<|Qs<|Qp<|(QD 3)<|(Qf 0) ?_
    refine e_stK (i := 0) 0 3 (Uz 26 rfl) rfl rfl ⟨fun _ => rfl, fun _ => rfl, fun _ => rfl, trivial⟩ rfl rfl rfl rfl (by decide) (.inl rfl) ?_
    refine Qn<|Qs<|Qs<|Qp<|(Qm)<|Qn ?_
    refine e_cond rfl ?_ ?_
    · intro hc1
      exact absurd hc1 (by decide)
    · intro hc1
      refine Qk<|Qs<|Qp<|(QD 0) ?_
      refine e_as (show _ = SV true k (n + 1) ch h from rfl) ?_
      refine (Qm) ?_
      refine e_conv_strV (l := out) (own_bytes ho1_1) (seenM 2 rfl ⟨[], trivial⟩) (Uu 33) (Uu 5) (Uu 9) rfl rfl rfl ?_
      refine e_call rfl (Un 15) (symHash_fn true k (n + 1) ch h out hob (by omega) hh) rfl rfl ?_
      refine (Qm) ?_
      refine e_storeA (i := 1) (Uz 28) rfl rfl (arrv_size _ _) (cells_one ⟨fun _ => rfl, fun _ => rfl, fun _ => rfl, fun _ => rfl, fun _ => rfl, trivial⟩) rfl cells_sz (.inl rfl) ?_
      refine (Qa)<|(Qa)<|Qn<|Qr ?_
      exact ⟨_, _, _, _, _, 2, rfl, .cell (i := 1) rfl rfl (Uu 28) rfl (Uz 28) (arrv_size _ _), .tmp rfl, .tmp rfl, ho1_1, rfl⟩
end Go.Proofs.YtbjaenjgahjikaaDoor
namespace Go.Proofs.YtbjaenjgahjikaaDoor
open Go Go.RowKit
variable {G : Mem}
set_option maxHeartbeats 400000 in
theorem sameBytes_fn (v v2 : Value) (l l2 : List Nat) (hv : Sh G v l) (hv2 : Sh G v2 l2) (hb : ∀ b ∈ l, b < 256) (hb2 : ∀ b ∈ l2, b < 256) : Fn Tryd.prog G 20 #[v, v2] (.bool (decide (l = l2))) := by
  refine Qf1 Tryd.func20 ?_
  refine Qs<|Qp<|(Qa)<|Qn<|Qs<|Qp<|(Qm) ?_
  refine e_conv_strV hv seenG (Uu 33) (Uu 5) (Uu 9) rfl rfl rfl ?_
  refine (Qm) ?_
  refine e_conv_strV hv2 seenG (Uu 33) (Uu 5) (Uu 9) rfl rfl rfl ?_
  refine e_eqStr rfl rfl rfl hb hb2 ?_
  refine (Qa)<|Qn<|Qr ?_
  exact ⟨_, rfl, .tmp rfl⟩
set_option maxHeartbeats 2000000 in
theorem symBegins_fn (l : List Nat) (has : Bool) (k : Nat → Nat) (n : Nat) (ch h g fa fb : Nat → Nat) (hB : Fn Tryd.prog G 7 #[sv l] (.agg (cells 98 [pV (.bool false), pI .u8 32 (fun _ => 0), pV (.int .u64 0), pI .u8 32 g, pI .u8 32 g]))) (hB2 : Fn Tryd.prog G 9 #[sv l] (.agg (cells 98 [pV (.bool false), pI .u8 32 (fun _ => 0), pV (.int .u64 0), pI .u8 32 g, pI .u8 32 g]))) (hS : Fn Tryd.prog G 8 #[SV has k n ch h] (.agg (cells 68 [pV (.bool true), pI .u8 32 fa, pV (u 0), pV (.bool true), pI .u8 32 fb, pV (u 0)]))) (hS2 : Fn Tryd.prog G 10 #[SV has k n ch h] (.agg (cells 68 [pV (.bool true), pI .u8 32 fa, pV (u 0), pV (.bool true), pI .u8 32 fb, pV (u 0)]))) : Fn Tryd.prog G 3 #[sv l, SV has k n ch h] (.bool true) := by
  refine Qf1 Tryd.func3 ?_
  refine Qs<|Qp<|(Qh 0) fun r1=>(Qa)<|Qn<|Qs<|(Qg)<|(Qm) ?_
  refine e_call rfl (Un 7) hB rfl rfl ?_
  refine (QD 0) ?_
  refine e_call rfl (Un 8) hS rfl rfl ?_
  refine (QH 1) fun r2=>(QH 2) fun r3=>?_
  refine e_storeA (i := 1) (Uz 28) rfl rfl (arrv_size _ _) (cells_one ⟨fun _ => rfl, fun _ => rfl, fun _ => rfl, fun _ => rfl, fun _ => rfl, trivial⟩) rfl cells_sz (.inl rfl) ?_
  refine e_storeA (i := 2) (Uz 30) rfl rfl (arrv_size _ _) (cells_one ⟨fun _ => rfl, fun _ => rfl, fun _ => rfl, fun _ => rfl, fun _ => rfl, fun _ => rfl, trivial⟩) rfl cells_sz (.inl rfl) ?_
  refine Qn<|Qs<|(Qg)<|(Qm) ?_
  refine e_call rfl (Un 9) hB2 rfl rfl ?_
  refine (QD 0) ?_
  refine e_call rfl (Un 10) hS2 rfl rfl ?_
  refine (QH 3) fun r4=>(QH 4) fun r5=>?_
  refine e_storeA (i := 3) (Uz 28) rfl rfl (arrv_size _ _) (cells_one ⟨fun _ => rfl, fun _ => rfl, fun _ => rfl, fun _ => rfl, fun _ => rfl, trivial⟩) rfl cells_sz (.inl rfl) ?_
  refine e_storeA (i := 4) (Uz 30) rfl rfl (arrv_size _ _) (cells_one ⟨fun _ => rfl, fun _ => rfl, fun _ => rfl, fun _ => rfl, fun _ => rfl, fun _ => rfl, trivial⟩) rfl cells_sz (.inl rfl) ?_
  refine Qn<|Qs<|Qp<|(QD 1)<|(QD 3) ?_
  refine e_eqSame sam28 eqg28 rfl rfl rfl ?_
  refine (Qm)<|(Qy)<|(QD 2)<|(Qy)<|(QD 4)<|(Qy) ?_
  refine e_eqSame sam30 eqg30 rfl rfl rfl ?_
  refine (QT)<|(Qa)<|Qn<|Qr ?_
  exact ⟨_, rfl, .tmp rfl⟩
set_option maxHeartbeats 2000000 in
theorem symMixes_fn (has : Bool) (k : Nat → Nat) (n : Nat) (ch h : Nat → Nat) (v : Value) (l : List Nat) (hv : Sh G v l) (a1 : Bool) (k1 : Nat → Nat) (n1 : Nat) (c1 g1 : Nat → Nat) (a2 : Bool) (k2 : Nat → Nat) (n2 : Nat) (c2 g2 : Nat → Nat) (a3 : Bool) (k3 : Nat → Nat) (n3 : Nat) (c3 g3 : Nat → Nat) (hD1 : Fn Tryd.prog G 11 #[SV has k n ch h, v] (SV a1 k1 n1 c1 g1)) (hE1 : Fn Tryd.prog G 14 #[SV has k n ch h, sv l] (SV a1 k1 n1 c1 g1)) (hD2 : Fn Tryd.prog G 12 #[SV has k n ch h, v] (SV a2 k2 n2 c2 g2)) (hE2 : Fn Tryd.prog G 15 #[SV has k n ch h, sv l] (SV a2 k2 n2 c2 g2)) (hD3 : Fn Tryd.prog G 13 #[SV has k n ch h, v] (SV a3 k3 n3 c3 g3)) (hE3 : Fn Tryd.prog G 16 #[SV has k n ch h, sv l] (SV a3 k3 n3 c3 g3)) : Fn Tryd.prog G 4 #[SV has k n ch h, v] (.bool true) := by
  refine Qf1 Tryd.func4 ?_
  refine Qs<|Qp<|(Qh 0) fun r1=>(Qa)<|Qn<|Qs<|(Qg)<|(QD 0)<|(Qm) ?_
  refine e_call rfl (Un 11) hD1 rfl rfl ?_
  refine (QD 0)<|(Qm) ?_
  refine e_call rfl (Un 12) hD2 rfl rfl ?_
  refine (QD 0)<|(Qm) ?_
  refine e_call rfl (Un 13) hD3 rfl rfl ?_
  refine (QH 1) fun r2=>(QH 2) fun r3=>(QH 3) fun r4=>?_
  refine e_storeA (i := 1) (Uz 28) rfl rfl (arrv_size _ _) (cells_one ⟨fun _ => rfl, fun _ => rfl, fun _ => rfl, fun _ => rfl, fun _ => rfl, trivial⟩) rfl cells_sz (.inl rfl) ?_
  refine e_storeA (i := 2) (Uz 28) rfl rfl (arrv_size _ _) (cells_one ⟨fun _ => rfl, fun _ => rfl, fun _ => rfl, fun _ => rfl, fun _ => rfl, trivial⟩) rfl cells_sz (.inl rfl) ?_
  refine e_storeA (i := 3) (Uz 28) rfl rfl (arrv_size _ _) (cells_one ⟨fun _ => rfl, fun _ => rfl, fun _ => rfl, fun _ => rfl, fun _ => rfl, trivial⟩) rfl cells_sz (.inl rfl) ?_
  refine Qn<|Qs<|(Qg)<|(QD 0)<|(Qm) ?_
  refine e_conv_strV (l := l) hv seenG (Uu 33) (Uu 5) (Uu 9) rfl rfl rfl ?_
  refine e_call rfl (Un 14) hE1 rfl rfl ?_
  refine (QD 0)<|(Qm) ?_
  refine e_conv_strV (l := l) hv seenG (Uu 33) (Uu 5) (Uu 9) rfl rfl rfl ?_
  refine e_call rfl (Un 15) hE2 rfl rfl ?_
  refine (QD 0)<|(Qm) ?_
  refine e_conv_strV (l := l) hv seenG (Uu 33) (Uu 5) (Uu 9) rfl rfl rfl ?_
  refine e_call rfl (Un 16) hE3 rfl rfl ?_
  refine (QH 4) fun r5=>(QH 5) fun r6=>(QH 6) fun r7=>?_
  refine e_storeA (i := 4) (Uz 28) rfl rfl (arrv_size _ _) (cells_one ⟨fun _ => rfl, fun _ => rfl, fun _ => rfl, fun _ => rfl, fun _ => rfl, trivial⟩) rfl cells_sz (.inl rfl) ?_
  refine e_storeA (i := 5) (Uz 28) rfl rfl (arrv_size _ _) (cells_one ⟨fun _ => rfl, fun _ => rfl, fun _ => rfl, fun _ => rfl, fun _ => rfl, trivial⟩) rfl cells_sz (.inl rfl) ?_
  refine e_storeA (i := 6) (Uz 28) rfl rfl (arrv_size _ _) (cells_one ⟨fun _ => rfl, fun _ => rfl, fun _ => rfl, fun _ => rfl, fun _ => rfl, trivial⟩) rfl cells_sz (.inl rfl) ?_
  refine Qn<|Qs<|Qp<|(QD 1)<|(QD 4) ?_
  refine e_eqSame sam28 eqg28 rfl rfl rfl ?_
  refine (Qm)<|(Qy)<|(QD 2)<|(Qy)<|(QD 5)<|(Qy) ?_
  refine e_eqSame sam28 eqg28 rfl rfl rfl ?_
  refine (QT)<|(Qm)<|(Qy)<|(QD 3)<|(Qy)<|(QD 6)<|(Qy) ?_
  refine e_eqSame sam28 eqg28 rfl rfl rfl ?_
  refine (QT)<|(Qa)<|Qn<|Qr ?_
  exact ⟨_, rfl, .tmp rfl⟩
set_option maxHeartbeats 4000000 in
theorem symSeals_ee (has : Bool) (k : Nat → Nat) (n : Nat) (ch h : Nat → Nat) (vt : Value) (e1 : Nat) (e2 : Nat) (hD1 : Fn Tryd.prog (IVB :: G) 17 #[SV has k n ch h, vt] (.tuple #[(.agg (cells 98 [pV (.bool false), pI .u8 32 (fun _ => 0), pV (.int .u64 0), pI .u8 32 (fun _ => 0), pI .u8 32 (fun _ => 0)])), nilS, ii e1])) (hD2 : Fn Tryd.prog (IVB :: G) 18 #[SV has k n ch h, vt] (.tuple #[(.agg (cells 98 [pV (.bool false), pI .u8 32 (fun _ => 0), pV (.int .u64 0), pI .u8 32 (fun _ => 0), pI .u8 32 (fun _ => 0)])), nilS, ii e2])) (hE1 : Fn Tryd.prog (IVB :: G) 19 #[.bool false, SV has k n ch h, vt] (.tuple #[(.agg (cells 98 [pV (.bool false), pI .u8 32 (fun _ => 0), pV (.int .u64 0), pI .u8 32 (fun _ => 0), pI .u8 32 (fun _ => 0)])), nilS, ii e1])) (hE2 : Fn Tryd.prog (IVB :: G) 19 #[.bool true, SV has k n ch h, vt] (.tuple #[(.agg (cells 98 [pV (.bool false), pI .u8 32 (fun _ => 0), pV (.int .u64 0), pI .u8 32 (fun _ => 0), pI .u8 32 (fun _ => 0)])), nilS, ii e2])) : Fn Tryd.prog (IVB :: G) 5 #[SV has k n ch h, vt] (.bool true) := by
  refine Qf1 Tryd.func5 ?_
  refine Qs<|Qp<|(Qh 0) fun r1=>(Qa)<|Qn<|Qs<|Qp<|(QD 0)<|(Qm) ?_
  refine e_call rfl (Un 17) hD1 rfl rfl ?_
  refine (Qm)<|(Qx)<|(Qx)<|(Qx)<|(QH 1) fun r2=>?_
  refine e_storeA (i := 1) (Uz 28) rfl rfl (arrv_size _ _) (cells_one ⟨fun _ => rfl, fun _ => rfl, fun _ => rfl, fun _ => rfl, fun _ => rfl, trivial⟩) rfl cells_sz (.inl rfl) ?_
  refine (Qa)<|(Qa)<|Qn<|Qs<|Qp<|(QD 0)<|(Qm) ?_
  refine e_call rfl (Un 18) hD2 rfl rfl ?_
  refine (Qm)<|(Qx)<|(Qx)<|(Qx)<|(QH 2) fun r3=>?_
  refine e_storeA (i := 2) (Uz 28) rfl rfl (arrv_size _ _) (cells_one ⟨fun _ => rfl, fun _ => rfl, fun _ => rfl, fun _ => rfl, fun _ => rfl, trivial⟩) rfl cells_sz (.inl rfl) ?_
  refine (Qa)<|(Qa)<|Qn<|Qs<|Qp<|(QD 0)<|(Qm) ?_
  refine e_call rfl (Un 19) hE1 rfl rfl ?_
  refine (Qm)<|(Qx)<|(Qx)<|(Qx)<|(QH 3) fun r4=>?_
  refine e_storeA (i := 3) (Uz 28) rfl rfl (arrv_size _ _) (cells_one ⟨fun _ => rfl, fun _ => rfl, fun _ => rfl, fun _ => rfl, fun _ => rfl, trivial⟩) rfl cells_sz (.inl rfl) ?_
  refine (Qa)<|(Qa)<|Qn<|Qs<|Qp<|(QD 0)<|(Qm) ?_
  refine e_call rfl (Un 19) hE2 rfl rfl ?_
  refine (Qm)<|(Qx)<|(Qx)<|(Qx)<|(QH 4) fun r5=>?_
  refine e_storeA (i := 4) (Uz 28) rfl rfl (arrv_size _ _) (cells_one ⟨fun _ => rfl, fun _ => rfl, fun _ => rfl, fun _ => rfl, fun _ => rfl, trivial⟩) rfl cells_sz (.inl rfl) ?_
  refine (Qa)<|(Qa)<|Qn<|Qs<|Qp<|(QD 1)<|(QD 3) ?_
  refine e_eqSame sam28 eqg28 rfl rfl rfl ?_
  refine (Qm)<|(Qy)<|(Qm)<|(Qy)<|(Qm)<|(Qy) ?_
  refine e_callV [] rfl rfl (Un 20) trivial (sameBytes_fn (G := []) nilS nilS [] [] (.inl ⟨rfl, rfl, none, 0, rfl, fun _ => rfl⟩ : Shows [] 1 nilS ([] : List Nat).length (([] : List Nat).map by8)) (.inl ⟨rfl, rfl, none, 0, rfl, fun _ => rfl⟩ : Shows [] 1 nilS ([] : List Nat).length (([] : List Nat).map by8)) (by simp) (by simp)) rfl rfl rfl ?_
  refine (Qar)<|(QT)<|(Qm)<|(Qy)<|(Qm)<|(Qy)<|(Qm)<|(Qy)<|(Qc)<|(Qar)<|(QT)<|(Qm)<|(Qy)<|(QD 2)<|(Qy)<|(QD 4)<|(Qy) ?_
  refine e_eqSame sam28 eqg28 rfl rfl rfl ?_
  refine (QT)<|(Qm)<|(Qy)<|(Qm)<|(Qy)<|(Qm)<|(Qy) ?_
  refine e_callV [] rfl rfl (Un 20) trivial (sameBytes_fn (G := []) nilS nilS [] [] (.inl ⟨rfl, rfl, none, 0, rfl, fun _ => rfl⟩ : Shows [] 1 nilS ([] : List Nat).length (([] : List Nat).map by8)) (.inl ⟨rfl, rfl, none, 0, rfl, fun _ => rfl⟩ : Shows [] 1 nilS ([] : List Nat).length (([] : List Nat).map by8)) (by simp) (by simp)) rfl rfl rfl ?_
  refine (Qar)<|(QT)<|(Qm)<|(Qy)<|(Qm)<|(Qy)<|(Qm)<|(Qy)<|(Qc)<|(Qar)<|(QT)<|(Qa)<|Qn<|Qr ?_
  exact ⟨_, rfl, .tmp rfl⟩
set_option maxHeartbeats 4000000 in
theorem symSeals_pp (has : Bool) (k : Nat → Nat) (n : Nat) (ch h : Nat → Nat) (vt : Value) (tx : List Nat) (hvt : Shows (IVB :: G) 1 vt tx.length (tx.map by8)) (htb : (∀ b ∈ tx, b < 256)) (htl : tx.length ≤ 1000) (a1 : Bool) (k1 : Nat → Nat) (n1 : Nat) (c1 g1 : Nat → Nat) (a2 : Bool) (k2 : Nat → Nat) (n2 : Nat) (c2 g2 : Nat → Nat) (hD1 : Fx Tryd.prog (IVB :: G) [] 17 #[SV has k n ch h, vt] (fun v l1 nw => l1 = [] ∧ ∃ v', v = .tuple #[SV a1 k1 n1 c1 g1, v', ii 0] ∧ OwnS 5 1 v' tx.length (tx.map by8) nw)) (hD2 : Fx Tryd.prog (IVB :: G) [] 18 #[SV has k n ch h, vt] (fun v l1 nw => l1 = [] ∧ ∃ v', v = .tuple #[SV a2 k2 n2 c2 g2, v', ii 0] ∧ OwnS 5 1 v' tx.length (tx.map by8) nw)) (hE1 : Fn Tryd.prog (IVB :: G) 19 #[.bool false, SV has k n ch h, vt] (.tuple #[SV a1 k1 n1 c1 g1, vt, ii 0])) (hE2 : Fn Tryd.prog (IVB :: G) 19 #[.bool true, SV has k n ch h, vt] (.tuple #[SV a2 k2 n2 c2 g2, vt, ii 0])) : Fn Tryd.prog (IVB :: G) 5 #[SV has k n ch h, vt] (.bool true) := by
  refine Qf1 Tryd.func5 ?_
  refine Qs<|Qp<|(Qh 0) fun r1=>(Qa)<|Qn<|Qs<|QR ⟨[], 4, [], none⟩<|(QD 0)<|(Qm) ?_
  refine e_callN 1 (fun v => .tuple #[SV a1 k1 n1 c1 g1, v, ii 0]) rfl rfl (Un 17) seenG hD1 (by simp only [maxLen]; omega) (by rw [List.length_map, Nat.mul_one]) rfl rfl fun v1_1 oz1_1 ho1_1 => ?_
  refine (Qm)<|(Qx)<|(Qx)<|(Qx)<|(QH 2) fun r3=>?_
  refine e_storeA (i := 2) (Uz 28) rfl rfl (arrv_size _ _) (cells_one ⟨fun _ => rfl, fun _ => rfl, fun _ => rfl, fun _ => rfl, fun _ => rfl, trivial⟩) rfl cells_sz (.inl rfl) ?_
  refine (Qa)<|(Qa)<|Qn<|Qs<|QR ⟨[], 4, [], none⟩<|(QD 0)<|(Qm) ?_
  refine e_callN 3 (fun v => .tuple #[SV a2 k2 n2 c2 g2, v, ii 0]) rfl rfl (Un 18) seenG hD2 (by simp only [maxLen]; omega) (by rw [List.length_map, Nat.mul_one]) rfl rfl fun v1_2 oz1_2 ho1_2 => ?_
  refine (Qm)<|(Qx)<|(Qx)<|(Qx)<|(QH 4) fun r5=>?_
  refine e_storeA (i := 4) (Uz 28) rfl rfl (arrv_size _ _) (cells_one ⟨fun _ => rfl, fun _ => rfl, fun _ => rfl, fun _ => rfl, fun _ => rfl, trivial⟩) rfl cells_sz (.inl rfl) ?_
  refine (Qa)<|(Qa)<|Qn<|Qs<|Qp<|(QD 0)<|(Qm) ?_
  refine e_call rfl (Un 19) hE1 rfl rfl ?_
  refine (Qm)<|(Qx)<|(Qx)<|(Qx)<|(QH 5) fun r6=>?_
  refine e_storeA (i := 5) (Uz 28) rfl rfl (arrv_size _ _) (cells_one ⟨fun _ => rfl, fun _ => rfl, fun _ => rfl, fun _ => rfl, fun _ => rfl, trivial⟩) rfl cells_sz (.inl rfl) ?_
  refine (Qa)<|(Qa)<|Qn<|Qs<|Qp<|(QD 0)<|(Qm) ?_
  refine e_call rfl (Un 19) hE2 rfl rfl ?_
  refine (Qm)<|(Qx)<|(Qx)<|(Qx)<|(QH 6) fun r7=>?_
  refine e_storeA (i := 6) (Uz 28) rfl rfl (arrv_size _ _) (cells_one ⟨fun _ => rfl, fun _ => rfl, fun _ => rfl, fun _ => rfl, fun _ => rfl, trivial⟩) rfl cells_sz (.inl rfl) ?_
  refine (Qa)<|(Qa)<|Qn<|Qs<|Qp<|(QD 2)<|(QD 5) ?_
  refine e_eqSame sam28 eqg28 rfl rfl rfl ?_
  refine (Qm)<|(Qy)<|(Qm)<|(Qy)<|(Qm)<|(Qy) ?_
  refine e_callS rfl rfl (Un 20) (seen_app (seenM 1 rfl ⟨[], trivial⟩) seenG) (sameBytes_fn (G := oz1_1.toList ++ (IVB :: G)) _ _ tx tx (ho1_1.shows.mono (fun x h => List.mem_append_left _ h)) (hvt.mono (fun x h => List.mem_append_right _ h)) htb htb) rfl rfl ?_
  refine (Qar)<|(QT)<|(Qm)<|(Qy)<|(Qm)<|(Qy)<|(Qm)<|(Qy)<|(Qc)<|(Qar)<|(QT)<|(Qm)<|(Qy)<|(QD 4)<|(Qy)<|(QD 6)<|(Qy) ?_
  refine e_eqSame sam28 eqg28 rfl rfl rfl ?_
  refine (QT)<|(Qm)<|(Qy)<|(Qm)<|(Qy)<|(Qm)<|(Qy) ?_
  refine e_callS rfl rfl (Un 20) (seen_app (seenM 3 rfl ⟨[], trivial⟩) seenG) (sameBytes_fn (G := oz1_2.toList ++ (IVB :: G)) _ _ tx tx (ho1_2.shows.mono (fun x h => List.mem_append_left _ h)) (hvt.mono (fun x h => List.mem_append_right _ h)) htb htb) rfl rfl ?_
  refine (Qar)<|(QT)<|(Qm)<|(Qy)<|(Qm)<|(Qy)<|(Qm)<|(Qy)<|(Qc)<|(Qar)<|(QT)<|(Qa)<|Qn<|Qr ?_
  exact ⟨_, rfl, .tmp rfl⟩
set_option maxHeartbeats 4000000 in
theorem symSeals_oe (has : Bool) (k : Nat → Nat) (n : Nat) (ch h : Nat → Nat) (vt : Value) (a1 : Bool) (k1 : Nat → Nat) (n1 : Nat) (c1 g1 : Nat → Nat) (out1 : List Nat) (hob1 : (∀ b ∈ out1, b < 256)) (hol1 : out1.length ≤ 1000) (e2 : Nat) (hD1 : Fx Tryd.prog (IVB :: G) [] 17 #[SV has k n ch h, vt] (fun v l1 nw => l1 = [] ∧ ∃ v', v = .tuple #[SV a1 k1 n1 c1 g1, v', ii 0] ∧ OwnS 5 1 v' out1.length (out1.map by8) nw)) (hD2 : Fn Tryd.prog (IVB :: G) 18 #[SV has k n ch h, vt] (.tuple #[(.agg (cells 98 [pV (.bool false), pI .u8 32 (fun _ => 0), pV (.int .u64 0), pI .u8 32 (fun _ => 0), pI .u8 32 (fun _ => 0)])), nilS, ii e2])) (hE1 : Fx Tryd.prog (IVB :: G) [] 19 #[.bool false, SV has k n ch h, vt] (fun v l1 nw => l1 = [] ∧ ∃ v', v = .tuple #[SV a1 k1 n1 c1 g1, v', ii 0] ∧ OwnS 5 1 v' out1.length (out1.map by8) nw)) (hE2 : Fn Tryd.prog (IVB :: G) 19 #[.bool true, SV has k n ch h, vt] (.tuple #[(.agg (cells 98 [pV (.bool false), pI .u8 32 (fun _ => 0), pV (.int .u64 0), pI .u8 32 (fun _ => 0), pI .u8 32 (fun _ => 0)])), nilS, ii e2])) : Fn Tryd.prog (IVB :: G) 5 #[SV has k n ch h, vt] (.bool true) := by
  refine Qf1 Tryd.func5 ?_
  refine Qs<|Qp<|(Qh 0) fun r1=>(Qa)<|Qn<|Qs<|QR ⟨[], 4, [], none⟩<|(QD 0)<|(Qm) ?_
  refine e_callN 1 (fun v => .tuple #[SV a1 k1 n1 c1 g1, v, ii 0]) rfl rfl (Un 17) seenG hD1 (by simp only [maxLen]; omega) (by rw [List.length_map, Nat.mul_one]) rfl rfl fun v1_1 oz1_1 ho1_1 => ?_
  refine (Qm)<|(Qx)<|(Qx)<|(Qx)<|(QH 2) fun r3=>?_
  refine e_storeA (i := 2) (Uz 28) rfl rfl (arrv_size _ _) (cells_one ⟨fun _ => rfl, fun _ => rfl, fun _ => rfl, fun _ => rfl, fun _ => rfl, trivial⟩) rfl cells_sz (.inl rfl) ?_
  refine (Qa)<|(Qa)<|Qn<|Qs<|Qp<|(QD 0)<|(Qm) ?_
  refine e_call rfl (Un 18) hD2 rfl rfl ?_
  refine (Qm)<|(Qx)<|(Qx)<|(Qx)<|(QH 3) fun r4=>?_
  refine e_storeA (i := 3) (Uz 28) rfl rfl (arrv_size _ _) (cells_one ⟨fun _ => rfl, fun _ => rfl, fun _ => rfl, fun _ => rfl, fun _ => rfl, trivial⟩) rfl cells_sz (.inl rfl) ?_
  refine (Qa)<|(Qa)<|Qn<|Qs<|QR ⟨[], 4, [], none⟩<|(QD 0)<|(Qm) ?_
  refine e_callN 4 (fun v => .tuple #[SV a1 k1 n1 c1 g1, v, ii 0]) rfl rfl (Un 19) seenG hE1 (by simp only [maxLen]; omega) (by rw [List.length_map, Nat.mul_one]) rfl rfl fun v1_2 oz1_2 ho1_2 => ?_
  refine (Qm)<|(Qx)<|(Qx)<|(Qx)<|(QH 5) fun r6=>?_
  refine e_storeA (i := 5) (Uz 28) rfl rfl (arrv_size _ _) (cells_one ⟨fun _ => rfl, fun _ => rfl, fun _ => rfl, fun _ => rfl, fun _ => rfl, trivial⟩) rfl cells_sz (.inl rfl) ?_
  refine (Qa)<|(Qa)<|Qn<|Qs<|Qp<|(QD 0)<|(Qm) ?_
  refine e_call rfl (Un 19) hE2 rfl rfl ?_
  refine (Qm)<|(Qx)<|(Qx)<|(Qx)<|(QH 6) fun r7=>?_
  refine e_storeA (i := 6) (Uz 28) rfl rfl (arrv_size _ _) (cells_one ⟨fun _ => rfl, fun _ => rfl, fun _ => rfl, fun _ => rfl, fun _ => rfl, trivial⟩) rfl cells_sz (.inl rfl) ?_
  refine (Qa)<|(Qa)<|Qn<|Qs<|Qp<|(QD 2)<|(QD 5) ?_
  refine e_eqSame sam28 eqg28 rfl rfl rfl ?_
  refine (Qm)<|(Qy)<|(Qm)<|(Qy)<|(Qm)<|(Qy) ?_
  refine e_callS rfl rfl (Un 20) (seen_app (seenM 1 rfl ⟨[], trivial⟩) (seenM 4 rfl ⟨[], trivial⟩)) (sameBytes_fn (G := oz1_1.toList ++ oz1_2.toList) _ _ out1 out1 (ho1_1.shows.mono (fun x h => List.mem_append_left _ h)) (ho1_2.shows.mono (fun x h => List.mem_append_right _ h)) hob1 hob1) rfl rfl ?_
  refine (Qar)<|(QT)<|(Qm)<|(Qy)<|(Qm)<|(Qy)<|(Qm)<|(Qy)<|(Qc)<|(Qar)<|(QT)<|(Qm)<|(Qy)<|(QD 3)<|(Qy)<|(QD 6)<|(Qy) ?_
  refine e_eqSame sam28 eqg28 rfl rfl rfl ?_
  refine (QT)<|(Qm)<|(Qy)<|(Qm)<|(Qy)<|(Qm)<|(Qy) ?_
  refine e_callV [] rfl rfl (Un 20) trivial (sameBytes_fn (G := []) nilS nilS [] [] (.inl ⟨rfl, rfl, none, 0, rfl, fun _ => rfl⟩ : Shows [] 1 nilS ([] : List Nat).length (([] : List Nat).map by8)) (.inl ⟨rfl, rfl, none, 0, rfl, fun _ => rfl⟩ : Shows [] 1 nilS ([] : List Nat).length (([] : List Nat).map by8)) (by simp) (by simp)) rfl rfl rfl ?_
  refine (Qar)<|(QT)<|(Qm)<|(Qy)<|(Qm)<|(Qy)<|(Qm)<|(Qy)<|(Qc)<|(Qar)<|(QT)<|(Qa)<|Qn<|Qr ?_
  exact ⟨_, rfl, .tmp rfl⟩
set_option maxHeartbeats 4000000 in
theorem symSeals_oo (has : Bool) (k : Nat → Nat) (n : Nat) (ch h : Nat → Nat) (vt : Value) (a1 : Bool) (k1 : Nat → Nat) (n1 : Nat) (c1 g1 : Nat → Nat) (out1 : List Nat) (hob1 : (∀ b ∈ out1, b < 256)) (hol1 : out1.length ≤ 1000) (a2 : Bool) (k2 : Nat → Nat) (n2 : Nat) (c2 g2 : Nat → Nat) (out2 : List Nat) (hob2 : (∀ b ∈ out2, b < 256)) (hol2 : out2.length ≤ 1000) (hD1 : Fx Tryd.prog (IVB :: G) [] 17 #[SV has k n ch h, vt] (fun v l1 nw => l1 = [] ∧ ∃ v', v = .tuple #[SV a1 k1 n1 c1 g1, v', ii 0] ∧ OwnS 5 1 v' out1.length (out1.map by8) nw)) (hD2 : Fx Tryd.prog (IVB :: G) [] 18 #[SV has k n ch h, vt] (fun v l1 nw => l1 = [] ∧ ∃ v', v = .tuple #[SV a2 k2 n2 c2 g2, v', ii 0] ∧ OwnS 5 1 v' out2.length (out2.map by8) nw)) (hE1 : Fx Tryd.prog (IVB :: G) [] 19 #[.bool false, SV has k n ch h, vt] (fun v l1 nw => l1 = [] ∧ ∃ v', v = .tuple #[SV a1 k1 n1 c1 g1, v', ii 0] ∧ OwnS 5 1 v' out1.length (out1.map by8) nw)) (hE2 : Fx Tryd.prog (IVB :: G) [] 19 #[.bool true, SV has k n ch h, vt] (fun v l1 nw => l1 = [] ∧ ∃ v', v = .tuple #[SV a2 k2 n2 c2 g2, v', ii 0] ∧ OwnS 5 1 v' out2.length (out2.map by8) nw)) : Fn Tryd.prog (IVB :: G) 5 #[SV has k n ch h, vt] (.bool true) := by
  refine Qf1 Tryd.func5 ?_
  refine Qs<|Qp<|(Qh 0) fun r1=>(Qa)<|Qn<|Qs<|QR ⟨[], 4, [], none⟩<|(QD 0)<|(Qm) ?_
  refine e_callN 1 (fun v => .tuple #[SV a1 k1 n1 c1 g1, v, ii 0]) rfl rfl (Un 17) seenG hD1 (by simp only [maxLen]; omega) (by rw [List.length_map, Nat.mul_one]) rfl rfl fun v1_1 oz1_1 ho1_1 => ?_
  refine (Qm)<|(Qx)<|(Qx)<|(Qx)<|(QH 2) fun r3=>?_
  refine e_storeA (i := 2) (Uz 28) rfl rfl (arrv_size _ _) (cells_one ⟨fun _ => rfl, fun _ => rfl, fun _ => rfl, fun _ => rfl, fun _ => rfl, trivial⟩) rfl cells_sz (.inl rfl) ?_
  refine (Qa)<|(Qa)<|Qn<|Qs<|QR ⟨[], 4, [], none⟩<|(QD 0)<|(Qm) ?_
  refine e_callN 3 (fun v => .tuple #[SV a2 k2 n2 c2 g2, v, ii 0]) rfl rfl (Un 18) seenG hD2 (by simp only [maxLen]; omega) (by rw [List.length_map, Nat.mul_one]) rfl rfl fun v1_2 oz1_2 ho1_2 => ?_
  refine (Qm)<|(Qx)<|(Qx)<|(Qx)<|(QH 4) fun r5=>?_
  refine e_storeA (i := 4) (Uz 28) rfl rfl (arrv_size _ _) (cells_one ⟨fun _ => rfl, fun _ => rfl, fun _ => rfl, fun _ => rfl, fun _ => rfl, trivial⟩) rfl cells_sz (.inl rfl) ?_
  refine (Qa)<|(Qa)<|Qn<|Qs<|QR ⟨[], 4, [], none⟩<|(QD 0)<|(Qm) ?_
  refine e_callN 5 (fun v => .tuple #[SV a1 k1 n1 c1 g1, v, ii 0]) rfl rfl (Un 19) seenG hE1 (by simp only [maxLen]; omega) (by rw [List.length_map, Nat.mul_one]) rfl rfl fun v1_3 oz1_3 ho1_3 => ?_
  refine (Qm)<|(Qx)<|(Qx)<|(Qx)<|(QH 6) fun r7=>?_
  refine e_storeA (i := 6) (Uz 28) rfl rfl (arrv_size _ _) (cells_one ⟨fun _ => rfl, fun _ => rfl, fun _ => rfl, fun _ => rfl, fun _ => rfl, trivial⟩) rfl cells_sz (.inl rfl) ?_
  refine (Qa)<|(Qa)<|Qn<|Qs<|QR ⟨[], 4, [], none⟩<|(QD 0)<|(Qm) ?_
  refine e_callN 7 (fun v => .tuple #[SV a2 k2 n2 c2 g2, v, ii 0]) rfl rfl (Un 19) seenG hE2 (by simp only [maxLen]; omega) (by rw [List.length_map, Nat.mul_one]) rfl rfl fun v1_4 oz1_4 ho1_4 => ?_
  refine (Qm)<|(Qx)<|(Qx)<|(Qx)<|(QH 8) fun r9=>?_
  refine e_storeA (i := 8) (Uz 28) rfl rfl (arrv_size _ _) (cells_one ⟨fun _ => rfl, fun _ => rfl, fun _ => rfl, fun _ => rfl, fun _ => rfl, trivial⟩) rfl cells_sz (.inl rfl) ?_
  refine (Qa)<|(Qa)<|Qn<|Qs<|Qp<|(QD 2)<|(QD 6) ?_
  refine e_eqSame sam28 eqg28 rfl rfl rfl ?_
  refine (Qm)<|(Qy)<|(Qm)<|(Qy)<|(Qm)<|(Qy) ?_
  refine e_callS rfl rfl (Un 20) (seen_app (seenM 1 rfl ⟨[], trivial⟩) (seenM 5 rfl ⟨[], trivial⟩)) (sameBytes_fn (G := oz1_1.toList ++ oz1_3.toList) _ _ out1 out1 (ho1_1.shows.mono (fun x h => List.mem_append_left _ h)) (ho1_3.shows.mono (fun x h => List.mem_append_right _ h)) hob1 hob1) rfl rfl ?_
  refine (Qar)<|(QT)<|(Qm)<|(Qy)<|(Qm)<|(Qy)<|(Qm)<|(Qy)<|(Qc)<|(Qar)<|(QT)<|(Qm)<|(Qy)<|(QD 4)<|(Qy)<|(QD 8)<|(Qy) ?_
  refine e_eqSame sam28 eqg28 rfl rfl rfl ?_
  refine (QT)<|(Qm)<|(Qy)<|(Qm)<|(Qy)<|(Qm)<|(Qy) ?_
  refine e_callS rfl rfl (Un 20) (seen_app (seenM 3 rfl ⟨[], trivial⟩) (seenM 7 rfl ⟨[], trivial⟩)) (sameBytes_fn (G := oz1_2.toList ++ oz1_4.toList) _ _ out2 out2 (ho1_2.shows.mono (fun x h => List.mem_append_left _ h)) (ho1_4.shows.mono (fun x h => List.mem_append_right _ h)) hob2 hob2) rfl rfl ?_
  refine (Qar)<|(QT)<|(Qm)<|(Qy)<|(Qm)<|(Qy)<|(Qm)<|(Qy)<|(Qc)<|(Qar)<|(QT)<|(Qa)<|Qn<|Qr ?_
  exact ⟨_, rfl, .tmp rfl⟩
set_option maxHeartbeats 4000000 in
theorem symSeals_eo (has : Bool) (k : Nat → Nat) (n : Nat) (ch h : Nat → Nat) (vt : Value) (e1 : Nat) (a2 : Bool) (k2 : Nat → Nat) (n2 : Nat) (c2 g2 : Nat → Nat) (out2 : List Nat) (hob2 : (∀ b ∈ out2, b < 256)) (hol2 : out2.length ≤ 1000) (hD1 : Fn Tryd.prog (IVB :: G) 17 #[SV has k n ch h, vt] (.tuple #[(.agg (cells 98 [pV (.bool false), pI .u8 32 (fun _ => 0), pV (.int .u64 0), pI .u8 32 (fun _ => 0), pI .u8 32 (fun _ => 0)])), nilS, ii e1])) (hD2 : Fx Tryd.prog (IVB :: G) [] 18 #[SV has k n ch h, vt] (fun v l1 nw => l1 = [] ∧ ∃ v', v = .tuple #[SV a2 k2 n2 c2 g2, v', ii 0] ∧ OwnS 5 1 v' out2.length (out2.map by8) nw)) (hE1 : Fn Tryd.prog (IVB :: G) 19 #[.bool false, SV has k n ch h, vt] (.tuple #[(.agg (cells 98 [pV (.bool false), pI .u8 32 (fun _ => 0), pV (.int .u64 0), pI .u8 32 (fun _ => 0), pI .u8 32 (fun _ => 0)])), nilS, ii e1])) (hE2 : Fx Tryd.prog (IVB :: G) [] 19 #[.bool true, SV has k n ch h, vt] (fun v l1 nw => l1 = [] ∧ ∃ v', v = .tuple #[SV a2 k2 n2 c2 g2, v', ii 0] ∧ OwnS 5 1 v' out2.length (out2.map by8) nw)) : Fn Tryd.prog (IVB :: G) 5 #[SV has k n ch h, vt] (.bool true) := by
  refine Qf1 Tryd.func5 ?_
  refine Qs<|Qp<|(Qh 0) fun r1=>(Qa)<|Qn<|Qs<|Qp<|(QD 0)<|(Qm) ?_
  refine e_call rfl (Un 17) hD1 rfl rfl ?_
  refine (Qm)<|(Qx)<|(Qx)<|(Qx)<|(QH 1) fun r2=>?_
  refine e_storeA (i := 1) (Uz 28) rfl rfl (arrv_size _ _) (cells_one ⟨fun _ => rfl, fun _ => rfl, fun _ => rfl, fun _ => rfl, fun _ => rfl, trivial⟩) rfl cells_sz (.inl rfl) ?_
  refine (Qa)<|(Qa)<|Qn<|Qs<|QR ⟨[], 4, [], none⟩<|(QD 0)<|(Qm) ?_
  refine e_callN 2 (fun v => .tuple #[SV a2 k2 n2 c2 g2, v, ii 0]) rfl rfl (Un 18) seenG hD2 (by simp only [maxLen]; omega) (by rw [List.length_map, Nat.mul_one]) rfl rfl fun v1_1 oz1_1 ho1_1 => ?_
  refine (Qm)<|(Qx)<|(Qx)<|(Qx)<|(QH 3) fun r4=>?_
  refine e_storeA (i := 3) (Uz 28) rfl rfl (arrv_size _ _) (cells_one ⟨fun _ => rfl, fun _ => rfl, fun _ => rfl, fun _ => rfl, fun _ => rfl, trivial⟩) rfl cells_sz (.inl rfl) ?_
  refine (Qa)<|(Qa)<|Qn<|Qs<|Qp<|(QD 0)<|(Qm) ?_
  refine e_call rfl (Un 19) hE1 rfl rfl ?_
  refine (Qm)<|(Qx)<|(Qx)<|(Qx)<|(QH 4) fun r5=>?_
  refine e_storeA (i := 4) (Uz 28) rfl rfl (arrv_size _ _) (cells_one ⟨fun _ => rfl, fun _ => rfl, fun _ => rfl, fun _ => rfl, fun _ => rfl, trivial⟩) rfl cells_sz (.inl rfl) ?_
  refine (Qa)<|(Qa)<|Qn<|Qs<|QR ⟨[], 4, [], none⟩<|(QD 0)<|(Qm) ?_
  refine e_callN 5 (fun v => .tuple #[SV a2 k2 n2 c2 g2, v, ii 0]) rfl rfl (Un 19) seenG hE2 (by simp only [maxLen]; omega) (by rw [List.length_map, Nat.mul_one]) rfl rfl fun v1_2 oz1_2 ho1_2 => ?_
  refine (Qm)<|(Qx)<|(Qx)<|(Qx)<|(QH 6) fun r7=>?_
  refine e_storeA (i := 6) (Uz 28) rfl rfl (arrv_size _ _) (cells_one ⟨fun _ => rfl, fun _ => rfl, fun _ => rfl, fun _ => rfl, fun _ => rfl, trivial⟩) rfl cells_sz (.inl rfl) ?_
  refine (Qa)<|(Qa)<|Qn<|Qs<|Qp<|(QD 1)<|(QD 4) ?_
  refine e_eqSame sam28 eqg28 rfl rfl rfl ?_
  refine (Qm)<|(Qy)<|(Qm)<|(Qy)<|(Qm)<|(Qy) ?_
  refine e_callV [] rfl rfl (Un 20) trivial (sameBytes_fn (G := []) nilS nilS [] [] (.inl ⟨rfl, rfl, none, 0, rfl, fun _ => rfl⟩ : Shows [] 1 nilS ([] : List Nat).length (([] : List Nat).map by8)) (.inl ⟨rfl, rfl, none, 0, rfl, fun _ => rfl⟩ : Shows [] 1 nilS ([] : List Nat).length (([] : List Nat).map by8)) (by simp) (by simp)) rfl rfl rfl ?_
  refine (Qar)<|(QT)<|(Qm)<|(Qy)<|(Qm)<|(Qy)<|(Qm)<|(Qy)<|(Qc)<|(Qar)<|(QT)<|(Qm)<|(Qy)<|(QD 3)<|(Qy)<|(QD 6)<|(Qy) ?_
  refine e_eqSame sam28 eqg28 rfl rfl rfl ?_
  refine (QT)<|(Qm)<|(Qy)<|(Qm)<|(Qy)<|(Qm)<|(Qy) ?_
  refine e_callS rfl rfl (Un 20) (seen_app (seenM 2 rfl ⟨[], trivial⟩) (seenM 5 rfl ⟨[], trivial⟩)) (sameBytes_fn (G := oz1_1.toList ++ oz1_2.toList) _ _ out2 out2 (ho1_1.shows.mono (fun x h => List.mem_append_left _ h)) (ho1_2.shows.mono (fun x h => List.mem_append_right _ h)) hob2 hob2) rfl rfl ?_
  refine (Qar)<|(QT)<|(Qm)<|(Qy)<|(Qm)<|(Qy)<|(Qm)<|(Qy)<|(Qc)<|(Qar)<|(QT)<|(Qa)<|Qn<|Qr ?_
  exact ⟨_, rfl, .tmp rfl⟩
end Go.Proofs.YtbjaenjgahjikaaDoor
namespace Go.Proofs.YtbjaenjgahjikaaDoor
open Go Go.RowKit
variable {G : Mem}
set_option maxHeartbeats 400000 in
theorem picked_fn (z : Int) (m : Nat) (hm : 0 < m) (hm2 : m < 4294967296) : Fn Tryd.prog G 23 #[.int .i64 z, ii m] (ii (pkn z m)) := by
  have htm := tmod_bd z hm
  refine Qf1 Tryd.func23 ?_
  refine Qs<|Qp<|(Qa)<|Qn<|Qs<|Qp<|(Qm)<|(Qm) ?_
  refine e_rem_z rfl rfl rfl (by omega) ?_
  refine (Qa)<|Qn<|Qs<|Qs<|Qp<|(Qm)<|(Ql)<|Qn ?_
  refine e_cond rfl ?_ ?_
  · intro hc0
    have hc0 := of_decide_eq_true hc0
    refine Qp<|(Qm)<|(Qm) ?_
    refine e_add_z rfl rfl rfl (by omega) (by omega) ?_
    refine e_as (congrArg (Value.int .i64) (pkn_neg hm hc0)) ?_
    refine (Qa)<|Qn<|Qs<|Qp<|(Qm)<|(Qa)<|Qn<|Qr ?_
    exact ⟨_, rfl, .tmp rfl⟩
  · intro hc0
    have hc0 := of_decide_eq_false hc0
    rw [ii, ← pkn_pos hm hc0]
    refine Qk<|Qs<|Qp<|(Qm)<|(Qa)<|Qn<|Qr ?_
    exact ⟨_, rfl, .tmp rfl⟩
set_option maxHeartbeats 400000 in
theorem some_fn (v : Value) (rs : List RawT) (m : Nat) (hv : Shows G 4 v rs.length (rs.flatMap rawC)) : Fn Tryd.prog G 22 #[v, ii m] (slPart 4 v 0 (min rs.length m)) := by
  refine Qf1 Tryd.func22 ?_
  refine Qs<|Qp<|(Qa)<|Qn<|Qs<|Qp<|(Qm)<|(Qm)<|(QC hv)<|(Qm) ?_
  refine e_min rfl rfl rfl rfl ?_
  refine e_sliceV 0 (min rs.length m) hv (Uu 42) (Uz 46) rfl rfl rfl rfl ⟨_, rfl⟩ (by omega) (by omega) rfl ?_
  refine (Qa)<|Qn<|Qr ?_
  exact ⟨_, rfl, .tmp rfl⟩
set_option maxHeartbeats 400000 in
theorem cut_fn (l : List Nat) (m : Nat) : Fn Tryd.prog G 21 #[sv l, ii m] (sv (l.take m)) := by
  refine Qf1 Tryd.func21 ?_
  refine Qs<|Qp ?_
  refine e_assign (v := sv []) rfl rfl ?_
  refine Qn<|Qs<|Qp<|(Qm)<|(Qm)<|(QU)<|(Qm) ?_
  refine e_min rfl rfl rfl rfl ?_
  refine e_sliceStr 0 (min l.length m) (Uu 9) rfl rfl rfl rfl ⟨_, rfl⟩ (by omega) (by omega) rfl ?_
  refine e_as (congrArg sv (take_minN l m)) ?_
  refine (Qa)<|Qn<|Qr ?_
  exact ⟨_, rfl, .tmp rfl⟩
set_option maxHeartbeats 8000000 in
theorem symAlike_fn (DG : Mem) (l : List Nat) (hlb : (∀ b ∈ l, b < 256)) (v : Value) (rs : List RawT) (hv : Shows (DG ++ G) 4 v rs.length (rs.flatMap rawC)) (hr : ∀ r ∈ rs, rawOk r) (hBg : ∀ (G : Mem) (l : List Nat), (∀ b ∈ l, b < 256) → l.length ≤ 100 → Fn Tryd.prog (DG ++ G) 7 #[sv l] (.agg (cells 98 [pV (.bool false), pI .u8 32 (fun _ => 0), pV (.int .u64 0), pI .u8 32 (sbeg l), pI .u8 32 (sbeg l)]))) (hKy : ∀ (G : Mem) (has : Bool) (k : Nat → Nat) (n : Nat) (ch h : Nat → Nat) (v : Value) (l : List Nat), (L8 32 k) → (L8 32 ch) → (L8 32 h) → Shows (DG ++ G) 1 v l.length (l.map by8) → (∀ b ∈ l, b < 256) → l.length ≤ 100 → Fn Tryd.prog (DG ++ G) 11 #[SV has k n ch h, v] (SV true (kB ch l) 0 (kA ch l) h)) (hHs : ∀ (G : Mem) (has : Bool) (k : Nat → Nat) (n : Nat) (ch h : Nat → Nat) (v : Value) (l : List Nat), (L8 32 k) → (L8 32 ch) → (L8 32 h) → Shows (DG ++ G) 1 v l.length (l.map by8) → (∀ b ∈ l, b < 256) → l.length ≤ 100 → Fn Tryd.prog (DG ++ G) 12 #[SV has k n ch h, v] (SV has k n ch (hx h l))) (hBt : ∀ (G : Mem) (has : Bool) (k : Nat → Nat) (n : Nat) (ch h : Nat → Nat) (v : Value) (l : List Nat), (L8 32 k) → (L8 32 ch) → (L8 32 h) → Shows (DG ++ G) 1 v l.length (l.map by8) → (∀ b ∈ l, b < 256) → l.length ≤ 100 → Fn Tryd.prog (DG ++ G) 13 #[SV has k n ch h, v] (SV true (kC ch l) 0 (kA ch l) (hx h ((List.range 32).map (kB ch l))))) (hSp : ∀ (G : Mem) (has : Bool) (k : Nat → Nat) (n : Nat) (ch h : Nat → Nat), (L8 32 ch) → Fn Tryd.prog (DG ++ G) 8 #[SV has k n ch h] (.agg (cells 68 [pV (.bool true), pI .u8 32 (kA ch []), pV (u 0), pV (.bool true), pI .u8 32 (kB ch []), pV (u 0)]))) (hPs : ∀ (G : Mem) (k : Nat → Nat) (n : Nat) (ch h : Nat → Nat) (v : Value) (l : List Nat), okC false k n = true → (L8 32 h) → Shows (DG ++ G) 1 v l.length (l.map by8) → (∀ b ∈ l, b < 256) → l.length ≤ 800 → Fx Tryd.prog (DG ++ G) [] 17 #[SV false k n ch h, v] (fun v l1 nw => l1 = [] ∧ ∃ v', v = .tuple #[SV false k n ch (hx h l), v', ii 0] ∧ OwnS 5 1 v' l.length (l.map by8) nw)) (hPo : ∀ (G : Mem) (k : Nat → Nat) (n : Nat) (ch h : Nat → Nat) (v : Value) (l : List Nat), okC false k n = true → (L8 32 h) → Shows (DG ++ G) 1 v l.length (l.map by8) → (∀ b ∈ l, b < 256) → l.length ≤ 800 → Fx Tryd.prog (DG ++ G) [] 18 #[SV false k n ch h, v] (fun v l1 nw => l1 = [] ∧ ∃ v', v = .tuple #[SV false k n ch (hx h l), v', ii 0] ∧ OwnS 5 1 v' l.length (l.map by8) nw)) (hSo : ∀ (G : Mem) (k : Nat → Nat) (n : Nat) (ch h : Nat → Nat) (v : Value) (l : List Nat), (L8 32 k) → (L8 32 h) → n < 18446744073709551615 → Shows (DG ++ G) 1 v l.length (l.map by8) → (∀ b ∈ l, b < 256) → l.length ≤ 800 → Fx Tryd.prog (DG ++ G) [] 17 #[SV true k n ch h, v] (fun v l1 nw => l1 = [] ∧ ∃ v', v = .tuple #[SV true k (n + 1) ch (hx h (sealL k (nonU n) ((List.range 32).map h) l)), v', ii 0] ∧ OwnS 5 1 v' (sealL k (nonU n) ((List.range 32).map h) l).length ((sealL k (nonU n) ((List.range 32).map h) l).map by8) nw)) (hOo : ∀ (G : Mem) (k : Nat → Nat) (n : Nat) (ch h : Nat → Nat) (v : Value) (l : List Nat), (L8 32 k) → (L8 32 h) → n < 18446744073709551615 → Shows (DG ++ G) 1 v l.length (l.map by8) → (∀ b ∈ l, b < 256) → 16 ≤ l.length → l.length ≤ 816 → opensL k (nonU n) ((List.range 32).map h) l → Fx Tryd.prog (DG ++ G) [] 18 #[SV true k n ch h, v] (fun v l1 nw => l1 = [] ∧ ∃ v', v = .tuple #[SV true k (n + 1) ch (hx h l), v', ii 0] ∧ OwnS 5 1 v' (openL k (nonU n) l).length ((openL k (nonU n) l).map by8) nw)) : Fn Tryd.prog (DG ++ G) 6 #[sv l, v] (.bool true) := by
  obtain ⟨g0, hg0⟩ : ∃ g0, g0 = sbeg (l.take 60) := ⟨_, rfl⟩
  have hgb : ∀ j, j < 32 → g0 j < 256 := fun j _ => by rw [hg0]; exact sbeg_lt (fun b h => hlb b (List.mem_of_mem_take h)) j
  obtain ⟨q, hq⟩ : ∃ q, q = rs.take 10 := ⟨_, rfl⟩
  have hql : q.length ≤ 10 := by rw [hq]; simp; omega
  have hvq : Shows (DG ++ G) 4 (slPart 4 v 0 (min rs.length 10)) q.length (q.flatMap rawC) := by rw [hq]; exact shows_some 10 hv
  have hrq : ∀ r ∈ q, rawOk r := fun r h => hr r (by rw [hq] at h; exact List.mem_of_mem_take h)
  refine Qf1 Tryd.func6 ?_
  refine Qs<|Qp<|(Qa)<|Qn<|Qs<|Qp<|(Qm) ?_
  refine e_call rfl (Un 21) (cut_fn l 60) rfl rfl ?_
  refine e_call rfl (Un 7) (hBg G (l.take 60) (fun b h => hlb b (List.mem_of_mem_take h)) (by simp; omega)) rfl rfl ?_
  refine e_as (show _ = SV false (fun _ => 0) 0 g0 g0 by rw [hg0]; rfl) ?_
  refine (QH 0) fun r1=>?_
  refine e_storeA (i := 0) (Uz 28) rfl rfl (arrv_size _ _) (cells_one ⟨fun _ => rfl, fun _ => rfl, fun _ => rfl, fun _ => rfl, fun _ => rfl, trivial⟩) rfl cells_sz (.inl rfl) ?_
  refine Qn<|Qs<|Qp<|(QD 0)<|(QH 1) fun r2=>?_
  refine e_storeA (i := 1) (Uz 28) rfl rfl (arrv_size _ _) (cells_one ⟨fun _ => rfl, fun _ => rfl, fun _ => rfl, fun _ => rfl, fun _ => rfl, trivial⟩) rfl cells_sz (.inl rfl) ?_
  refine Qn<|Qs<|Qs<|Qp<|(Qm) ?_
  refine e_call rfl (Un 22) (some_fn v rs 10 hv) rfl rfl ?_
  refine (QC hvq)<|(Qm)<|Qn<|Qb ?_
  refine QzK [(5, _), (6, _), (23, _), (24, _)] [] (fun kk E m => ∃ (i : Nat) (has : Bool) (ky : Nat → Nat) (nu : Nat) (cy : Nat → Nat) (hy : Nat → Nat), kk = q.length - i ∧ E = [(25, ii i)] ∧ m = [(0, some ⟨r1, cells 98 [pV (.bool has), pI .u8 32 ky, pV (u nu), pI .u8 32 cy, pI .u8 32 hy], 28⟩), (1, some ⟨r2, cells 98 [pV (.bool has), pI .u8 32 ky, pV (u nu), pI .u8 32 cy, pI .u8 32 hy], 28⟩)] ∧ (i ≤ q.length) ∧ (∀ j, j < 32 → ky j < 256) ∧ (∀ j, j < 32 → cy j < 256) ∧ (∀ j, j < 32 → hy j < 256) ∧ (okC has ky nu = true) ∧ (nu ≤ i)) ⟨0, false, fun _ => 0, 0, g0, g0, rfl, rfl, rfl, by omega, fun j _ => (show 0 < 256 by decide), hgb, hgb, rfl, by omega⟩ ⟨rfl, rfl, rfl, rfl, rfl, trivial⟩ ⟨rfl, rfl, trivial⟩ ?_
  rintro kk E m ⟨i, has, ky, nu, cy, hy, rfl, rfl, rfl, hf0_0, hf0_1, hf0_2, hf0_3, hf0_4, hf0_5⟩
  simp only [catE, catL]
  refine Qs<|Qp<|(Ql)<|Qn<|Qs ?_
  refine e_cond rfl ?_ ?_
  · intro hc0
    have hc0 : i < q.length := by have := of_decide_eq_true hc0; omega
    have hok := hrq q[i] (List.getElem_mem hc0)
    obtain ⟨x, hxe⟩ : ∃ x, x = q[i].t.take 40 := ⟨_, rfl⟩
    have hxl : x.length ≤ 40 := by rw [hxe]; simp; omega
    have hxb : ∀ b ∈ x, b < 256 := fun b h => hok.1 b (by rw [hxe] at h; exact List.mem_of_mem_take h)
    refine Qk<|Qs<|Qb<|Qs<|Qp ?_
    refine e_atV hvq (Uu 42) (Uz 46) rfl rfl (by omega) rfl ?_
    refine e_loadVS hvq seenG (Uu 46) rfl (Uz 46) rfl (by decide) (by rw [flatMap_len rawC_len]; omega) (flatMap_at rawC_len q i hc0) rfl ?_
    refine e_as (raw_cells q[i]) ?_
    refine (QH 2) fun r3=>?_
    refine e_storeA (i := 2) (Uz 46) rfl rfl (arrv_size _ _) (cells_one ⟨fun _ => rfl, fun _ => rfl, fun _ => rfl, fun _ => rfl, trivial⟩) rfl cells_sz (.inl rfl) ?_
    refine Qn<|Qs<|QR ⟨[], 1, [33], none⟩<|(Qf 3)<|(QV 3 2) ?_
    refine e_call rfl (Un 21) (cut_fn q[i].t 40) rfl rfl ?_
    refine e_as (congrArg sv hxe.symm) ?_
    refine e_conv_own 3 (Uu 9) (Uu 33) (Uu 5) rfl hxb (by simp only [maxLen]; omega) rfl rfl fun v2_1 oz2_1 ho2_1 => ?_
    refine (Qa)<|Qn<|Qs<|Qs<|Qp<|(Qf 0)<|(QV 0 2) ?_
    refine e_call rfl (Un 23) (picked_fn _ 5 (by decide) (by decide)) rfl rfl ?_
    refine Qn<|Qb<|Qs<|Qp<|(Qc)<|(Qa)<|Qn ?_
    refine e_cond rfl ?_ ?_
    · intro hc1
      obtain ⟨fa, hfa⟩ : ∃ fa, fa = kA cy x := ⟨_, rfl⟩
      obtain ⟨fb, hfb⟩ : ∃ fb, fb = kB cy x := ⟨_, rfl⟩
      obtain ⟨fc, hfc⟩ : ∃ fc, fc = kC cy x := ⟨_, rfl⟩
      have hla : ∀ j, j < 32 → fa j < 256 := fun j _ => by rw [hfa]; exact mac_lt _ _ _
      have hlbb : ∀ j, j < 32 → fb j < 256 := fun j _ => by rw [hfb]; exact mac_lt _ _ _
      have hlc : ∀ j, j < 32 → fc j < 256 := fun j _ => by rw [hfc]; exact mac_lt _ _ _
      refine (Qg)<|(QD 0) ?_
      refine e_as (show _ = SV has ky nu cy hy from rfl) ?_
      refine (Qm) ?_
      refine e_callS rfl rfl (Un 11) (seen_app seen_gl (seenM 3 rfl ⟨[], trivial⟩)) (hKy oz2_1.toList has ky nu cy hy _ x hf0_1 hf0_2 hf0_3 ((own_bytes ho2_1).mono (fun x h => List.mem_append_right _ h)) hxb (by omega)) rfl rfl ?_
      refine e_as (show SV true (kB cy x) 0 (kA cy x) hy = SV true fb 0 fa hy by rw [hfa, hfb]) ?_
      refine (QD 1) ?_
      refine e_as (show _ = SV has ky nu cy hy from rfl) ?_
      refine (Qm) ?_
      refine e_callS rfl rfl (Un 11) (seen_app seen_gl (seenM 3 rfl ⟨[], trivial⟩)) (hKy oz2_1.toList has ky nu cy hy _ x hf0_1 hf0_2 hf0_3 ((own_bytes ho2_1).mono (fun x h => List.mem_append_right _ h)) hxb (by omega)) rfl rfl ?_
      refine e_as (show SV true (kB cy x) 0 (kA cy x) hy = SV true fb 0 fa hy by rw [hfa, hfb]) ?_
      refine e_storeA (i := 0) (Uz 28) rfl rfl (arrv_size _ _) (cells_one ⟨fun _ => rfl, fun _ => rfl, fun _ => rfl, fun _ => rfl, fun _ => rfl, trivial⟩) rfl cells_sz (.inl rfl) ?_
      refine e_storeA (i := 1) (Uz 28) rfl rfl (arrv_size _ _) (cells_one ⟨fun _ => rfl, fun _ => rfl, fun _ => rfl, fun _ => rfl, fun _ => rfl, trivial⟩) rfl cells_sz (.inl rfl) ?_
      refine Qn<|Qs<|Qp<|(QD 0)<|(QD 1) ?_
      refine e_neSame sam28 eqg28 rfl rfl rfl ?_
      refine Qn ?_
      refine e_cond rfl ?_ ?_
      · intro hc2
        exact absurd hc2 (by decide)
      · intro hc2
        refine Qk<|Qp<|(Q2 1)<|(Qm)<|Qn ?_
        refine QzL ⟨i + 1, _, _, _, _, _, rfl, rfl, rfl, by omega, (by first | exact hf0_1 | exact hlbb | exact hlc), (by first | exact hf0_2 | exact hla), (by first | exact hf0_3 | exact hlg), (by first | exact hf0_4 | rfl), by omega⟩ ⟨rfl, rfl, rfl, rfl, rfl, trivial⟩ ⟨rfl, rfl, trivial⟩ ?_
        omega
    · intro hc1
      have hc1 := of_decide_eq_false hc1
      refine Qs<|Qp<|(Qc)<|(Qa)<|Qn ?_
      refine e_cond rfl ?_ ?_
      · intro hc3
        obtain ⟨g, hg⟩ : ∃ g, g = hx hy x := ⟨_, rfl⟩
        have hlg : ∀ j, j < 32 → g j < 256 := fun j _ => by rw [hg]; exact hx_lt _ _ _
        refine (Qg)<|(QD 0) ?_
        refine e_as (show _ = SV has ky nu cy hy from rfl) ?_
        refine (Qm) ?_
        refine e_callS rfl rfl (Un 12) (seen_app seen_gl (seenM 3 rfl ⟨[], trivial⟩)) (hHs oz2_1.toList has ky nu cy hy _ x hf0_1 hf0_2 hf0_3 ((own_bytes ho2_1).mono (fun x h => List.mem_append_right _ h)) hxb (by omega)) rfl rfl ?_
        refine e_as (show SV has ky nu cy (hx hy x) = SV has ky nu cy g by rw [hg]) ?_
        refine (QD 1) ?_
        refine e_as (show _ = SV has ky nu cy hy from rfl) ?_
        refine (Qm) ?_
        refine e_callS rfl rfl (Un 12) (seen_app seen_gl (seenM 3 rfl ⟨[], trivial⟩)) (hHs oz2_1.toList has ky nu cy hy _ x hf0_1 hf0_2 hf0_3 ((own_bytes ho2_1).mono (fun x h => List.mem_append_right _ h)) hxb (by omega)) rfl rfl ?_
        refine e_as (show SV has ky nu cy (hx hy x) = SV has ky nu cy g by rw [hg]) ?_
        refine e_storeA (i := 0) (Uz 28) rfl rfl (arrv_size _ _) (cells_one ⟨fun _ => rfl, fun _ => rfl, fun _ => rfl, fun _ => rfl, fun _ => rfl, trivial⟩) rfl cells_sz (.inl rfl) ?_
        refine e_storeA (i := 1) (Uz 28) rfl rfl (arrv_size _ _) (cells_one ⟨fun _ => rfl, fun _ => rfl, fun _ => rfl, fun _ => rfl, fun _ => rfl, trivial⟩) rfl cells_sz (.inl rfl) ?_
        refine Qn<|Qs<|Qp<|(QD 0)<|(QD 1) ?_
        refine e_neSame sam28 eqg28 rfl rfl rfl ?_
        refine Qn ?_
        refine e_cond rfl ?_ ?_
        · intro hc2
          exact absurd hc2 (by decide)
        · intro hc2
          refine Qk<|Qp<|(Q2 1)<|(Qm)<|Qn ?_
          refine QzL ⟨i + 1, _, _, _, _, _, rfl, rfl, rfl, by omega, (by first | exact hf0_1 | exact hlbb | exact hlc), (by first | exact hf0_2 | exact hla), (by first | exact hf0_3 | exact hlg), (by first | exact hf0_4 | rfl), by omega⟩ ⟨rfl, rfl, rfl, rfl, rfl, trivial⟩ ⟨rfl, rfl, trivial⟩ ?_
          omega
      · intro hc3
        have hc3 := of_decide_eq_false hc3
        refine Qs<|Qp<|(Qc)<|(Qa)<|Qn ?_
        refine e_cond rfl ?_ ?_
        · intro hc4
          obtain ⟨fa, hfa⟩ : ∃ fa, fa = kA cy x := ⟨_, rfl⟩
          obtain ⟨fb, hfb⟩ : ∃ fb, fb = kB cy x := ⟨_, rfl⟩
          obtain ⟨fc, hfc⟩ : ∃ fc, fc = kC cy x := ⟨_, rfl⟩
          have hla : ∀ j, j < 32 → fa j < 256 := fun j _ => by rw [hfa]; exact mac_lt _ _ _
          have hlbb : ∀ j, j < 32 → fb j < 256 := fun j _ => by rw [hfb]; exact mac_lt _ _ _
          have hlc : ∀ j, j < 32 → fc j < 256 := fun j _ => by rw [hfc]; exact mac_lt _ _ _
          obtain ⟨g, hg⟩ : ∃ g, g = hx hy ((List.range 32).map (kB cy x)) := ⟨_, rfl⟩
          have hlg : ∀ j, j < 32 → g j < 256 := fun j _ => by rw [hg]; exact hx_lt _ _ _
          refine (Qg)<|(QD 0) ?_
          refine e_as (show _ = SV has ky nu cy hy from rfl) ?_
          refine (Qm) ?_
          refine e_callS rfl rfl (Un 13) (seen_app seen_gl (seenM 3 rfl ⟨[], trivial⟩)) (hBt oz2_1.toList has ky nu cy hy _ x hf0_1 hf0_2 hf0_3 ((own_bytes ho2_1).mono (fun x h => List.mem_append_right _ h)) hxb (by omega)) rfl rfl ?_
          refine e_as (show SV true (kC cy x) 0 (kA cy x) (hx hy ((List.range 32).map (kB cy x))) = SV true fc 0 fa g by rw [hfa, hfc, hg]) ?_
          refine (QD 1) ?_
          refine e_as (show _ = SV has ky nu cy hy from rfl) ?_
          refine (Qm) ?_
          refine e_callS rfl rfl (Un 13) (seen_app seen_gl (seenM 3 rfl ⟨[], trivial⟩)) (hBt oz2_1.toList has ky nu cy hy _ x hf0_1 hf0_2 hf0_3 ((own_bytes ho2_1).mono (fun x h => List.mem_append_right _ h)) hxb (by omega)) rfl rfl ?_
          refine e_as (show SV true (kC cy x) 0 (kA cy x) (hx hy ((List.range 32).map (kB cy x))) = SV true fc 0 fa g by rw [hfa, hfc, hg]) ?_
          refine e_storeA (i := 0) (Uz 28) rfl rfl (arrv_size _ _) (cells_one ⟨fun _ => rfl, fun _ => rfl, fun _ => rfl, fun _ => rfl, fun _ => rfl, trivial⟩) rfl cells_sz (.inl rfl) ?_
          refine e_storeA (i := 1) (Uz 28) rfl rfl (arrv_size _ _) (cells_one ⟨fun _ => rfl, fun _ => rfl, fun _ => rfl, fun _ => rfl, fun _ => rfl, trivial⟩) rfl cells_sz (.inl rfl) ?_
          refine Qn<|Qs<|Qp<|(QD 0)<|(QD 1) ?_
          refine e_neSame sam28 eqg28 rfl rfl rfl ?_
          refine Qn ?_
          refine e_cond rfl ?_ ?_
          · intro hc2
            exact absurd hc2 (by decide)
          · intro hc2
            refine Qk<|Qp<|(Q2 1)<|(Qm)<|Qn ?_
            refine QzL ⟨i + 1, _, _, _, _, _, rfl, rfl, rfl, by omega, (by first | exact hf0_1 | exact hlbb | exact hlc), (by first | exact hf0_2 | exact hla), (by first | exact hf0_3 | exact hlg), (by first | exact hf0_4 | rfl), by omega⟩ ⟨rfl, rfl, rfl, rfl, rfl, trivial⟩ ⟨rfl, rfl, trivial⟩ ?_
            omega
        · intro hc4
          have hc4 := of_decide_eq_false hc4
          refine Qs ?_
          cases has
          · skip
            refine QR ⟨[], 4, [], none⟩<|(QD 0) ?_
            refine e_as (show _ = SV false ky nu cy hy from rfl) ?_
            refine (Qm) ?_
            have hC1 := hPs oz2_1.toList ky nu cy hy _ x hf0_4 hf0_3 ((own_bytes ho2_1).mono (fun x h => List.mem_append_right _ h)) hxb (by omega); obtain ⟨g, hg⟩ : ∃ g, g = hx hy x := ⟨_, rfl⟩; have hlg : ∀ j, j < 32 → g j < 256 := fun j _ => (by rw [hg]; exact hx_lt _ _ _); rw [← hg] at hC1
            refine e_callN 4 (fun v => .tuple #[SV false ky nu cy g, v, ii 0]) rfl rfl (Un 17) (seen_app seen_gl (seenM 3 rfl ⟨[], trivial⟩)) hC1 (by simp only [maxLen]; omega) (by rw [List.length_map, Nat.mul_one]) rfl rfl fun v6_2 oz6_2 ho6_2 => ?_
            refine (Qm)<|(Qx)<|(Qx)<|(Qx)<|(QH 5) fun r6=>?_
            refine e_storeA (i := 5) (Uz 28) rfl rfl (arrv_size _ _) (cells_one ⟨fun _ => rfl, fun _ => rfl, fun _ => rfl, fun _ => rfl, fun _ => rfl, trivial⟩) rfl cells_sz (.inl rfl) ?_
            refine (Qa)<|(Qa)<|Qn<|Qs<|QR ⟨[], 4, [], none⟩<|(QD 1) ?_
            refine e_as (show _ = SV false ky nu cy hy from rfl) ?_
            refine (Qm) ?_
            have hC2 := hPo oz6_2.toList ky nu cy hy _ x hf0_4 hf0_3 ((own_bytes ho6_2).mono (fun x h => List.mem_append_right _ h)) hxb (by omega); rw [← hg] at hC2
            refine e_callN 6 (fun v => .tuple #[SV false ky nu cy g, v, ii 0]) rfl rfl (Un 18) (seen_app seen_gl (seenM 4 rfl ⟨[], trivial⟩)) hC2 (by simp only [maxLen]; omega) (by rw [List.length_map, Nat.mul_one]) rfl rfl fun v6_3 oz6_3 ho6_3 => ?_
            refine (Qm)<|(Qx)<|(Qx)<|(Qx)<|(QH 7) fun r8=>?_
            refine e_storeA (i := 7) (Uz 28) rfl rfl (arrv_size _ _) (cells_one ⟨fun _ => rfl, fun _ => rfl, fun _ => rfl, fun _ => rfl, fun _ => rfl, trivial⟩) rfl cells_sz (.inl rfl) ?_
            refine (Qa)<|(Qa)<|Qn<|Qs<|Qs<|Qp<|(Qm)<|(QN) ?_
            refine e_as (congrArg Value.bool (decide_eq_false (fun h => h rfl))) ?_
            refine (Qm)<|(Qy)<|(Qm)<|(Qy)<|(QN) ?_
            refine e_as (congrArg Value.bool (decide_eq_false (fun h => h rfl))) ?_
            refine (QF)<|(Qm)<|(Qy)<|(Qm)<|(Qy) ?_
            refine e_conv_strV (l := x) (own_bytes ho6_3) (seenM 6 rfl ⟨[], trivial⟩) (Uu 33) (Uu 5) (Uu 9) rfl rfl rfl ?_
            refine (Qy)<|(Qm)<|(Qy) ?_
            refine e_conv_strV (l := x) (own_bytes ho2_1) (seenM 3 rfl ⟨[], trivial⟩) (Uu 33) (Uu 5) (Uu 9) rfl rfl rfl ?_
            refine (Qy) ?_
            refine e_neStr rfl rfl rfl hxb hxb ?_
            refine e_as (congrArg Value.bool (decide_eq_false (fun h => h rfl))) ?_
            refine (QF)<|Qn ?_
            refine e_cond rfl ?_ ?_
            · intro hc5
              exact absurd hc5 (by decide)
            · intro hc5
              refine Qk<|(Qq ⟨[r1, r2], 1, [], none⟩) ?_
              refine e_loadA (i := 5) (Uu 28) rfl (Uz 28) rfl rfl (arrv_size _ _) rfl ⟨[0, 1], rfl, rfl, rfl, rfl, trivial⟩ ?_
              refine e_loadA (i := 7) (Uu 28) rfl (Uz 28) rfl rfl (arrv_size _ _) rfl ⟨[0, 1], rfl, rfl, rfl, rfl, trivial⟩ ?_
              refine e_storeA (i := 0) (Uz 28) rfl rfl (arrv_size _ _) (cells_one ⟨fun _ => rfl, fun _ => rfl, fun _ => rfl, fun _ => rfl, fun _ => rfl, trivial⟩) rfl cells_sz (.inr (by simp)) ?_
              refine e_storeA (i := 1) (Uz 28) rfl rfl (arrv_size _ _) (cells_one ⟨fun _ => rfl, fun _ => rfl, fun _ => rfl, fun _ => rfl, fun _ => rfl, trivial⟩) rfl cells_sz (.inr (by simp)) ?_
              refine Qn<|Qs<|Qp<|(QD 0)<|(QD 1) ?_
              refine e_neSame sam28 eqg28 rfl rfl rfl ?_
              refine Qn ?_
              refine e_cond rfl ?_ ?_
              · intro hc2
                exact absurd hc2 (by decide)
              · intro hc2
                refine Qk<|Qp<|(Q2 1)<|(Qm)<|Qn ?_
                refine QzL ⟨i + 1, _, _, _, _, _, rfl, rfl, rfl, by omega, (by first | exact hf0_1 | exact hlbb | exact hlc), (by first | exact hf0_2 | exact hla), (by first | exact hf0_3 | exact hlg), (by first | exact hf0_4 | rfl), by omega⟩ ⟨rfl, rfl, rfl, rfl, rfl, trivial⟩ ⟨rfl, rfl, trivial⟩ ?_
                omega
          · skip
            refine QR ⟨[], 4, [], none⟩<|(QD 0) ?_
            refine e_as (show _ = SV true ky nu cy hy from rfl) ?_
            refine (Qm) ?_
            have hC1 := hSo oz2_1.toList ky nu cy hy _ x hf0_1 hf0_3 (by omega) ((own_bytes ho2_1).mono (fun x h => List.mem_append_right _ h)) hxb (by omega); obtain ⟨ou, hou⟩ : ∃ ou, ou = (sealL ky (nonU nu) ((List.range 32).map hy) x) := ⟨_, rfl⟩; have hop : opensL ky (nonU nu) ((List.range 32).map hy) ou := (by rw [hou]; exact seal_opens _ _ _ _); have hbk : openL ky (nonU nu) ou = x := (by rw [hou]; exact seal_open ky (nonU nu) ((List.range 32).map hy) hxb); have hol : ou.length = x.length + 16 := (by rw [hou, sealL_len]); have hob : ∀ b ∈ ou, b < 256 := (by rw [hou]; exact sealL_lt _ _ _ _); rw [← hou] at hC1; obtain ⟨g, hg⟩ : ∃ g, g = hx hy ou := ⟨_, rfl⟩; have hlg : ∀ j, j < 32 → g j < 256 := fun j _ => (by rw [hg]; exact hx_lt _ _ _); rw [← hg] at hC1
            refine e_callN 4 (fun v => .tuple #[SV true ky (nu + 1) cy g, v, ii 0]) rfl rfl (Un 17) (seen_app seen_gl (seenM 3 rfl ⟨[], trivial⟩)) hC1 (by simp only [maxLen]; omega) (by rw [List.length_map, Nat.mul_one]) rfl rfl fun v6_2 oz6_2 ho6_2 => ?_
            refine (Qm)<|(Qx)<|(Qx)<|(Qx)<|(QH 5) fun r6=>?_
            refine e_storeA (i := 5) (Uz 28) rfl rfl (arrv_size _ _) (cells_one ⟨fun _ => rfl, fun _ => rfl, fun _ => rfl, fun _ => rfl, fun _ => rfl, trivial⟩) rfl cells_sz (.inl rfl) ?_
            refine (Qa)<|(Qa)<|Qn<|Qs<|QR ⟨[], 4, [], none⟩<|(QD 1) ?_
            refine e_as (show _ = SV true ky nu cy hy from rfl) ?_
            refine (Qm) ?_
            have hC2 := hOo oz6_2.toList ky nu cy hy _ ou hf0_1 hf0_3 (by omega) ((own_bytes ho6_2).mono (fun x h => List.mem_append_right _ h)) hob (by omega) (by omega) hop; rw [← hg, hbk] at hC2
            refine e_callN 6 (fun v => .tuple #[SV true ky (nu + 1) cy g, v, ii 0]) rfl rfl (Un 18) (seen_app seen_gl (seenM 4 rfl ⟨[], trivial⟩)) hC2 (by simp only [maxLen]; omega) (by rw [List.length_map, Nat.mul_one]) rfl rfl fun v6_3 oz6_3 ho6_3 => ?_
            refine (Qm)<|(Qx)<|(Qx)<|(Qx)<|(QH 7) fun r8=>?_
            refine e_storeA (i := 7) (Uz 28) rfl rfl (arrv_size _ _) (cells_one ⟨fun _ => rfl, fun _ => rfl, fun _ => rfl, fun _ => rfl, fun _ => rfl, trivial⟩) rfl cells_sz (.inl rfl) ?_
            refine (Qa)<|(Qa)<|Qn<|Qs<|Qs<|Qp<|(Qm)<|(QN) ?_
            refine e_as (congrArg Value.bool (decide_eq_false (fun h => h rfl))) ?_
            refine (Qm)<|(Qy)<|(Qm)<|(Qy)<|(QN) ?_
            refine e_as (congrArg Value.bool (decide_eq_false (fun h => h rfl))) ?_
            refine (QF)<|(Qm)<|(Qy)<|(Qm)<|(Qy) ?_
            refine e_conv_strV (l := x) (own_bytes ho6_3) (seenM 6 rfl ⟨[], trivial⟩) (Uu 33) (Uu 5) (Uu 9) rfl rfl rfl ?_
            refine (Qy)<|(Qm)<|(Qy) ?_
            refine e_conv_strV (l := x) (own_bytes ho2_1) (seenM 3 rfl ⟨[], trivial⟩) (Uu 33) (Uu 5) (Uu 9) rfl rfl rfl ?_
            refine (Qy) ?_
            refine e_neStr rfl rfl rfl hxb hxb ?_
            refine e_as (congrArg Value.bool (decide_eq_false (fun h => h rfl))) ?_
            refine (QF)<|Qn ?_
            refine e_cond rfl ?_ ?_
            · intro hc5
              exact absurd hc5 (by decide)
            · intro hc5
              refine Qk<|(Qq ⟨[r1, r2], 1, [], none⟩) ?_
              refine e_loadA (i := 5) (Uu 28) rfl (Uz 28) rfl rfl (arrv_size _ _) rfl ⟨[0, 1], rfl, rfl, rfl, rfl, trivial⟩ ?_
              refine e_loadA (i := 7) (Uu 28) rfl (Uz 28) rfl rfl (arrv_size _ _) rfl ⟨[0, 1], rfl, rfl, rfl, rfl, trivial⟩ ?_
              refine e_storeA (i := 0) (Uz 28) rfl rfl (arrv_size _ _) (cells_one ⟨fun _ => rfl, fun _ => rfl, fun _ => rfl, fun _ => rfl, fun _ => rfl, trivial⟩) rfl cells_sz (.inr (by simp)) ?_
              refine e_storeA (i := 1) (Uz 28) rfl rfl (arrv_size _ _) (cells_one ⟨fun _ => rfl, fun _ => rfl, fun _ => rfl, fun _ => rfl, fun _ => rfl, trivial⟩) rfl cells_sz (.inr (by simp)) ?_
              refine Qn<|Qs<|Qp<|(QD 0)<|(QD 1) ?_
              refine e_neSame sam28 eqg28 rfl rfl rfl ?_
              refine Qn ?_
              refine e_cond rfl ?_ ?_
              · intro hc2
                exact absurd hc2 (by decide)
              · intro hc2
                refine Qk<|Qp<|(Q2 1)<|(Qm)<|Qn ?_
                refine QzL ⟨i + 1, _, _, _, _, _, rfl, rfl, rfl, by omega, (by first | exact hf0_1 | exact hlbb | exact hlc), (by first | exact hf0_2 | exact hla), (by first | exact hf0_3 | exact hlg), (by first | exact hf0_4 | rfl), by omega⟩ ⟨rfl, rfl, rfl, rfl, rfl, trivial⟩ ⟨rfl, rfl, trivial⟩ ?_
                omega
  · intro hc0
    have hc0 := of_decide_eq_false hc0
    have hz0 : i = q.length := by omega
    obtain ⟨za, hza⟩ : ∃ za, za = kA cy [] := ⟨_, rfl⟩
    obtain ⟨zb, hzb⟩ : ∃ zb, zb = kB cy [] := ⟨_, rfl⟩
    refine Qe<|Qs<|(Qg)<|(QD 0) ?_
    refine e_as (show _ = SV has ky nu cy hy from rfl) ?_
    refine e_call rfl (Un 8) (hSp G has ky nu cy hy hf0_2) rfl rfl ?_
    refine e_as (show _ = Value.agg (cells 68 [pV (.bool true), pI .u8 32 za, pV (u 0), pV (.bool true), pI .u8 32 zb, pV (u 0)]) by rw [hza, hzb]) ?_
    refine (QD 1) ?_
    refine e_as (show _ = SV has ky nu cy hy from rfl) ?_
    refine e_call rfl (Un 8) (hSp G has ky nu cy hy hf0_2) rfl rfl ?_
    refine e_as (show _ = Value.agg (cells 68 [pV (.bool true), pI .u8 32 za, pV (u 0), pV (.bool true), pI .u8 32 zb, pV (u 0)]) by rw [hza, hzb]) ?_
    refine (QH 2) fun r3=>(QH 3) fun r4=>?_
    refine e_storeA (i := 2) (Uz 30) rfl rfl (arrv_size _ _) (cells_one ⟨fun _ => rfl, fun _ => rfl, fun _ => rfl, fun _ => rfl, fun _ => rfl, fun _ => rfl, trivial⟩) rfl cells_sz (.inl rfl) ?_
    refine e_storeA (i := 3) (Uz 30) rfl rfl (arrv_size _ _) (cells_one ⟨fun _ => rfl, fun _ => rfl, fun _ => rfl, fun _ => rfl, fun _ => rfl, fun _ => rfl, trivial⟩) rfl cells_sz (.inl rfl) ?_
    refine Qn<|Qs<|Qp<|(QD 2)<|(QD 3) ?_
    refine e_eqSame sam30 eqg30 rfl rfl rfl ?_
    refine (Qm)<|(Qy)<|(QA 0 0)<|(Qy)<|(Qf 0)<|(Qy)<|(QV 0 2)<|(QT)<|(Qm)<|(Qy)<|(QA 34 1)<|(Qy)<|(Qf 34)<|(Qy)<|(QV 3 2)<|(QT)<|(Qm)<|(Qy) ?_
    refine e_call rfl (Un 7) (hBg G [97] (by decide) (by decide)) rfl rfl ?_
    refine (Qy)<|(QJ 4)<|(Qy) ?_
    refine e_build (arr .u8 32 (fun j => [97].getD j 0)) (Ub 23 rfl) (Uu 23 rfl) (Uz 5 rfl) rfl (by kernel_rfl) rfl ?_
    refine (Qy) ?_
    refine e_eqA (Uu 23) (Uu 5) (Uz 5) eqg23 rfl rfl rfl ?_
    refine e_as (congrArg Value.bool (allEq_iff.2 (fun j _ => by unfold sbeg; rfl))) ?_
    refine (QT)<|(Qa)<|Qn<|Qr ?_
    exact ⟨_, rfl, .tmp rfl⟩
end Go.Proofs.YtbjaenjgahjikaaDoor
namespace Go.Proofs.YtbjaenjgahjikaaDoor
open Go Go.RowKit
variable {G : Mem}
set_option maxHeartbeats 2000000 in
theorem dused_bad (has : Bool) (k : Nat → Nat) (n : Nat) (va vt : Value) (vf : Value) (hok : okC has k n = false) : Fn Tryd.prog G 45 #[CV has k n, va, vt, vf] (.tuple #[CZ, nilS, ii 9]) := by
  refine Qf3 Tryd.func45 ?_
  refine Qs<|Qp<|(Qh 0) fun r1=>(QH 1) fun r2=>(Qa)<|(Qa)<|Qn<|Qs<|Qs<|Qp<|(QD 0) ?_
  refine e_call rfl (Un 62) (dchk8_fn has k n) rfl rfl ?_
  refine e_as (congrArg ii (show (if okC has k n = true then 0 else 9) = 9 by rw [hok]; rfl)) ?_
  refine (Qa)<|Qn<|Qs<|Qp<|(Qm)<|(QN)<|Qn ?_
  refine e_cond rfl ?_ ?_
  · intro hc0
    refine Qs<|Qp ?_
    refine e_buildS (cells 34 [pV (.bool false), pI .u8 32 (fun _ => 0), pV (.int .u64 0)]) (Ub 26 rfl) (Uu 26 rfl) pls26 rfl (by kernel_rfl) rfl ?_
    refine (Qm) ?_
    refine e_storeA (i := 1) (Uz 26) rfl rfl (arrv_size _ _) (cells_one ⟨fun _ => rfl, fun _ => rfl, fun _ => rfl, trivial⟩) rfl cells_sz (.inl rfl) ?_
    refine (Qa)<|(Qa)<|Qn<|Qr ?_
    exact ⟨_, _, _, rfl, .cell (i := 1) rfl rfl (Uu 26) rfl (Uz 26) (arrv_size _ _), .tmp rfl, .tmp rfl⟩
  · intro hc0
    exact absurd hc0 (by decide)
set_option maxHeartbeats 2000000 in
theorem dused_pbig (k : Nat → Nat) (n : Nat) (va vt : Value) (vf : Value) (tx : List Nat) (hvt : Sh G vt tx) (hok : okC false k n = true) (hl : 800 < tx.length) : Fn Tryd.prog G 45 #[CV false k n, va, vt, vf] (.tuple #[CZ, nilS, ii 1]) := by
  refine Qf3 Tryd.func45 ?_
  refine Qs<|Qp<|(Qh 0) fun r1=>(QH 1) fun r2=>(Qa)<|(Qa)<|Qn<|Qs<|Qs<|Qp<|(QD 0) ?_
  refine e_call rfl (Un 62) (dchk8_fn false k n) rfl rfl ?_
  refine e_as (congrArg ii (show (if okC false k n = true then 0 else 9) = 0 by rw [hok]; rfl)) ?_
  refine (Qa)<|Qn<|Qs<|Qp<|(Qm)<|(QN)<|Qn ?_
  refine e_cond rfl ?_ ?_
  · intro hc0
    exact absurd hc0 (by decide)
  · intro hc0
    refine Qk<|Qs<|Qs<|Qp<|(Qf 0)<|(QV 0 0)<|(Q0)<|Qn ?_
    refine e_cond rfl ?_ ?_
    · intro hc1
      refine Qs<|Qp<|(QD 0)<|(Qm) ?_
      refine e_call rfl (Un 63) (dplain_big k n vt tx hvt hl) rfl rfl ?_
      refine (Qx)<|(Qx)<|(Qx) ?_
      refine e_storeA (i := 1) (Uz 26) rfl rfl (arrv_size _ _) (cells_one ⟨fun _ => rfl, fun _ => rfl, fun _ => rfl, trivial⟩) rfl cells_sz (.inl rfl) ?_
      refine (Qa)<|(Qa)<|Qn<|Qr ?_
      exact ⟨_, _, _, rfl, .cell (i := 1) rfl rfl (Uu 26) rfl (Uz 26) (arrv_size _ _), .tmp rfl, .tmp rfl⟩
    · intro hc1
      exact absurd hc1 (by decide)
set_option maxHeartbeats 2000000 in
theorem dused_plain (k : Nat → Nat) (n : Nat) (va vt : Value) (vf : Value) (tx : List Nat) (hvt : Sh G vt tx) (hok : okC false k n = true) (hl : tx.length ≤ 800) : Fx Tryd.prog G [] 45 #[CV false k n, va, vt, vf] (fun v l1 nw => l1 = [] ∧ ∃ v', v = .tuple #[CV false k n, v', ii 0] ∧ OwnS 5 1 v' tx.length (tx.map by8) nw) := by
  refine QfO Tryd.func45 ?_
  refine Qs<|Qp<|(Qh 0) fun r1=>(QH 1) fun r2=>(Qa)<|(Qa)<|Qn<|Qs<|Qs<|Qp<|(QD 0) ?_
  refine e_call rfl (Un 62) (dchk8_fn false k n) rfl rfl ?_
  refine e_as (congrArg ii (show (if okC false k n = true then 0 else 9) = 0 by rw [hok]; rfl)) ?_
  refine (Qa)<|Qn<|Qs<|Qp<|(Qm)<|(QN)<|Qn ?_
  refine e_cond rfl ?_ ?_
  · intro hc0
    exact absurd hc0 (by decide)
  · intro hc0
    refine Qk<|Qs<|Qs<|Qp<|(Qf 0)<|(QV 0 0)<|(Q0)<|Qn ?_
    refine e_cond rfl ?_ ?_
    · intro hc1
      refine Qs<|QR ⟨[], 4, [], none⟩<|(QD 0)<|(Qm) ?_
      refine e_callN 2 (fun v => .tuple #[CV false k n, v, ii 0]) rfl rfl (Un 63) seenG (dplain_ok k n vt tx hvt hl) (by simp only [maxLen]; omega) (by rw [List.length_map, Nat.mul_one]) rfl rfl fun v3_1 oz3_1 ho3_1 => ?_
      refine (Qx)<|(Qx)<|(Qx) ?_
      refine e_storeA (i := 1) (Uz 26) rfl rfl (arrv_size _ _) (cells_one ⟨fun _ => rfl, fun _ => rfl, fun _ => rfl, trivial⟩) rfl cells_sz (.inl rfl) ?_
      refine (Qa)<|(Qa)<|Qn<|Qr ?_
      exact ⟨_, _, _, _, _, 2, rfl, .cell (i := 1) rfl rfl (Uu 26) rfl (Uz 26) (arrv_size _ _), .tmp rfl, .tmp rfl, ho3_1, rfl⟩
    · intro hc1
      exact absurd hc1 (by decide)
set_option maxHeartbeats 2000000 in
theorem dused_over (k : Nat → Nat) (n : Nat) (va vt : Value) (vf : Value) (hn : n = 18446744073709551615) : Fn Tryd.prog G 45 #[CV true k n, va, vt, vf] (.tuple #[CZ, nilS, ii 11]) := by
  have hok : okC true k n = true := rfl
  refine Qf3 Tryd.func45 ?_
  refine Qs<|Qp<|(Qh 0) fun r1=>(QH 1) fun r2=>(Qa)<|(Qa)<|Qn<|Qs<|Qs<|Qp<|(QD 0) ?_
  refine e_call rfl (Un 62) (dchk8_fn true k n) rfl rfl ?_
  refine e_as (congrArg ii (show (if okC true k n = true then 0 else 9) = 0 by rw [hok]; rfl)) ?_
  refine (Qa)<|Qn<|Qs<|Qp<|(Qm)<|(QN)<|Qn ?_
  refine e_cond rfl ?_ ?_
  · intro hc0
    exact absurd hc0 (by decide)
  · intro hc0
    refine Qk<|Qs<|Qs<|Qp<|(Qf 0)<|(QV 0 0)<|(Q0)<|Qn ?_
    refine e_cond rfl ?_ ?_
    · intro hc1
      exact absurd hc1 (by decide)
    · intro hc1
      refine Qk<|Qs<|Qs<|Qp<|(Qf 33)<|(QV 2 0)<|(Qc) ?_
      refine e_as (congrArg Value.bool (decide_eq_true (by rw [hn]; decide))) ?_
      refine Qn ?_
      refine e_cond rfl ?_ ?_
      · intro hc2
        refine Qs<|Qp ?_
        refine e_buildS (cells 34 [pV (.bool false), pI .u8 32 (fun _ => 0), pV (.int .u64 0)]) (Ub 26 rfl) (Uu 26 rfl) pls26 rfl (by kernel_rfl) rfl ?_
        refine e_storeA (i := 1) (Uz 26) rfl rfl (arrv_size _ _) (cells_one ⟨fun _ => rfl, fun _ => rfl, fun _ => rfl, trivial⟩) rfl cells_sz (.inl rfl) ?_
        refine (Qa)<|(Qa)<|Qn<|Qr ?_
        exact ⟨_, _, _, rfl, .cell (i := 1) rfl rfl (Uu 26) rfl (Uz 26) (arrv_size _ _), .tmp rfl, .tmp rfl⟩
      · intro hc2
        exact absurd hc2 (by decide)
set_option maxHeartbeats 2000000 in
theorem dused_err_open (k : Nat → Nat) (n : Nat) (va vt : Value) (hn : n < 18446744073709551615) (e : Nat) (he : e ≠ 0) (hE : Fn Tryd.prog G 47 #[.agg (arr .u8 32 k), .agg (arr .u8 12 (nonU n)), va, vt] (.tuple #[nilS, ii e])) : Fn Tryd.prog G 45 #[CV true k n, va, vt, .func (.func 47) #[] #[]] (.tuple #[CZ, nilS, ii e]) := by
  have hok : okC true k n = true := rfl
  refine Qf3 Tryd.func45 ?_
  refine Qs<|Qp<|(Qh 0) fun r1=>(QH 1) fun r2=>(Qa)<|(Qa)<|Qn<|Qs<|Qs<|Qp<|(QD 0) ?_
  refine e_call rfl (Un 62) (dchk8_fn true k n) rfl rfl ?_
  refine e_as (congrArg ii (show (if okC true k n = true then 0 else 9) = 0 by rw [hok]; rfl)) ?_
  refine (Qa)<|Qn<|Qs<|Qp<|(Qm)<|(QN)<|Qn ?_
  refine e_cond rfl ?_ ?_
  · intro hc0
    exact absurd hc0 (by decide)
  · intro hc0
    refine Qk<|Qs<|Qs<|Qp<|(Qf 0)<|(QV 0 0)<|(Q0)<|Qn ?_
    refine e_cond rfl ?_ ?_
    · intro hc1
      exact absurd hc1 (by decide)
    · intro hc1
      refine Qk<|Qs<|Qs<|Qp<|(Qf 33)<|(QV 2 0)<|(Qc)<|(Qaf)<|Qn ?_
      refine e_cond rfl ?_ ?_
      · intro hc2
        exact absurd hc2 (by decide)
      · intro hc2
        refine Qk<|Qs<|(Qg)<|(Qm)<|(Qf 1)<|(Qv 1 0)<|(Qf 33)<|(QV 2 0) ?_
        refine e_call rfl (Un 64) (dnonce_fn n) rfl rfl ?_
        refine (Qm)<|(Qm) ?_
        refine e_callS rfl rfl (Un 47) seenG hE rfl rfl ?_
        refine (Qm)<|(Qx)<|(Qx)<|(Qa)<|(Qa)<|Qn<|Qs<|Qs<|Qp<|(Qm)<|(QN)<|(Qat)<|Qn ?_
        refine e_cond rfl ?_ ?_
        · intro hc3
          refine Qs<|Qp ?_
          refine e_buildS (cells 34 [pV (.bool false), pI .u8 32 (fun _ => 0), pV (.int .u64 0)]) (Ub 26 rfl) (Uu 26 rfl) pls26 rfl (by kernel_rfl) rfl ?_
          refine (Qm) ?_
          refine e_storeA (i := 1) (Uz 26) rfl rfl (arrv_size _ _) (cells_one ⟨fun _ => rfl, fun _ => rfl, fun _ => rfl, trivial⟩) rfl cells_sz (.inl rfl) ?_
          refine (Qa)<|(Qa)<|Qn<|Qr ?_
          exact ⟨_, _, _, rfl, .cell (i := 1) rfl rfl (Uu 26) rfl (Uz 26) (arrv_size _ _), .tmp rfl, .tmp rfl⟩
        · intro hc3
          exact absurd hc3 (by decide)
set_option maxHeartbeats 2000000 in
theorem dused_ok_open (k : Nat → Nat) (n : Nat) (va vt : Value) (hn : n < 18446744073709551615) (out : List Nat) (hm : out.length ≤ maxLen) (hE : Fx Tryd.prog G [] 47 #[.agg (arr .u8 32 k), .agg (arr .u8 12 (nonU n)), va, vt] (fun v l1 nw => l1 = [] ∧ ∃ v', v = .tuple #[v', ii 0] ∧ OwnS 5 1 v' out.length (out.map by8) nw)) : Fx Tryd.prog G [] 45 #[CV true k n, va, vt, .func (.func 47) #[] #[]] (fun v l1 nw => l1 = [] ∧ ∃ v', v = .tuple #[CV true k (n + 1), v', ii 0] ∧ OwnS 5 1 v' out.length (out.map by8) nw) := by
  have hok : okC true k n = true := rfl
  refine QfO Tryd.func45 ?_
  refine Qs<|Qp<|(Qh 0) fun r1=>(QH 1) fun r2=>(Qa)<|(Qa)<|Qn<|Qs<|Qs<|Qp<|(QD 0) ?_
  refine e_call rfl (Un 62) (dchk8_fn true k n) rfl rfl ?_
  refine e_as (congrArg ii (show (if okC true k n = true then 0 else 9) = 0 by rw [hok]; rfl)) ?_
  refine (Qa)<|Qn<|Qs<|Qp<|(Qm)<|(QN)<|Qn ?_
  refine e_cond rfl ?_ ?_
  · intro hc0
    exact absurd hc0 (by decide)
  · intro hc0
    refine Qk<|Qs<|Qs<|Qp<|(Qf 0)<|(QV 0 0)<|(Q0)<|Qn ?_
    refine e_cond rfl ?_ ?_
    · intro hc1
      exact absurd hc1 (by decide)
    · intro hc1
      refine Qk<|Qs<|Qs<|Qp<|(Qf 33)<|(QV 2 0)<|(Qc)<|(Qaf)<|Qn ?_
      refine e_cond rfl ?_ ?_
      · intro hc2
        exact absurd hc2 (by decide)
      · intro hc2
        refine Qk<|Qs<|(Qq ⟨[], 4, [], none⟩)<|(Qm)<|(Qf 1)<|(Qv 1 0)<|(Qf 33)<|(QV 2 0) ?_
        refine e_call rfl (Un 64) (dnonce_fn n) rfl rfl ?_
        refine (Qm)<|(Qm) ?_
        refine e_callN 2 (fun v => .tuple #[v, ii 0]) rfl rfl (Un 47) seenG hE hm (by rw [List.length_map, Nat.mul_one]) rfl rfl fun v4_1 oz4_1 ho4_1 => ?_
        refine (Qm)<|(Qx)<|(Qx)<|(Qa)<|(Qa)<|Qn<|Qs<|Qs<|Qp<|(Qm)<|(QN) ?_
        refine e_as (congrArg Value.bool (decide_eq_false (fun h => h rfl))) ?_
        refine Qn ?_
        refine e_cond rfl ?_ ?_
        · intro hc3
          exact absurd hc3 (by decide)
        · intro hc3
          refine Qk<|Qs<|Qp<|(Qf 33)<|(QV 2 0) ?_
          refine e_add_u (q := 1) rfl rfl rfl  ?_
          refine e_as (congrArg u (Nat.mod_eq_of_lt (show n + 1 < 18446744073709551616 by omega))) ?_
          refine (Qf 33) ?_
          refine e_stV (i := 0) 2 (Uz 24) rfl rfl rfl rfl rfl (by decide) (.inl rfl) ?_
          refine Qn<|Qs<|Qp<|(QD 0) ?_
          refine e_as (show _ = CV true k (n + 1) from rfl) ?_
          refine (Qm) ?_
          refine e_storeA (i := 1) (Uz 26) rfl rfl (arrv_size _ _) (cells_one ⟨fun _ => rfl, fun _ => rfl, fun _ => rfl, trivial⟩) rfl cells_sz (.inl rfl) ?_
          refine (Qa)<|(Qa)<|Qn<|Qr ?_
          exact ⟨_, _, _, _, _, 2, rfl, .cell (i := 1) rfl rfl (Uu 26) rfl (Uz 26) (arrv_size _ _), .tmp rfl, .tmp rfl, ho4_1, rfl⟩
set_option maxHeartbeats 2000000 in
theorem dused_err_seal (k : Nat → Nat) (n : Nat) (va vt : Value) (hn : n < 18446744073709551615) (e : Nat) (he : e ≠ 0) (hE : Fn Tryd.prog G 46 #[.agg (arr .u8 32 k), .agg (arr .u8 12 (nonU n)), va, vt] (.tuple #[nilS, ii e])) : Fn Tryd.prog G 45 #[CV true k n, va, vt, .func (.func 46) #[] #[]] (.tuple #[CZ, nilS, ii e]) := by
  have hok : okC true k n = true := rfl
  refine Qf3 Tryd.func45 ?_
  refine Qs<|Qp<|(Qh 0) fun r1=>(QH 1) fun r2=>(Qa)<|(Qa)<|Qn<|Qs<|Qs<|Qp<|(QD 0) ?_
  refine e_call rfl (Un 62) (dchk8_fn true k n) rfl rfl ?_
  refine e_as (congrArg ii (show (if okC true k n = true then 0 else 9) = 0 by rw [hok]; rfl)) ?_
  refine (Qa)<|Qn<|Qs<|Qp<|(Qm)<|(QN)<|Qn ?_
  refine e_cond rfl ?_ ?_
  · intro hc0
    exact absurd hc0 (by decide)
  · intro hc0
    refine Qk<|Qs<|Qs<|Qp<|(Qf 0)<|(QV 0 0)<|(Q0)<|Qn ?_
    refine e_cond rfl ?_ ?_
    · intro hc1
      exact absurd hc1 (by decide)
    · intro hc1
      refine Qk<|Qs<|Qs<|Qp<|(Qf 33)<|(QV 2 0)<|(Qc)<|(Qaf)<|Qn ?_
      refine e_cond rfl ?_ ?_
      · intro hc2
        exact absurd hc2 (by decide)
      · intro hc2
        refine Qk<|Qs<|(Qg)<|(Qm)<|(Qf 1)<|(Qv 1 0)<|(Qf 33)<|(QV 2 0) ?_
        refine e_call rfl (Un 64) (dnonce_fn n) rfl rfl ?_
        refine (Qm)<|(Qm) ?_
        refine e_callS rfl rfl (Un 46) seenG hE rfl rfl ?_
        refine (Qm)<|(Qx)<|(Qx)<|(Qa)<|(Qa)<|Qn<|Qs<|Qs<|Qp<|(Qm)<|(QN)<|(Qat)<|Qn ?_
        refine e_cond rfl ?_ ?_
        · intro hc3
          refine Qs<|Qp ?_
          refine e_buildS (cells 34 [pV (.bool false), pI .u8 32 (fun _ => 0), pV (.int .u64 0)]) (Ub 26 rfl) (Uu 26 rfl) pls26 rfl (by kernel_rfl) rfl ?_
          refine (Qm) ?_
          refine e_storeA (i := 1) (Uz 26) rfl rfl (arrv_size _ _) (cells_one ⟨fun _ => rfl, fun _ => rfl, fun _ => rfl, trivial⟩) rfl cells_sz (.inl rfl) ?_
          refine (Qa)<|(Qa)<|Qn<|Qr ?_
          exact ⟨_, _, _, rfl, .cell (i := 1) rfl rfl (Uu 26) rfl (Uz 26) (arrv_size _ _), .tmp rfl, .tmp rfl⟩
        · intro hc3
          exact absurd hc3 (by decide)
set_option maxHeartbeats 2000000 in
theorem dused_ok_seal (k : Nat → Nat) (n : Nat) (va vt : Value) (hn : n < 18446744073709551615) (out : List Nat) (hm : out.length ≤ maxLen) (hE : Fx Tryd.prog G [] 46 #[.agg (arr .u8 32 k), .agg (arr .u8 12 (nonU n)), va, vt] (fun v l1 nw => l1 = [] ∧ ∃ v', v = .tuple #[v', ii 0] ∧ OwnS 5 1 v' out.length (out.map by8) nw)) : Fx Tryd.prog G [] 45 #[CV true k n, va, vt, .func (.func 46) #[] #[]] (fun v l1 nw => l1 = [] ∧ ∃ v', v = .tuple #[CV true k (n + 1), v', ii 0] ∧ OwnS 5 1 v' out.length (out.map by8) nw) := by
  have hok : okC true k n = true := rfl
  refine QfO Tryd.func45 ?_
  refine Qs<|Qp<|(Qh 0) fun r1=>(QH 1) fun r2=>(Qa)<|(Qa)<|Qn<|Qs<|Qs<|Qp<|(QD 0) ?_
  refine e_call rfl (Un 62) (dchk8_fn true k n) rfl rfl ?_
  refine e_as (congrArg ii (show (if okC true k n = true then 0 else 9) = 0 by rw [hok]; rfl)) ?_
  refine (Qa)<|Qn<|Qs<|Qp<|(Qm)<|(QN)<|Qn ?_
  refine e_cond rfl ?_ ?_
  · intro hc0
    exact absurd hc0 (by decide)
  · intro hc0
    refine Qk<|Qs<|Qs<|Qp<|(Qf 0)<|(QV 0 0)<|(Q0)<|Qn ?_
    refine e_cond rfl ?_ ?_
    · intro hc1
      exact absurd hc1 (by decide)
    · intro hc1
      refine Qk<|Qs<|Qs<|Qp<|(Qf 33)<|(QV 2 0)<|(Qc)<|(Qaf)<|Qn ?_
      refine e_cond rfl ?_ ?_
      · intro hc2
        exact absurd hc2 (by decide)
      · intro hc2
        refine Qk<|Qs<|(Qq ⟨[], 4, [], none⟩)<|(Qm)<|(Qf 1)<|(Qv 1 0)<|(Qf 33)<|(QV 2 0) ?_
        refine e_call rfl (Un 64) (dnonce_fn n) rfl rfl ?_
        refine (Qm)<|(Qm) ?_
        refine e_callN 2 (fun v => .tuple #[v, ii 0]) rfl rfl (Un 46) seenG hE hm (by rw [List.length_map, Nat.mul_one]) rfl rfl fun v4_1 oz4_1 ho4_1 => ?_
        refine (Qm)<|(Qx)<|(Qx)<|(Qa)<|(Qa)<|Qn<|Qs<|Qs<|Qp<|(Qm)<|(QN) ?_
        refine e_as (congrArg Value.bool (decide_eq_false (fun h => h rfl))) ?_
        refine Qn ?_
        refine e_cond rfl ?_ ?_
        · intro hc3
          exact absurd hc3 (by decide)
        · intro hc3
          refine Qk<|Qs<|Qp<|(Qf 33)<|(QV 2 0) ?_
          refine e_add_u (q := 1) rfl rfl rfl  ?_
          refine e_as (congrArg u (Nat.mod_eq_of_lt (show n + 1 < 18446744073709551616 by omega))) ?_
          refine (Qf 33) ?_
          refine e_stV (i := 0) 2 (Uz 24) rfl rfl rfl rfl rfl (by decide) (.inl rfl) ?_
          refine Qn<|Qs<|Qp<|(QD 0) ?_
          refine e_as (show _ = CV true k (n + 1) from rfl) ?_
          refine (Qm) ?_
          refine e_storeA (i := 1) (Uz 26) rfl rfl (arrv_size _ _) (cells_one ⟨fun _ => rfl, fun _ => rfl, fun _ => rfl, trivial⟩) rfl cells_sz (.inl rfl) ?_
          refine (Qa)<|(Qa)<|Qn<|Qr ?_
          exact ⟨_, _, _, _, _, 2, rfl, .cell (i := 1) rfl rfl (Uu 26) rfl (Uz 26) (arrv_size _ _), .tmp rfl, .tmp rfl, ho4_1, rfl⟩
end Go.Proofs.YtbjaenjgahjikaaDoor
namespace Go.Proofs.YtbjaenjgahjikaaDoor
open Go Go.RowKit
variable {G : Mem}
set_option maxHeartbeats 2000000 in
theorem dcopen_err (has : Bool) (k : Nat → Nat) (n : Nat) (va vt : Value) (e : Nat) (hU : Fn Tryd.prog G 45 #[CV has k n, va, vt, .func (.func 47) #[] #[]] (.tuple #[CZ, nilS, ii e])) : Fn Tryd.prog G 35 #[CV has k n, va, vt] (.tuple #[CZ, nilS, ii e]) := by
  refine Qf3 Tryd.func35 ?_
  refine Qs<|Qp<|(Qh 0) fun r1=>(QH 1) fun r2=>(Qa)<|(Qa)<|Qn<|Qs<|Qp<|(QD 0)<|(Qm)<|(Qm) ?_
  refine e_call rfl (Un 45) hU rfl rfl ?_
  refine (Qx)<|(Qx)<|(Qx) ?_
  refine e_storeA (i := 1) (Uz 26) rfl rfl (arrv_size _ _) (cells_one ⟨fun _ => rfl, fun _ => rfl, fun _ => rfl, trivial⟩) rfl cells_sz (.inl rfl) ?_
  refine (Qa)<|(Qa)<|Qn<|Qr ?_
  exact ⟨_, _, _, rfl, .cell (i := 1) rfl rfl (Uu 26) rfl (Uz 26) (arrv_size _ _), .tmp rfl, .tmp rfl⟩
set_option maxHeartbeats 2000000 in
theorem dcopen_ok (has : Bool) (k : Nat → Nat) (n : Nat) (va vt : Value) (h2 : Bool) (k2 : Nat → Nat) (n2 : Nat) (out : List Nat) (hm : out.length ≤ maxLen) (hU : Fx Tryd.prog G [] 45 #[CV has k n, va, vt, .func (.func 47) #[] #[]] (fun v l1 nw => l1 = [] ∧ ∃ v', v = .tuple #[CV h2 k2 n2, v', ii 0] ∧ OwnS 5 1 v' out.length (out.map by8) nw)) : Fx Tryd.prog G [] 35 #[CV has k n, va, vt] (fun v l1 nw => l1 = [] ∧ ∃ v', v = .tuple #[CV h2 k2 n2, v', ii 0] ∧ OwnS 5 1 v' out.length (out.map by8) nw) := by
  refine QfO Tryd.func35 ?_
  refine Qs<|Qp<|(Qh 0) fun r1=>(QH 1) fun r2=>(Qa)<|(Qa)<|Qn<|Qs<|QR ⟨[], 4, [], none⟩<|(QD 0)<|(Qm)<|(Qm) ?_
  refine e_callN 2 (fun v => .tuple #[CV h2 k2 n2, v, ii 0]) rfl rfl (Un 45) seenG hU hm (by rw [List.length_map, Nat.mul_one]) rfl rfl fun v1_1 oz1_1 ho1_1 => ?_
  refine (Qx)<|(Qx)<|(Qx) ?_
  refine e_storeA (i := 1) (Uz 26) rfl rfl (arrv_size _ _) (cells_one ⟨fun _ => rfl, fun _ => rfl, fun _ => rfl, trivial⟩) rfl cells_sz (.inl rfl) ?_
  refine (Qa)<|(Qa)<|Qn<|Qr ?_
  exact ⟨_, _, _, _, _, 2, rfl, .cell (i := 1) rfl rfl (Uu 26) rfl (Uz 26) (arrv_size _ _), .tmp rfl, .tmp rfl, ho1_1, rfl⟩
set_option maxHeartbeats 2000000 in
theorem dcseal_err (has : Bool) (k : Nat → Nat) (n : Nat) (va vt : Value) (e : Nat) (hU : Fn Tryd.prog G 45 #[CV has k n, va, vt, .func (.func 46) #[] #[]] (.tuple #[CZ, nilS, ii e])) : Fn Tryd.prog G 33 #[CV has k n, va, vt] (.tuple #[CZ, nilS, ii e]) := by
  refine Qf3 Tryd.func33 ?_
  refine Qs<|Qp<|(Qh 0) fun r1=>(QH 1) fun r2=>(Qa)<|(Qa)<|Qn<|Qs<|Qp<|(QD 0)<|(Qm)<|(Qm) ?_
  refine e_call rfl (Un 45) hU rfl rfl ?_
  refine (Qx)<|(Qx)<|(Qx) ?_
  refine e_storeA (i := 1) (Uz 26) rfl rfl (arrv_size _ _) (cells_one ⟨fun _ => rfl, fun _ => rfl, fun _ => rfl, trivial⟩) rfl cells_sz (.inl rfl) ?_
  refine (Qa)<|(Qa)<|Qn<|Qr ?_
  exact ⟨_, _, _, rfl, .cell (i := 1) rfl rfl (Uu 26) rfl (Uz 26) (arrv_size _ _), .tmp rfl, .tmp rfl⟩
set_option maxHeartbeats 2000000 in
theorem dcseal_ok (has : Bool) (k : Nat → Nat) (n : Nat) (va vt : Value) (h2 : Bool) (k2 : Nat → Nat) (n2 : Nat) (out : List Nat) (hm : out.length ≤ maxLen) (hU : Fx Tryd.prog G [] 45 #[CV has k n, va, vt, .func (.func 46) #[] #[]] (fun v l1 nw => l1 = [] ∧ ∃ v', v = .tuple #[CV h2 k2 n2, v', ii 0] ∧ OwnS 5 1 v' out.length (out.map by8) nw)) : Fx Tryd.prog G [] 33 #[CV has k n, va, vt] (fun v l1 nw => l1 = [] ∧ ∃ v', v = .tuple #[CV h2 k2 n2, v', ii 0] ∧ OwnS 5 1 v' out.length (out.map by8) nw) := by
  refine QfO Tryd.func33 ?_
  refine Qs<|Qp<|(Qh 0) fun r1=>(QH 1) fun r2=>(Qa)<|(Qa)<|Qn<|Qs<|QR ⟨[], 4, [], none⟩<|(QD 0)<|(Qm)<|(Qm) ?_
  refine e_callN 2 (fun v => .tuple #[CV h2 k2 n2, v, ii 0]) rfl rfl (Un 45) seenG hU hm (by rw [List.length_map, Nat.mul_one]) rfl rfl fun v1_1 oz1_1 ho1_1 => ?_
  refine (Qx)<|(Qx)<|(Qx) ?_
  refine e_storeA (i := 1) (Uz 26) rfl rfl (arrv_size _ _) (cells_one ⟨fun _ => rfl, fun _ => rfl, fun _ => rfl, trivial⟩) rfl cells_sz (.inl rfl) ?_
  refine (Qa)<|(Qa)<|Qn<|Qr ?_
  exact ⟨_, _, _, _, _, 2, rfl, .cell (i := 1) rfl rfl (Uu 26) rfl (Uz 26) (arrv_size _ _), .tmp rfl, .tmp rfl, ho1_1, rfl⟩
end Go.Proofs.YtbjaenjgahjikaaDoor
namespace Go.Proofs.YtbjaenjgahjikaaDoor
open Go Go.RowKit
theorem Fx.more {P : Program} {G G' l0 : Mem} {f : FuncId} {args : Array Value} {S : Value → Mem → Mem → Prop} (h : Fx P G l0 f args S) (hG : ∀ x ∈ G, x ∈ G') : Fx P G' l0 f args S := fun w hw hi hn hd => h w (fun x hx => hw x (hG x hx)) hi hn fun x hx => hd x (hG x hx)
theorem SV_open (b : Bool) (k g ch h : Nat → Nat) : Value.agg (cells 98 [pV (.bool b), pI .u8 32 k, pI .u64 1 g, pI .u8 32 ch, pI .u8 32 h]) = SV b k (g 0) ch h := by
  congr 1
variable {G : Mem}
theorem sealP9 (k : Nat → Nat) (n : Nat) (ch h : Nat → Nat) (vt : Value) (tx : List Nat) (hvt : Shows (DOR :: G) 1 vt tx.length (tx.map by8)) (htb : ∀ b ∈ tx, b < 256) (hok : okC false k n = true) (hl : tx.length ≤ 800) (hh : ∀ j, j < 32 → h j < 256) : Fx Tryd.prog (DOR :: G) [] 17 #[SV false k n ch h, vt] (fun v l1 nw => l1 = [] ∧ ∃ v', v = .tuple #[SV false k n ch (hx h tx), v', ii 0] ∧ OwnS 5 1 v' tx.length (tx.map by8) nw) :=
  dsSeal_ok false k n ch h vt tx tx hvt htb (by omega) hh false k n (fun G2 va _ ht => dcseal_ok false k n va vt false k n tx (by simp only [maxLen]; omega) (dused_plain k n va vt _ tx ht hok hl))
theorem openP9 (k : Nat → Nat) (n : Nat) (ch h : Nat → Nat) (vt : Value) (tx : List Nat) (hvt : Shows (DOR :: G) 1 vt tx.length (tx.map by8)) (htb : ∀ b ∈ tx, b < 256) (hok : okC false k n = true) (hl : tx.length ≤ 800) (hh : ∀ j, j < 32 → h j < 256) : Fx Tryd.prog (DOR :: G) [] 18 #[SV false k n ch h, vt] (fun v l1 nw => l1 = [] ∧ ∃ v', v = .tuple #[SV false k n ch (hx h tx), v', ii 0] ∧ OwnS 5 1 v' tx.length (tx.map by8) nw) :=
  dsOpen_ok false k n ch h vt tx tx hvt htb (by omega) (by omega) hh false k n (fun G2 va _ ht => dcopen_ok false k n va vt false k n tx (by simp only [maxLen]; omega) (dused_plain k n va vt _ tx ht hok hl))
theorem sealK9 (k : Nat → Nat) (n : Nat) (ch h : Nat → Nat) (vt : Value) (tx : List Nat) (hvt : Shows (DOR :: G) 1 vt tx.length (tx.map by8)) (hk : ∀ j, j < 32 → k j < 256) (hn : n < 18446744073709551615) (hl : tx.length ≤ 800) (hh : ∀ j, j < 32 → h j < 256) : Fx Tryd.prog (DOR :: G) [] 17 #[SV true k n ch h, vt] (fun v l1 nw => l1 = [] ∧ ∃ v', v = .tuple #[SV true k (n + 1) ch (hx h (sealL k (nonU n) ((List.range 32).map h) tx)), v', ii 0] ∧ OwnS 5 1 v' (sealL k (nonU n) ((List.range 32).map h) tx).length ((sealL k (nonU n) ((List.range 32).map h) tx).map by8) nw) :=
  dsSeal_ok true k n ch h vt tx (sealL k (nonU n) ((List.range 32).map h) tx) hvt (sealL_lt _ _ _ _) (by rw [sealL_len]; omega) hh true k (n + 1) (fun G2 va ha ht => dcseal_ok true k n va vt true k (n + 1) _ (by rw [sealL_len]; simp only [maxLen]; omega) (dused_ok_seal k n va vt hn _ (by rw [sealL_len]; simp only [maxLen]; omega) (dseal_ok k (nonU n) va vt ((List.range 32).map h) tx hk (nonU_lt n) ha ht (range_lt hh) (by simp) hl)))
theorem openK9 (k : Nat → Nat) (n : Nat) (ch h : Nat → Nat) (vt : Value) (tx : List Nat) (hvt : Shows (DOR :: G) 1 vt tx.length (tx.map by8)) (htb : ∀ b ∈ tx, b < 256) (hk : ∀ j, j < 32 → k j < 256) (hn : n < 18446744073709551615) (h16 : 16 ≤ tx.length) (hl : tx.length ≤ 816) (ho : opensL k (nonU n) ((List.range 32).map h) tx) (hh : ∀ j, j < 32 → h j < 256) : Fx Tryd.prog (DOR :: G) [] 18 #[SV true k n ch h, vt] (fun v l1 nw => l1 = [] ∧ ∃ v', v = .tuple #[SV true k (n + 1) ch (hx h tx), v', ii 0] ∧ OwnS 5 1 v' (openL k (nonU n) tx).length ((openL k (nonU n) tx).map by8) nw) :=
  dsOpen_ok true k n ch h vt tx (openL k (nonU n) tx) hvt htb (by omega) (by rw [openL_len]; omega) hh true k (n + 1) (fun G2 va ha ht => dcopen_ok true k n va vt true k (n + 1) _ (by rw [openL_len]; simp only [maxLen]; omega) (dused_ok_open k n va vt hn _ (by rw [openL_len]; simp only [maxLen]; omega) (dopen_ok k (nonU n) va vt ((List.range 32).map h) tx hk (nonU_lt n) ha ht (range_lt hh) htb (by simp) h16 hl ho)))
theorem sealE9 (has : Bool) (k : Nat → Nat) (n : Nat) (ch h : Nat → Nat) (vt : Value) (tx : List Nat) (hvt : Shows (DOR :: G) 1 vt tx.length (tx.map by8)) (e : Nat) (he : e ≠ 0) (hU : ∀ (G2 : Mem) (va : Value), Shows G2 1 va ((List.range 32).map h).length (((List.range 32).map h).map by8) → Shows G2 1 vt tx.length (tx.map by8) → Fn Tryd.prog G2 45 #[CV has k n, va, vt, .func (.func 46) #[] #[]] (.tuple #[CZ, nilS, ii e])) : Fn Tryd.prog (IVB :: DOR :: G) 17 #[SV has k n ch h, vt] (.tuple #[(.agg (cells 98 [pV (.bool false), pI .u8 32 (fun _ => 0), pV (.int .u64 0), pI .u8 32 (fun _ => 0), pI .u8 32 (fun _ => 0)])), nilS, ii e]) :=
  (dsSeal_err has k n ch h vt tx hvt e he (fun G2 va ha ht => dcseal_err has k n va vt e (hU G2 va ha ht))).more (fun _ hx => List.mem_cons_of_mem _ hx)
theorem openE9 (has : Bool) (k : Nat → Nat) (n : Nat) (ch h : Nat → Nat) (vt : Value) (tx : List Nat) (hvt : Shows (DOR :: G) 1 vt tx.length (tx.map by8)) (e : Nat) (he : e ≠ 0) (hU : ∀ (G2 : Mem) (va : Value), Shows G2 1 va ((List.range 32).map h).length (((List.range 32).map h).map by8) → Shows G2 1 vt tx.length (tx.map by8) → Fn Tryd.prog G2 45 #[CV has k n, va, vt, .func (.func 47) #[] #[]] (.tuple #[CZ, nilS, ii e])) : Fn Tryd.prog (IVB :: DOR :: G) 18 #[SV has k n ch h, vt] (.tuple #[(.agg (cells 98 [pV (.bool false), pI .u8 32 (fun _ => 0), pV (.int .u64 0), pI .u8 32 (fun _ => 0), pI .u8 32 (fun _ => 0)])), nilS, ii e]) :=
  (dsOpen_err has k n ch h vt tx hvt e he (fun G2 va ha ht => dcopen_err has k n va vt e (hU G2 va ha ht))).more (fun _ hx => List.mem_cons_of_mem _ hx)
theorem side9S (k : Nat → Nat) (n : Nat) (ch h : Nat → Nat) (vt : Value) (tx : List Nat) (hvt : Shows (DOR :: G) 1 vt tx.length (tx.map by8)) (hk : ∀ j, j < 32 → k j < 256) (hn : n < 18446744073709551615) (hh : ∀ j, j < 32 → h j < 256) :
    (∃ e : Nat, Fn Tryd.prog (IVB :: DOR :: G) 17 #[SV true k n ch h, vt] (.tuple #[(.agg (cells 98 [pV (.bool false), pI .u8 32 (fun _ => 0), pV (.int .u64 0), pI .u8 32 (fun _ => 0), pI .u8 32 (fun _ => 0)])), nilS, ii e]) ∧ Fn Tryd.prog (IVB :: DOR :: G) 19 #[.bool false, SV true k n ch h, vt] (.tuple #[(.agg (cells 98 [pV (.bool false), pI .u8 32 (fun _ => 0), pV (.int .u64 0), pI .u8 32 (fun _ => 0), pI .u8 32 (fun _ => 0)])), nilS, ii e])) ∨ ∃ (k1 : Nat → Nat) (n1 : Nat) (c1 g1 : Nat → Nat) (out : List Nat), (∀ b ∈ out, b < 256) ∧ out.length ≤ 1000 ∧ Fx Tryd.prog (IVB :: DOR :: G) [] 17 #[SV true k n ch h, vt] (fun v l1 nw => l1 = [] ∧ ∃ v', v = .tuple #[SV true k1 n1 c1 g1, v', ii 0] ∧ OwnS 5 1 v' out.length (out.map by8) nw) ∧ Fx Tryd.prog (IVB :: DOR :: G) [] 19 #[.bool false, SV true k n ch h, vt] (fun v l1 nw => l1 = [] ∧ ∃ v', v = .tuple #[SV true k1 n1 c1 g1, v', ii 0] ∧ OwnS 5 1 v' out.length (out.map by8) nw) := by
  have hv2 : Shows (IVB :: DOR :: G) 1 vt tx.length (tx.map by8) := hvt.mono (fun _ hx => List.mem_cons_of_mem _ hx)
  by_cases h2 : 800 < tx.length
  · exact .inl ⟨1, sealE9 true k n ch h vt tx hvt 1 (by decide) (fun G2 va ha ht => dused_err_seal k n va vt hn 1 (by decide) (dseal_big2 k (nonU n) va vt ((List.range 32).map h) tx ha ht (by simp) h2)), symUsed_err_false k n ch h vt tx hv2 hn 1 (by decide) (fun G2 va ha ht => sealed_big2 k (nonU n) va vt ((List.range 32).map h) tx ha ht (by simp) h2)⟩
  · exact .inr ⟨k, n + 1, ch, hx h (sealL k (nonU n) ((List.range 32).map h) tx), (sealL k (nonU n) ((List.range 32).map h) tx), sealL_lt _ _ _ _, by rw [sealL_len]; omega, (sealK9 k n ch h vt tx hvt hk hn (by omega) hh).more (fun _ hx => List.mem_cons_of_mem _ hx), symUsed_ok_false k n ch h vt tx _ hv2 (sealL_lt _ _ _ _) (by rw [sealL_len]; omega) hn hh (fun G2 va ha ht => sealed_ok k (nonU n) va vt ((List.range 32).map h) tx hk (nonU_lt n) ha ht (range_lt hh) (by simp) (by omega))⟩
theorem side9O (k : Nat → Nat) (n : Nat) (ch h : Nat → Nat) (vt : Value) (tx : List Nat) (hvt : Shows (DOR :: G) 1 vt tx.length (tx.map by8)) (htb : ∀ b ∈ tx, b < 256) (hk : ∀ j, j < 32 → k j < 256) (hn : n < 18446744073709551615) (hh : ∀ j, j < 32 → h j < 256) :
    (∃ e : Nat, Fn Tryd.prog (IVB :: DOR :: G) 18 #[SV true k n ch h, vt] (.tuple #[(.agg (cells 98 [pV (.bool false), pI .u8 32 (fun _ => 0), pV (.int .u64 0), pI .u8 32 (fun _ => 0), pI .u8 32 (fun _ => 0)])), nilS, ii e]) ∧ Fn Tryd.prog (IVB :: DOR :: G) 19 #[.bool true, SV true k n ch h, vt] (.tuple #[(.agg (cells 98 [pV (.bool false), pI .u8 32 (fun _ => 0), pV (.int .u64 0), pI .u8 32 (fun _ => 0), pI .u8 32 (fun _ => 0)])), nilS, ii e])) ∨ ∃ (k1 : Nat → Nat) (n1 : Nat) (c1 g1 : Nat → Nat) (out : List Nat), (∀ b ∈ out, b < 256) ∧ out.length ≤ 1000 ∧ Fx Tryd.prog (IVB :: DOR :: G) [] 18 #[SV true k n ch h, vt] (fun v l1 nw => l1 = [] ∧ ∃ v', v = .tuple #[SV true k1 n1 c1 g1, v', ii 0] ∧ OwnS 5 1 v' out.length (out.map by8) nw) ∧ Fx Tryd.prog (IVB :: DOR :: G) [] 19 #[.bool true, SV true k n ch h, vt] (fun v l1 nw => l1 = [] ∧ ∃ v', v = .tuple #[SV true k1 n1 c1 g1, v', ii 0] ∧ OwnS 5 1 v' out.length (out.map by8) nw) := by
  have hv2 : Shows (IVB :: DOR :: G) 1 vt tx.length (tx.map by8) := hvt.mono (fun _ hx => List.mem_cons_of_mem _ hx)
  by_cases h2 : 816 < tx.length
  · exact .inl ⟨1, openE9 true k n ch h vt tx hvt 1 (by decide) (fun G2 va ha ht => dused_err_open k n va vt hn 1 (by decide) (dopen_big2 k (nonU n) va vt ((List.range 32).map h) tx ha ht (by simp) h2)), symUsed_err_true k n ch h vt tx hv2 hn 1 (by decide) (fun G2 va ha ht => unsealed_big2 k (nonU n) va vt ((List.range 32).map h) tx ha ht (by simp) h2)⟩
  by_cases h3 : tx.length < 16
  · exact .inl ⟨4, openE9 true k n ch h vt tx hvt 4 (by decide) (fun G2 va ha ht => dused_err_open k n va vt hn 4 (by decide) (dopen_short k (nonU n) va vt ((List.range 32).map h) tx ha ht (by simp) h3)), symUsed_err_true k n ch h vt tx hv2 hn 4 (by decide) (fun G2 va ha ht => unsealed_short k (nonU n) va vt ((List.range 32).map h) tx ha ht (by simp) h3)⟩
  by_cases ho : ¬ opensL k (nonU n) ((List.range 32).map h) tx
  · exact .inl ⟨10, openE9 true k n ch h vt tx hvt 10 (by decide) (fun G2 va ha ht => dused_err_open k n va vt hn 10 (by decide) (dopen_auth k (nonU n) va vt ((List.range 32).map h) tx hk (nonU_lt n) ha ht (range_lt hh) htb (by simp) (by omega) (by omega) ho)), symUsed_err_true k n ch h vt tx hv2 hn 10 (by decide) (fun G2 va ha ht => unsealed_auth k (nonU n) va vt ((List.range 32).map h) tx hk (nonU_lt n) ha ht (range_lt hh) htb (by simp) (by omega) (by omega) ho)⟩
  have ho := Classical.not_not.1 ho
  exact .inr ⟨k, n + 1, ch, hx h tx, (openL k (nonU n) tx), strl_lt _ _ _ _ _, by rw [openL_len]; omega, (openK9 k n ch h vt tx hvt htb hk hn (by omega) (by omega) ho hh).more (fun _ hx => List.mem_cons_of_mem _ hx), symUsed_ok_true k n ch h vt tx _ hv2 htb (by omega) (by rw [openL_len]; omega) hn hh (fun G2 va ha ht => unsealed_ok k (nonU n) va vt ((List.range 32).map h) tx hk (nonU_lt n) ha ht (range_lt hh) htb (by simp) (by omega) (by omega) ho)⟩
end Go.Proofs.YtbjaenjgahjikaaDoor
namespace Go.Proofs.YtbjaenjgahjikaaDoor
open Go.ChangeShapes Go.WideShapes Go.ChangeAt Go.RowKit
theorem laid_signet_blake_orders_rin {W : World} (h : VarT Tryd.prog W "signet/blake.orders" Rows.laid_signet_blake_orders) : RIn W (⟨1, arr .i64 160 sgf, 136⟩ : Blk) :=
  rin_tab (by kernel_rfl) (by kernel_rfl) (by decide) h fun cs hc r hr => by
    have h1 := rd_rows (M := 10) (N := 16) (rs := [[0, 1, 2, 3, 4, 5, 6, 7, 8, 9, 10, 11, 12, 13, 14, 15], [14, 10, 4, 8, 9, 15, 13, 6, 1, 12, 0, 2, 11, 7, 5, 3], [11, 8, 12, 0, 5, 2, 15, 13, 10, 14, 3, 6, 7, 1, 9, 4], [7, 9, 3, 1, 13, 12, 11, 14, 2, 6, 5, 10, 4, 0, 15, 8], [9, 0, 5, 7, 2, 4, 10, 15, 14, 1, 11, 12, 6, 8, 3, 13], [2, 12, 6, 10, 0, 11, 8, 3, 4, 13, 7, 5, 15, 14, 1, 9], [12, 5, 1, 15, 14, 13, 4, 10, 0, 7, 6, 3, 9, 2, 8, 11], [13, 11, 7, 14, 12, 1, 3, 9, 5, 0, 15, 4, 8, 6, 2, 10], [6, 15, 14, 9, 11, 3, 0, 8, 12, 2, 13, 7, 1, 4, 10, 5], [10, 2, 8, 4, 7, 6, 1, 5, 15, 11, 9, 14, 3, 12, 13, 0]]) (show Tryd.prog.underlying 136 = some (.array 10 135) by kernel_rfl) (show Tryd.prog.underlying 135 = some (.array 16 3) by kernel_rfl) (show Tryd.prog.underlying 3 = some (.int .i64) by kernel_rfl) (show Tryd.prog.cellsOf 3 = 1 by kernel_rfl) (show Tryd.prog.cellsOf 135 = 16 by kernel_rfl) hc r hr
    rw [h1]
    have h2 : ((List.range 160).all fun r => (([[0, 1, 2, 3, 4, 5, 6, 7, 8, 9, 10, 11, 12, 13, 14, 15], [14, 10, 4, 8, 9, 15, 13, 6, 1, 12, 0, 2, 11, 7, 5, 3], [11, 8, 12, 0, 5, 2, 15, 13, 10, 14, 3, 6, 7, 1, 9, 4], [7, 9, 3, 1, 13, 12, 11, 14, 2, 6, 5, 10, 4, 0, 15, 8], [9, 0, 5, 7, 2, 4, 10, 15, 14, 1, 11, 12, 6, 8, 3, 13], [2, 12, 6, 10, 0, 11, 8, 3, 4, 13, 7, 5, 15, 14, 1, 9], [12, 5, 1, 15, 14, 13, 4, 10, 0, 7, 6, 3, 9, 2, 8, 11], [13, 11, 7, 14, 12, 1, 3, 9, 5, 0, 15, 4, 8, 6, 2, 10], [6, 15, 14, 9, 11, 3, 0, 8, 12, 2, 13, 7, 1, 4, 10, 5], [10, 2, 8, 4, 7, 6, 1, 5, 15, 11, 9, 14, 3, 12, 13, 0]] : List (List Int)).getD (r / 16) []).getD (r % 16) 0 == (sgf r : Int)) = true := by decide +kernel
    have h3 := (List.all_eq_true.1 h2) r (List.mem_range.2 hr)
    rw [eq_of_beq h3]
theorem laid_signet_signetref_iv_rin {W : World} (h : VarT Tryd.prog W "signet/signetref.iv" Rows.laid_signet_signetref_iv) : RIn W (⟨0, arr .u32 8 ivf, 64⟩ : Blk) :=
  rin_tab (by kernel_rfl) (by kernel_rfl) (by decide) h fun cs hc r hr => by
    have h1 := rd_ints (zs := [1779033703, 3144134277, 1013904242, 2773480762, 1359893119, 2600822924, 528734635, 1541459225]) (show Tryd.prog.underlying 64 = some (.array 8 63) by kernel_rfl) (show Tryd.prog.underlying 63 = some (.int .u32) by kernel_rfl) (show Tryd.prog.cellsOf 63 = 1 by kernel_rfl) hc r hr
    rw [h1]
    have h2 : ((List.range 8).all fun r => ([1779033703, 3144134277, 1013904242, 2773480762, 1359893119, 2600822924, 528734635, 1541459225] : List Int).getD r 0 == (ivf r : Int)) = true := by decide +kernel
    have h3 := (List.all_eq_true.1 h2) r (List.mem_range.2 hr)
    rw [eq_of_beq h3]
end Go.Proofs.YtbjaenjgahjikaaDoor
