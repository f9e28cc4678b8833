import Derived.Test.YtoalabpbohkcjaaK6
import Derived.Test.YtoalabpbohkcjaaK3

/-
  Walks, written by a program of ours off the loaded functions.
-/
namespace Go.Proofs.Ytoalabpbohkcjaa
open Go Go.RowKit


theorem ent7 : enters Try.prog 7 = true := by kernel_rfl
theorem ent8 : enters Try.prog 8 = true := by kernel_rfl
theorem ent9 : enters Try.prog 9 = true := by kernel_rfl
theorem ent10 : enters Try.prog 10 = true := by kernel_rfl
theorem ent11 : enters Try.prog 11 = true := by kernel_rfl
theorem siz22 : (Try.prog.info? 22).map (·.size) = some 32 := by kernel_rfl
theorem und22 : Try.prog.underlying 22 = some (.array 32 5) := by kernel_rfl

variable {G : Mem}

set_option maxHeartbeats 400000 in
theorem sameBytes_fn (v v2 : Value) (l l2 : List Nat) (hv : Shows G 1 v l.length (l.map by8)) (hv2 : Shows G 1 v2 l2.length (l2.map by8)) (hb : ∀ b ∈ l, b < 256) (hb2 : ∀ b ∈ l2, b < 256) : Fn Try.prog G 9 #[v, v2] (.bool (decide (l = l2))) := by
  refine fn1 (n := 10) Try.func9 rfl rfl (by simp) (argE [v, v2] 0) (argE_ok _) ?_
  refine e_seq ?_
  refine e_plain ?_
  refine e_assign rfl rfl ?_
  refine e_nil ?_
  refine e_seq ?_
  refine e_plain ?_
  refine e_move rfl rfl ?_
  refine e_conv_strV hv seenG und24 und5 und9 rfl rfl rfl ?_
  refine e_move rfl rfl ?_
  refine e_conv_strV hv2 seenG und24 und5 und9 rfl rfl rfl ?_
  refine e_eqStr rfl rfl rfl hb hb2 ?_
  refine e_assign rfl rfl ?_
  refine e_nil ?_
  refine e_ret ?_
  exact ⟨_, rfl, .tmp rfl⟩

set_option maxHeartbeats 400000 in
theorem sealSeals_big1 (k nn : Nat → Nat) (va vt : Value) (ad tx : List Nat) (hk : ∀ j, j < 32 → k j < 256) (hn : ∀ j, j < 12 → nn j < 256) (hva : Shows G 1 va ad.length (ad.map by8)) (hvt : Shows G 1 vt tx.length (tx.map by8)) (hab : (∀ b ∈ ad, b < 256)) (htb : (∀ b ∈ tx, b < 256)) (h : 200 < ad.length) (hSb : ∀ (G : Mem) (k nn : Nat → Nat) (va vt : Value) (ad tx : List Nat), (∀ j, j < 32 → k j < 256) → (∀ j, j < 12 → nn j < 256) → Shows G 1 va ad.length (ad.map by8) → Shows G 1 vt tx.length (tx.map by8) → (∀ b ∈ ad, b < 256) → (∀ b ∈ tx, b < 256) → (200 < ad.length ∨ 800 < tx.length) → Fn Try.prog G 7 #[.agg (arr .u8 32 k), .agg (arr .u8 12 nn), va, vt] (.tuple #[nilS, ii 1])) : Fn Try.prog G 3 #[.agg (arr .u8 32 k), .agg (arr .u8 12 nn), va, vt] (.bool true) := by
  refine fn1 (n := 37) Try.func3 rfl rfl (by simp) (argE [.agg (arr .u8 32 k), .agg (arr .u8 12 nn), va, vt] 0) (argE_ok _) ?_
  refine e_seq ?_
  refine e_plain ?_
  refine e_box 0 rfl rfl fun r1 => ?_
  refine e_box 1 rfl rfl fun r2 => ?_
  refine e_assign rfl rfl ?_
  refine e_nil ?_
  refine e_seq ?_
  refine e_plain ?_
  refine e_loadA (i := 0) und22 rfl siz22 rfl rfl (arr_size _ _ _) rfl ⟨[], trivial⟩ ?_
  refine e_loadA (i := 1) und23 rfl siz23 rfl rfl (arr_size _ _ _) rfl ⟨[], trivial⟩ ?_
  refine e_move rfl rfl ?_
  refine e_move rfl rfl ?_
  refine e_call rfl ent7 (hSb G k nn va vt ad tx hk hn hva hvt hab htb (.inl h)) rfl rfl ?_
  refine e_move rfl rfl ?_
  refine e_extract rfl rfl rfl ?_
  refine e_extract rfl rfl rfl ?_
  refine e_assign rfl rfl ?_
  refine e_assign rfl rfl ?_
  refine e_nil ?_
  refine e_seq ?_
  refine e_plain ?_
  refine e_loadA (i := 0) und22 rfl siz22 rfl rfl (arr_size _ _ _) rfl ⟨[], trivial⟩ ?_
  refine e_loadA (i := 1) und23 rfl siz23 rfl rfl (arr_size _ _ _) rfl ⟨[], trivial⟩ ?_
  refine e_move rfl rfl ?_
  refine e_move rfl rfl ?_
  refine e_call rfl ent8 (sealed_big1 k nn va vt ad hva h) rfl rfl ?_
  refine e_move rfl rfl ?_
  refine e_extract rfl rfl rfl ?_
  refine e_extract rfl rfl rfl ?_
  refine e_assign rfl rfl ?_
  refine e_assign rfl rfl ?_
  refine e_nil ?_
  refine e_seq ?_
  refine e_plain ?_
  refine e_move rfl rfl ?_
  refine e_move rfl rfl ?_
  refine e_callV [] rfl rfl ent9 trivial (sameBytes_fn (G := []) nilS nilS [] [] (.inl ⟨rfl, rfl, none, 0, rfl, fun _ => rfl⟩ : Shows [] 1 nilS ([] : List Nat).length (([] : List Nat).map by8)) (.inl ⟨rfl, rfl, none, 0, rfl, fun _ => rfl⟩ : Shows [] 1 nilS ([] : List Nat).length (([] : List Nat).map by8)) (by simp) (by simp)) rfl rfl rfl ?_
  refine e_as (congrArg Value.bool (decide_eq_true rfl)) ?_
  refine e_move rfl rfl ?_
  refine e_yes rfl rfl rfl ?_
  refine e_move rfl rfl ?_
  refine e_yes rfl rfl rfl ?_
  refine e_move rfl rfl ?_
  refine e_yes rfl rfl rfl ?_
  refine e_eq rfl rfl rfl ?_
  refine e_as (congrArg Value.bool (decide_eq_true rfl)) ?_
  refine e_pickT rfl rfl rfl rfl ?_
  refine e_assign rfl rfl ?_
  refine e_nil ?_
  refine e_ret ?_
  exact ⟨_, rfl, .tmp rfl⟩

set_option maxHeartbeats 400000 in
theorem sealSeals_big2 (k nn : Nat → Nat) (va vt : Value) (ad tx : List Nat) (hk : ∀ j, j < 32 → k j < 256) (hn : ∀ j, j < 12 → nn j < 256) (hva : Shows G 1 va ad.length (ad.map by8)) (hvt : Shows G 1 vt tx.length (tx.map by8)) (hab : (∀ b ∈ ad, b < 256)) (htb : (∀ b ∈ tx, b < 256)) (h : ad.length ≤ 200) (h2 : 800 < tx.length) (hSb : ∀ (G : Mem) (k nn : Nat → Nat) (va vt : Value) (ad tx : List Nat), (∀ j, j < 32 → k j < 256) → (∀ j, j < 12 → nn j < 256) → Shows G 1 va ad.length (ad.map by8) → Shows G 1 vt tx.length (tx.map by8) → (∀ b ∈ ad, b < 256) → (∀ b ∈ tx, b < 256) → (200 < ad.length ∨ 800 < tx.length) → Fn Try.prog G 7 #[.agg (arr .u8 32 k), .agg (arr .u8 12 nn), va, vt] (.tuple #[nilS, ii 1])) : Fn Try.prog G 3 #[.agg (arr .u8 32 k), .agg (arr .u8 12 nn), va, vt] (.bool true) := by
  refine fn1 (n := 37) Try.func3 rfl rfl (by simp) (argE [.agg (arr .u8 32 k), .agg (arr .u8 12 nn), va, vt] 0) (argE_ok _) ?_
  refine e_seq ?_
  refine e_plain ?_
  refine e_box 0 rfl rfl fun r1 => ?_
  refine e_box 1 rfl rfl fun r2 => ?_
  refine e_assign rfl rfl ?_
  refine e_nil ?_
  refine e_seq ?_
  refine e_plain ?_
  refine e_loadA (i := 0) und22 rfl siz22 rfl rfl (arr_size _ _ _) rfl ⟨[], trivial⟩ ?_
  refine e_loadA (i := 1) und23 rfl siz23 rfl rfl (arr_size _ _ _) rfl ⟨[], trivial⟩ ?_
  refine e_move rfl rfl ?_
  refine e_move rfl rfl ?_
  refine e_call rfl ent7 (hSb G k nn va vt ad tx hk hn hva hvt hab htb (.inr h2)) rfl rfl ?_
  refine e_move rfl rfl ?_
  refine e_extract rfl rfl rfl ?_
  refine e_extract rfl rfl rfl ?_
  refine e_assign rfl rfl ?_
  refine e_assign rfl rfl ?_
  refine e_nil ?_
  refine e_seq ?_
  refine e_plain ?_
  refine e_loadA (i := 0) und22 rfl siz22 rfl rfl (arr_size _ _ _) rfl ⟨[], trivial⟩ ?_
  refine e_loadA (i := 1) und23 rfl siz23 rfl rfl (arr_size _ _ _) rfl ⟨[], trivial⟩ ?_
  refine e_move rfl rfl ?_
  refine e_move rfl rfl ?_
  refine e_call rfl ent8 (sealed_big2 k nn va vt ad tx hva hvt h h2) rfl rfl ?_
  refine e_move rfl rfl ?_
  refine e_extract rfl rfl rfl ?_
  refine e_extract rfl rfl rfl ?_
  refine e_assign rfl rfl ?_
  refine e_assign rfl rfl ?_
  refine e_nil ?_
  refine e_seq ?_
  refine e_plain ?_
  refine e_move rfl rfl ?_
  refine e_move rfl rfl ?_
  refine e_callV [] rfl rfl ent9 trivial (sameBytes_fn (G := []) nilS nilS [] [] (.inl ⟨rfl, rfl, none, 0, rfl, fun _ => rfl⟩ : Shows [] 1 nilS ([] : List Nat).length (([] : List Nat).map by8)) (.inl ⟨rfl, rfl, none, 0, rfl, fun _ => rfl⟩ : Shows [] 1 nilS ([] : List Nat).length (([] : List Nat).map by8)) (by simp) (by simp)) rfl rfl rfl ?_
  refine e_as (congrArg Value.bool (decide_eq_true rfl)) ?_
  refine e_move rfl rfl ?_
  refine e_yes rfl rfl rfl ?_
  refine e_move rfl rfl ?_
  refine e_yes rfl rfl rfl ?_
  refine e_move rfl rfl ?_
  refine e_yes rfl rfl rfl ?_
  refine e_eq rfl rfl rfl ?_
  refine e_as (congrArg Value.bool (decide_eq_true rfl)) ?_
  refine e_pickT rfl rfl rfl rfl ?_
  refine e_assign rfl rfl ?_
  refine e_nil ?_
  refine e_ret ?_
  exact ⟨_, rfl, .tmp rfl⟩

set_option maxHeartbeats 2000000 in
theorem sealSeals_ok (k nn : Nat → Nat) (va vt : Value) (ad tx : List Nat) (hk : ∀ j, j < 32 → k j < 256) (hn : ∀ j, j < 12 → nn j < 256) (hva : Shows G 1 va ad.length (ad.map by8)) (hvt : Shows G 1 vt tx.length (tx.map by8)) (hab : (∀ b ∈ ad, b < 256)) (htb : (∀ b ∈ tx, b < 256)) (h : ad.length ≤ 200) (h2 : tx.length ≤ 800) (hSo : ∀ (G : Mem) (k nn : Nat → Nat) (va vt : Value) (ad tx : List Nat), (∀ j, j < 32 → k j < 256) → (∀ j, j < 12 → nn j < 256) → Shows G 1 va ad.length (ad.map by8) → Shows G 1 vt tx.length (tx.map by8) → (∀ b ∈ ad, b < 256) → (∀ b ∈ tx, b < 256) → ad.length ≤ 200 → tx.length ≤ 800 → Fx Try.prog G [] 7 #[.agg (arr .u8 32 k), .agg (arr .u8 12 nn), va, vt] (fun v l1 nw => l1 = [] ∧ ∃ v', v = .tuple #[v', ii 0] ∧ OwnS 5 1 v' (sealL k nn ad tx).length ((sealL k nn ad tx).map by8) nw)) : Fn Try.prog G 3 #[.agg (arr .u8 32 k), .agg (arr .u8 12 nn), va, vt] (.bool true) := by
  refine fn1 (n := 37) Try.func3 rfl rfl (by simp) (argE [.agg (arr .u8 32 k), .agg (arr .u8 12 nn), va, vt] 0) (argE_ok _) ?_
  refine e_seq ?_
  refine e_plain ?_
  refine e_box 0 rfl rfl fun r1 => ?_
  refine e_box 1 rfl rfl fun r2 => ?_
  refine e_assign rfl rfl ?_
  refine e_nil ?_
  refine e_seq ?_
  refine e_plainR ⟨[], 4, []⟩ ?_
  refine e_loadA (i := 0) und22 rfl siz22 rfl rfl (arr_size _ _ _) rfl ⟨[], trivial⟩ ?_
  refine e_loadA (i := 1) und23 rfl siz23 rfl rfl (arr_size _ _ _) rfl ⟨[], trivial⟩ ?_
  refine e_move rfl rfl ?_
  refine e_move rfl rfl ?_
  refine e_callN 2 (fun v => .tuple #[v, ii 0]) rfl rfl ent7 seenG (hSo G k nn va vt ad tx hk hn hva hvt hab htb h h2) (by rw [sealL_len k nn ad tx]; simp only [maxLen]; omega) (by rw [List.length_map, Nat.mul_one]) rfl rfl fun v1_1 oz1_1 ho1_1 => ?_
  refine e_move rfl rfl ?_
  refine e_extract rfl rfl rfl ?_
  refine e_extract rfl rfl rfl ?_
  refine e_assign rfl rfl ?_
  refine e_assign rfl rfl ?_
  refine e_nil ?_
  refine e_seq ?_
  refine e_plainR ⟨[], 4, []⟩ ?_
  refine e_loadA (i := 0) und22 rfl siz22 rfl rfl (arr_size _ _ _) rfl ⟨[], trivial⟩ ?_
  refine e_loadA (i := 1) und23 rfl siz23 rfl rfl (arr_size _ _ _) rfl ⟨[], trivial⟩ ?_
  refine e_move rfl rfl ?_
  refine e_move rfl rfl ?_
  refine e_callN 3 (fun v => .tuple #[v, ii 0]) rfl rfl ent8 seenG (sealed_ok k nn va vt ad tx hk hn hva hvt hab h h2) (by rw [sealL_len k nn ad tx]; simp only [maxLen]; omega) (by rw [List.length_map, Nat.mul_one]) rfl rfl fun v1_2 oz1_2 ho1_2 => ?_
  refine e_move rfl rfl ?_
  refine e_extract rfl rfl rfl ?_
  refine e_extract rfl rfl rfl ?_
  refine e_assign rfl rfl ?_
  refine e_assign rfl rfl ?_
  refine e_nil ?_
  refine e_seq ?_
  refine e_plain ?_
  refine e_move rfl rfl ?_
  refine e_move rfl rfl ?_
  refine e_callV (oz1_1.toList ++ oz1_2.toList) rfl rfl ent9 (subM_app (subM_opt (i := 2) rfl) (subM_opt (i := 3) rfl)) (sameBytes_fn _ _ (sealL k nn ad tx) (sealL k nn ad tx) (ho1_1.shows.mono (fun x h => List.mem_append_left _ h)) (ho1_2.shows.mono (fun x h => List.mem_append_right _ h)) (sealL_lt k nn ad tx) (sealL_lt k nn ad tx)) rfl rfl rfl ?_
  refine e_as (congrArg Value.bool (decide_eq_true rfl)) ?_
  refine e_move rfl rfl ?_
  refine e_yes rfl rfl rfl ?_
  refine e_move rfl rfl ?_
  refine e_yes rfl rfl rfl ?_
  refine e_move rfl rfl ?_
  refine e_yes rfl rfl rfl ?_
  refine e_eq rfl rfl rfl ?_
  refine e_as (congrArg Value.bool (decide_eq_true rfl)) ?_
  refine e_pickT rfl rfl rfl rfl ?_
  refine e_assign rfl rfl ?_
  refine e_nil ?_
  refine e_ret ?_
  exact ⟨_, rfl, .tmp rfl⟩

set_option maxHeartbeats 400000 in
theorem sealOpens_big1 (k nn : Nat → Nat) (va vt : Value) (ad tx : List Nat) (hk : ∀ j, j < 32 → k j < 256) (hn : ∀ j, j < 12 → nn j < 256) (hva : Shows G 1 va ad.length (ad.map by8)) (hvt : Shows G 1 vt tx.length (tx.map by8)) (hab : (∀ b ∈ ad, b < 256)) (htb : (∀ b ∈ tx, b < 256)) (h : 200 < ad.length) (hOb : ∀ (G : Mem) (k nn : Nat → Nat) (va vt : Value) (ad tx : List Nat), (∀ j, j < 32 → k j < 256) → (∀ j, j < 12 → nn j < 256) → Shows G 1 va ad.length (ad.map by8) → Shows G 1 vt tx.length (tx.map by8) → (∀ b ∈ ad, b < 256) → (∀ b ∈ tx, b < 256) → (200 < ad.length ∨ 816 < tx.length) → Fn Try.prog G 10 #[.agg (arr .u8 32 k), .agg (arr .u8 12 nn), va, vt] (.tuple #[nilS, ii 1])) : Fn Try.prog G 4 #[.agg (arr .u8 32 k), .agg (arr .u8 12 nn), va, vt] (.bool true) := by
  refine fn1 (n := 37) Try.func4 rfl rfl (by simp) (argE [.agg (arr .u8 32 k), .agg (arr .u8 12 nn), va, vt] 0) (argE_ok _) ?_
  refine e_seq ?_
  refine e_plain ?_
  refine e_box 0 rfl rfl fun r1 => ?_
  refine e_box 1 rfl rfl fun r2 => ?_
  refine e_assign rfl rfl ?_
  refine e_nil ?_
  refine e_seq ?_
  refine e_plain ?_
  refine e_loadA (i := 0) und22 rfl siz22 rfl rfl (arr_size _ _ _) rfl ⟨[], trivial⟩ ?_
  refine e_loadA (i := 1) und23 rfl siz23 rfl rfl (arr_size _ _ _) rfl ⟨[], trivial⟩ ?_
  refine e_move rfl rfl ?_
  refine e_move rfl rfl ?_
  refine e_call rfl ent10 (hOb G k nn va vt ad tx hk hn hva hvt hab htb (.inl h)) rfl rfl ?_
  refine e_move rfl rfl ?_
  refine e_extract rfl rfl rfl ?_
  refine e_extract rfl rfl rfl ?_
  refine e_assign rfl rfl ?_
  refine e_assign rfl rfl ?_
  refine e_nil ?_
  refine e_seq ?_
  refine e_plain ?_
  refine e_loadA (i := 0) und22 rfl siz22 rfl rfl (arr_size _ _ _) rfl ⟨[], trivial⟩ ?_
  refine e_loadA (i := 1) und23 rfl siz23 rfl rfl (arr_size _ _ _) rfl ⟨[], trivial⟩ ?_
  refine e_move rfl rfl ?_
  refine e_move rfl rfl ?_
  refine e_call rfl ent11 (unsealed_big1 k nn va vt ad hva h) rfl rfl ?_
  refine e_move rfl rfl ?_
  refine e_extract rfl rfl rfl ?_
  refine e_extract rfl rfl rfl ?_
  refine e_assign rfl rfl ?_
  refine e_assign rfl rfl ?_
  refine e_nil ?_
  refine e_seq ?_
  refine e_plain ?_
  refine e_move rfl rfl ?_
  refine e_move rfl rfl ?_
  refine e_callV [] rfl rfl ent9 trivial (sameBytes_fn (G := []) nilS nilS [] [] (.inl ⟨rfl, rfl, none, 0, rfl, fun _ => rfl⟩ : Shows [] 1 nilS ([] : List Nat).length (([] : List Nat).map by8)) (.inl ⟨rfl, rfl, none, 0, rfl, fun _ => rfl⟩ : Shows [] 1 nilS ([] : List Nat).length (([] : List Nat).map by8)) (by simp) (by simp)) rfl rfl rfl ?_
  refine e_as (congrArg Value.bool (decide_eq_true rfl)) ?_
  refine e_move rfl rfl ?_
  refine e_yes rfl rfl rfl ?_
  refine e_move rfl rfl ?_
  refine e_yes rfl rfl rfl ?_
  refine e_move rfl rfl ?_
  refine e_yes rfl rfl rfl ?_
  refine e_eq rfl rfl rfl ?_
  refine e_as (congrArg Value.bool (decide_eq_true rfl)) ?_
  refine e_pickT rfl rfl rfl rfl ?_
  refine e_assign rfl rfl ?_
  refine e_nil ?_
  refine e_ret ?_
  exact ⟨_, rfl, .tmp rfl⟩

set_option maxHeartbeats 400000 in
theorem sealOpens_big2 (k nn : Nat → Nat) (va vt : Value) (ad tx : List Nat) (hk : ∀ j, j < 32 → k j < 256) (hn : ∀ j, j < 12 → nn j < 256) (hva : Shows G 1 va ad.length (ad.map by8)) (hvt : Shows G 1 vt tx.length (tx.map by8)) (hab : (∀ b ∈ ad, b < 256)) (htb : (∀ b ∈ tx, b < 256)) (h : ad.length ≤ 200) (h2 : 816 < tx.length) (hOb : ∀ (G : Mem) (k nn : Nat → Nat) (va vt : Value) (ad tx : List Nat), (∀ j, j < 32 → k j < 256) → (∀ j, j < 12 → nn j < 256) → Shows G 1 va ad.length (ad.map by8) → Shows G 1 vt tx.length (tx.map by8) → (∀ b ∈ ad, b < 256) → (∀ b ∈ tx, b < 256) → (200 < ad.length ∨ 816 < tx.length) → Fn Try.prog G 10 #[.agg (arr .u8 32 k), .agg (arr .u8 12 nn), va, vt] (.tuple #[nilS, ii 1])) : Fn Try.prog G 4 #[.agg (arr .u8 32 k), .agg (arr .u8 12 nn), va, vt] (.bool true) := by
  refine fn1 (n := 37) Try.func4 rfl rfl (by simp) (argE [.agg (arr .u8 32 k), .agg (arr .u8 12 nn), va, vt] 0) (argE_ok _) ?_
  refine e_seq ?_
  refine e_plain ?_
  refine e_box 0 rfl rfl fun r1 => ?_
  refine e_box 1 rfl rfl fun r2 => ?_
  refine e_assign rfl rfl ?_
  refine e_nil ?_
  refine e_seq ?_
  refine e_plain ?_
  refine e_loadA (i := 0) und22 rfl siz22 rfl rfl (arr_size _ _ _) rfl ⟨[], trivial⟩ ?_
  refine e_loadA (i := 1) und23 rfl siz23 rfl rfl (arr_size _ _ _) rfl ⟨[], trivial⟩ ?_
  refine e_move rfl rfl ?_
  refine e_move rfl rfl ?_
  refine e_call rfl ent10 (hOb G k nn va vt ad tx hk hn hva hvt hab htb (.inr h2)) rfl rfl ?_
  refine e_move rfl rfl ?_
  refine e_extract rfl rfl rfl ?_
  refine e_extract rfl rfl rfl ?_
  refine e_assign rfl rfl ?_
  refine e_assign rfl rfl ?_
  refine e_nil ?_
  refine e_seq ?_
  refine e_plain ?_
  refine e_loadA (i := 0) und22 rfl siz22 rfl rfl (arr_size _ _ _) rfl ⟨[], trivial⟩ ?_
  refine e_loadA (i := 1) und23 rfl siz23 rfl rfl (arr_size _ _ _) rfl ⟨[], trivial⟩ ?_
  refine e_move rfl rfl ?_
  refine e_move rfl rfl ?_
  refine e_call rfl ent11 (unsealed_big2 k nn va vt ad tx hva hvt h h2) rfl rfl ?_
  refine e_move rfl rfl ?_
  refine e_extract rfl rfl rfl ?_
  refine e_extract rfl rfl rfl ?_
  refine e_assign rfl rfl ?_
  refine e_assign rfl rfl ?_
  refine e_nil ?_
  refine e_seq ?_
  refine e_plain ?_
  refine e_move rfl rfl ?_
  refine e_move rfl rfl ?_
  refine e_callV [] rfl rfl ent9 trivial (sameBytes_fn (G := []) nilS nilS [] [] (.inl ⟨rfl, rfl, none, 0, rfl, fun _ => rfl⟩ : Shows [] 1 nilS ([] : List Nat).length (([] : List Nat).map by8)) (.inl ⟨rfl, rfl, none, 0, rfl, fun _ => rfl⟩ : Shows [] 1 nilS ([] : List Nat).length (([] : List Nat).map by8)) (by simp) (by simp)) rfl rfl rfl ?_
  refine e_as (congrArg Value.bool (decide_eq_true rfl)) ?_
  refine e_move rfl rfl ?_
  refine e_yes rfl rfl rfl ?_
  refine e_move rfl rfl ?_
  refine e_yes rfl rfl rfl ?_
  refine e_move rfl rfl ?_
  refine e_yes rfl rfl rfl ?_
  refine e_eq rfl rfl rfl ?_
  refine e_as (congrArg Value.bool (decide_eq_true rfl)) ?_
  refine e_pickT rfl rfl rfl rfl ?_
  refine e_assign rfl rfl ?_
  refine e_nil ?_
  refine e_ret ?_
  exact ⟨_, rfl, .tmp rfl⟩

set_option maxHeartbeats 400000 in
theorem sealOpens_short (k nn : Nat → Nat) (va vt : Value) (ad tx : List Nat) (hk : ∀ j, j < 32 → k j < 256) (hn : ∀ j, j < 12 → nn j < 256) (hva : Shows G 1 va ad.length (ad.map by8)) (hvt : Shows G 1 vt tx.length (tx.map by8)) (hab : (∀ b ∈ ad, b < 256)) (htb : (∀ b ∈ tx, b < 256)) (h : ad.length ≤ 200) (h2 : tx.length < 16) (hOs : ∀ (G : Mem) (k nn : Nat → Nat) (va vt : Value) (ad tx : List Nat), (∀ j, j < 32 → k j < 256) → (∀ j, j < 12 → nn j < 256) → Shows G 1 va ad.length (ad.map by8) → Shows G 1 vt tx.length (tx.map by8) → (∀ b ∈ ad, b < 256) → (∀ b ∈ tx, b < 256) → ad.length ≤ 200 → tx.length < 16 → Fn Try.prog G 10 #[.agg (arr .u8 32 k), .agg (arr .u8 12 nn), va, vt] (.tuple #[nilS, ii 4])) : Fn Try.prog G 4 #[.agg (arr .u8 32 k), .agg (arr .u8 12 nn), va, vt] (.bool true) := by
  refine fn1 (n := 37) Try.func4 rfl rfl (by simp) (argE [.agg (arr .u8 32 k), .agg (arr .u8 12 nn), va, vt] 0) (argE_ok _) ?_
  refine e_seq ?_
  refine e_plain ?_
  refine e_box 0 rfl rfl fun r1 => ?_
  refine e_box 1 rfl rfl fun r2 => ?_
  refine e_assign rfl rfl ?_
  refine e_nil ?_
  refine e_seq ?_
  refine e_plain ?_
  refine e_loadA (i := 0) und22 rfl siz22 rfl rfl (arr_size _ _ _) rfl ⟨[], trivial⟩ ?_
  refine e_loadA (i := 1) und23 rfl siz23 rfl rfl (arr_size _ _ _) rfl ⟨[], trivial⟩ ?_
  refine e_move rfl rfl ?_
  refine e_move rfl rfl ?_
  refine e_call rfl ent10 (hOs G k nn va vt ad tx hk hn hva hvt hab htb h h2) rfl rfl ?_
  refine e_move rfl rfl ?_
  refine e_extract rfl rfl rfl ?_
  refine e_extract rfl rfl rfl ?_
  refine e_assign rfl rfl ?_
  refine e_assign rfl rfl ?_
  refine e_nil ?_
  refine e_seq ?_
  refine e_plain ?_
  refine e_loadA (i := 0) und22 rfl siz22 rfl rfl (arr_size _ _ _) rfl ⟨[], trivial⟩ ?_
  refine e_loadA (i := 1) und23 rfl siz23 rfl rfl (arr_size _ _ _) rfl ⟨[], trivial⟩ ?_
  refine e_move rfl rfl ?_
  refine e_move rfl rfl ?_
  refine e_call rfl ent11 (unsealed_short k nn va vt ad tx hva hvt h h2) rfl rfl ?_
  refine e_move rfl rfl ?_
  refine e_extract rfl rfl rfl ?_
  refine e_extract rfl rfl rfl ?_
  refine e_assign rfl rfl ?_
  refine e_assign rfl rfl ?_
  refine e_nil ?_
  refine e_seq ?_
  refine e_plain ?_
  refine e_move rfl rfl ?_
  refine e_move rfl rfl ?_
  refine e_callV [] rfl rfl ent9 trivial (sameBytes_fn (G := []) nilS nilS [] [] (.inl ⟨rfl, rfl, none, 0, rfl, fun _ => rfl⟩ : Shows [] 1 nilS ([] : List Nat).length (([] : List Nat).map by8)) (.inl ⟨rfl, rfl, none, 0, rfl, fun _ => rfl⟩ : Shows [] 1 nilS ([] : List Nat).length (([] : List Nat).map by8)) (by simp) (by simp)) rfl rfl rfl ?_
  refine e_as (congrArg Value.bool (decide_eq_true rfl)) ?_
  refine e_move rfl rfl ?_
  refine e_yes rfl rfl rfl ?_
  refine e_move rfl rfl ?_
  refine e_yes rfl rfl rfl ?_
  refine e_move rfl rfl ?_
  refine e_yes rfl rfl rfl ?_
  refine e_eq rfl rfl rfl ?_
  refine e_as (congrArg Value.bool (decide_eq_true rfl)) ?_
  refine e_pickT rfl rfl rfl rfl ?_
  refine e_assign rfl rfl ?_
  refine e_nil ?_
  refine e_ret ?_
  exact ⟨_, rfl, .tmp rfl⟩

set_option maxHeartbeats 400000 in
theorem sealOpens_auth (k nn : Nat → Nat) (va vt : Value) (ad tx : List Nat) (hk : ∀ j, j < 32 → k j < 256) (hn : ∀ j, j < 12 → nn j < 256) (hva : Shows G 1 va ad.length (ad.map by8)) (hvt : Shows G 1 vt tx.length (tx.map by8)) (hab : (∀ b ∈ ad, b < 256)) (htb : (∀ b ∈ tx, b < 256)) (h : ad.length ≤ 200) (h2 : 16 ≤ tx.length) (h3 : tx.length ≤ 816) (ho : ¬ opensL k nn ad tx) (hOa : ∀ (G : Mem) (k nn : Nat → Nat) (va vt : Value) (ad tx : List Nat), (∀ j, j < 32 → k j < 256) → (∀ j, j < 12 → nn j < 256) → Shows G 1 va ad.length (ad.map by8) → Shows G 1 vt tx.length (tx.map by8) → (∀ b ∈ ad, b < 256) → (∀ b ∈ tx, b < 256) → ad.length ≤ 200 → 16 ≤ tx.length → tx.length ≤ 816 → ¬ opensL k nn ad tx → Fn Try.prog G 10 #[.agg (arr .u8 32 k), .agg (arr .u8 12 nn), va, vt] (.tuple #[nilS, ii 10])) : Fn Try.prog G 4 #[.agg (arr .u8 32 k), .agg (arr .u8 12 nn), va, vt] (.bool true) := by
  refine fn1 (n := 37) Try.func4 rfl rfl (by simp) (argE [.agg (arr .u8 32 k), .agg (arr .u8 12 nn), va, vt] 0) (argE_ok _) ?_
  refine e_seq ?_
  refine e_plain ?_
  refine e_box 0 rfl rfl fun r1 => ?_
  refine e_box 1 rfl rfl fun r2 => ?_
  refine e_assign rfl rfl ?_
  refine e_nil ?_
  refine e_seq ?_
  refine e_plain ?_
  refine e_loadA (i := 0) und22 rfl siz22 rfl rfl (arr_size _ _ _) rfl ⟨[], trivial⟩ ?_
  refine e_loadA (i := 1) und23 rfl siz23 rfl rfl (arr_size _ _ _) rfl ⟨[], trivial⟩ ?_
  refine e_move rfl rfl ?_
  refine e_move rfl rfl ?_
  refine e_call rfl ent10 (hOa G k nn va vt ad tx hk hn hva hvt hab htb h h2 h3 ho) rfl rfl ?_
  refine e_move rfl rfl ?_
  refine e_extract rfl rfl rfl ?_
  refine e_extract rfl rfl rfl ?_
  refine e_assign rfl rfl ?_
  refine e_assign rfl rfl ?_
  refine e_nil ?_
  refine e_seq ?_
  refine e_plain ?_
  refine e_loadA (i := 0) und22 rfl siz22 rfl rfl (arr_size _ _ _) rfl ⟨[], trivial⟩ ?_
  refine e_loadA (i := 1) und23 rfl siz23 rfl rfl (arr_size _ _ _) rfl ⟨[], trivial⟩ ?_
  refine e_move rfl rfl ?_
  refine e_move rfl rfl ?_
  refine e_call rfl ent11 (unsealed_auth k nn va vt ad tx hk hn hva hvt hab htb h h2 h3 ho) rfl rfl ?_
  refine e_move rfl rfl ?_
  refine e_extract rfl rfl rfl ?_
  refine e_extract rfl rfl rfl ?_
  refine e_assign rfl rfl ?_
  refine e_assign rfl rfl ?_
  refine e_nil ?_
  refine e_seq ?_
  refine e_plain ?_
  refine e_move rfl rfl ?_
  refine e_move rfl rfl ?_
  refine e_callV [] rfl rfl ent9 trivial (sameBytes_fn (G := []) nilS nilS [] [] (.inl ⟨rfl, rfl, none, 0, rfl, fun _ => rfl⟩ : Shows [] 1 nilS ([] : List Nat).length (([] : List Nat).map by8)) (.inl ⟨rfl, rfl, none, 0, rfl, fun _ => rfl⟩ : Shows [] 1 nilS ([] : List Nat).length (([] : List Nat).map by8)) (by simp) (by simp)) rfl rfl rfl ?_
  refine e_as (congrArg Value.bool (decide_eq_true rfl)) ?_
  refine e_move rfl rfl ?_
  refine e_yes rfl rfl rfl ?_
  refine e_move rfl rfl ?_
  refine e_yes rfl rfl rfl ?_
  refine e_move rfl rfl ?_
  refine e_yes rfl rfl rfl ?_
  refine e_eq rfl rfl rfl ?_
  refine e_as (congrArg Value.bool (decide_eq_true rfl)) ?_
  refine e_pickT rfl rfl rfl rfl ?_
  refine e_assign rfl rfl ?_
  refine e_nil ?_
  refine e_ret ?_
  exact ⟨_, rfl, .tmp rfl⟩

set_option maxHeartbeats 2000000 in
theorem sealOpens_ok (k nn : Nat → Nat) (va vt : Value) (ad tx : List Nat) (hk : ∀ j, j < 32 → k j < 256) (hn : ∀ j, j < 12 → nn j < 256) (hva : Shows G 1 va ad.length (ad.map by8)) (hvt : Shows G 1 vt tx.length (tx.map by8)) (hab : (∀ b ∈ ad, b < 256)) (htb : (∀ b ∈ tx, b < 256)) (h : ad.length ≤ 200) (h2 : 16 ≤ tx.length) (h3 : tx.length ≤ 816) (ho : opensL k nn ad tx) (hOo : ∀ (G : Mem) (k nn : Nat → Nat) (va vt : Value) (ad tx : List Nat), (∀ j, j < 32 → k j < 256) → (∀ j, j < 12 → nn j < 256) → Shows G 1 va ad.length (ad.map by8) → Shows G 1 vt tx.length (tx.map by8) → (∀ b ∈ ad, b < 256) → (∀ b ∈ tx, b < 256) → ad.length ≤ 200 → 16 ≤ tx.length → tx.length ≤ 816 → opensL k nn ad tx → Fx Try.prog G [] 10 #[.agg (arr .u8 32 k), .agg (arr .u8 12 nn), va, vt] (fun v l1 nw => l1 = [] ∧ ∃ v', v = .tuple #[v', ii 0] ∧ OwnS 5 1 v' (openL k nn tx).length ((openL k nn tx).map by8) nw)) : Fn Try.prog G 4 #[.agg (arr .u8 32 k), .agg (arr .u8 12 nn), va, vt] (.bool true) := by
  refine fn1 (n := 37) Try.func4 rfl rfl (by simp) (argE [.agg (arr .u8 32 k), .agg (arr .u8 12 nn), va, vt] 0) (argE_ok _) ?_
  refine e_seq ?_
  refine e_plain ?_
  refine e_box 0 rfl rfl fun r1 => ?_
  refine e_box 1 rfl rfl fun r2 => ?_
  refine e_assign rfl rfl ?_
  refine e_nil ?_
  refine e_seq ?_
  refine e_plainR ⟨[], 4, []⟩ ?_
  refine e_loadA (i := 0) und22 rfl siz22 rfl rfl (arr_size _ _ _) rfl ⟨[], trivial⟩ ?_
  refine e_loadA (i := 1) und23 rfl siz23 rfl rfl (arr_size _ _ _) rfl ⟨[], trivial⟩ ?_
  refine e_move rfl rfl ?_
  refine e_move rfl rfl ?_
  refine e_callN 2 (fun v => .tuple #[v, ii 0]) rfl rfl ent10 seenG (hOo G k nn va vt ad tx hk hn hva hvt hab htb h h2 h3 ho) (by rw [openL_len k nn tx]; simp only [maxLen]; omega) (by rw [List.length_map, Nat.mul_one]) rfl rfl fun v1_1 oz1_1 ho1_1 => ?_
  refine e_move rfl rfl ?_
  refine e_extract rfl rfl rfl ?_
  refine e_extract rfl rfl rfl ?_
  refine e_assign rfl rfl ?_
  refine e_assign rfl rfl ?_
  refine e_nil ?_
  refine e_seq ?_
  refine e_plainR ⟨[], 4, []⟩ ?_
  refine e_loadA (i := 0) und22 rfl siz22 rfl rfl (arr_size _ _ _) rfl ⟨[], trivial⟩ ?_
  refine e_loadA (i := 1) und23 rfl siz23 rfl rfl (arr_size _ _ _) rfl ⟨[], trivial⟩ ?_
  refine e_move rfl rfl ?_
  refine e_move rfl rfl ?_
  refine e_callN 3 (fun v => .tuple #[v, ii 0]) rfl rfl ent11 seenG (unsealed_ok k nn va vt ad tx hk hn hva hvt hab htb h h2 h3 ho) (by rw [openL_len k nn tx]; simp only [maxLen]; omega) (by rw [List.length_map, Nat.mul_one]) rfl rfl fun v1_2 oz1_2 ho1_2 => ?_
  refine e_move rfl rfl ?_
  refine e_extract rfl rfl rfl ?_
  refine e_extract rfl rfl rfl ?_
  refine e_assign rfl rfl ?_
  refine e_assign rfl rfl ?_
  refine e_nil ?_
  refine e_seq ?_
  refine e_plain ?_
  refine e_move rfl rfl ?_
  refine e_move rfl rfl ?_
  refine e_callV (oz1_1.toList ++ oz1_2.toList) rfl rfl ent9 (subM_app (subM_opt (i := 2) rfl) (subM_opt (i := 3) rfl)) (sameBytes_fn _ _ (openL k nn tx) (openL k nn tx) (ho1_1.shows.mono (fun x h => List.mem_append_left _ h)) (ho1_2.shows.mono (fun x h => List.mem_append_right _ h)) (strl_lt _ _ _ _ _) (strl_lt _ _ _ _ _)) rfl rfl rfl ?_
  refine e_as (congrArg Value.bool (decide_eq_true rfl)) ?_
  refine e_move rfl rfl ?_
  refine e_yes rfl rfl rfl ?_
  refine e_move rfl rfl ?_
  refine e_yes rfl rfl rfl ?_
  refine e_move rfl rfl ?_
  refine e_yes rfl rfl rfl ?_
  refine e_eq rfl rfl rfl ?_
  refine e_as (congrArg Value.bool (decide_eq_true rfl)) ?_
  refine e_pickT rfl rfl rfl rfl ?_
  refine e_assign rfl rfl ?_
  refine e_nil ?_
  refine e_ret ?_
  exact ⟨_, rfl, .tmp rfl⟩

end Go.Proofs.Ytoalabpbohkcjaa

/-
  Walks, written by a program of ours off the loaded functions.
-/
namespace Go.Proofs.Ytoalabpbohkcjaa
open Go Go.RowKit


theorem ent12 : enters Try.prog 12 = true := by kernel_rfl
theorem ent13 : enters Try.prog 13 = true := by kernel_rfl
theorem siz9 : (Try.prog.info? 9).map (·.size) = some 1 := by kernel_rfl
theorem siz31 : (Try.prog.info? 31).map (·.size) = some 4 := by kernel_rfl
theorem und31 : Try.prog.underlying 31 = some (.struct #[.mk "Kind" 3 0 false "" "" 0, .mk "A" 3 1 false "" "" 8, .mk "B" 3 2 false "" "" 16, .mk "Text" 9 3 false "" "" 24]) := by kernel_rfl
theorem zer23 : (Try.prog.info? 23).bind (·.zero) = some (.agg (arr .u8 12 fun _ => 0)) := by kernel_rfl

variable {G : Mem}

set_option maxHeartbeats 400000 in
theorem picked_fn (z : Int) (m : Nat) (hm : 0 < m) (hm2 : m < 4294967296) : Fn Try.prog G 13 #[.int .i64 z, ii m] (ii (pkn z m)) := by
  have htm := tmod_bd z hm
  refine fn1 (n := 14) Try.func13 rfl rfl (by simp) (argE [.int .i64 z, ii m] 0) (argE_ok _) ?_
  refine e_seq ?_
  refine e_plain ?_
  refine e_assign rfl rfl ?_
  refine e_nil ?_
  refine e_seq ?_
  refine e_plain ?_
  refine e_move rfl rfl ?_
  refine e_move rfl rfl ?_
  refine e_rem_z rfl rfl rfl (by omega) ?_
  refine e_assign rfl rfl ?_
  refine e_nil ?_
  refine e_seq ?_
  refine e_seq ?_
  refine e_plain ?_
  refine e_move rfl rfl ?_
  refine e_lt rfl rfl rfl ?_
  refine e_nil ?_
  refine e_cond rfl ?_ ?_
  · intro hc0
    have hc0 := of_decide_eq_true hc0
    refine e_plain ?_
    refine e_move rfl rfl ?_
    refine e_move rfl rfl ?_
    refine e_add_z rfl rfl rfl (by omega) (by omega) ?_
    refine e_as (congrArg (Value.int .i64) (pkn_neg hm hc0)) ?_
    refine e_assign rfl rfl ?_
    refine e_nil ?_
    refine e_seq ?_
    refine e_plain ?_
    refine e_move rfl rfl ?_
    refine e_assign rfl rfl ?_
    refine e_nil ?_
    refine e_ret ?_
    exact ⟨_, rfl, .tmp rfl⟩
  · intro hc0
    have hc0 := of_decide_eq_false hc0
    rw [ii, ← pkn_pos hm hc0]
    refine e_skip ?_
    refine e_seq ?_
    refine e_plain ?_
    refine e_move rfl rfl ?_
    refine e_assign rfl rfl ?_
    refine e_nil ?_
    refine e_ret ?_
    exact ⟨_, rfl, .tmp rfl⟩

set_option maxHeartbeats 400000 in
theorem nonce_fn (za zb zc : Int) (tx : List Nat) (ht : ∀ x ∈ tx, x < 256) : Fn Try.prog G 12 #[.agg #[.int .i64 za, .int .i64 zb, .int .i64 zc, sv tx]] (.agg (arr .u8 12 (nonf tx zb zc))) := by
  refine fn1 (n := 17) Try.func12 rfl rfl (by simp) (argE [.agg #[.int .i64 za, .int .i64 zb, .int .i64 zc, sv tx]] 0) (argE_ok _) ?_
  refine e_seq ?_
  refine e_plain ?_
  refine e_box 0 rfl rfl fun r1 => ?_
  refine e_alloc 1 zer23 rfl fun r2 => ?_
  refine e_nil ?_
  refine e_seq ?_
  refine e_plain ?_
  refine e_alloc 2 zer23 rfl fun r3 => ?_
  refine e_nil ?_
  refine e_seq ?_
  refine e_draw mixed (by kernel_rfl) ?_
  refine e_sliceA 0 12 und23 siz5 rfl rfl rfl rfl rfl (by omega) (by omega) (by omega) rfl ?_
  refine e_fld (3) und31 rfl siz9 rfl rfl rfl ?_
  refine e_load1 (i := 0) und9 rfl rfl rfl rfl rfl ⟨[], trivial⟩ ?_
  refine e_copyStr (i := 2) und24 siz5 rfl rfl ht rfl (by omega) rfl ?_
  refine e_nil ?_
  refine e_seq ?_
  refine e_drawR ⟨[r3], 1, []⟩ mixed (by kernel_rfl) ?_
  refine e_fld (1) und31 rfl siz3 rfl rfl rfl ?_
  refine e_load1 (i := 0) und3 rfl rfl rfl rfl rfl ⟨[2], rfl, rfl, trivial⟩ ?_
  refine e_conv_u8z und3 und5 rfl rfl rfl ?_
  refine e_fld (2) und31 rfl siz3 rfl rfl rfl ?_
  refine e_load1 (i := 0) und3 rfl rfl rfl rfl rfl ⟨[2], rfl, rfl, trivial⟩ ?_
  refine e_conv_u8z und3 und5 rfl rfl rfl ?_
  refine e_index0 (j := 10) und23 siz5 rfl rfl (by omega) rfl ?_
  refine e_storeN (i := 2) siz5 rfl rfl rfl (by omega) (.inr (by simp)) ?_
  refine e_index0 (j := 11) und23 siz5 rfl rfl (by omega) rfl ?_
  refine e_storeN (i := 2) siz5 rfl rfl rfl (by omega) (.inr (by simp)) ?_
  refine e_nil ?_
  refine e_seq ?_
  refine e_plain ?_
  refine e_loadA (i := 2) und23 rfl siz23 rfl rfl (arr_size _ _ _) rfl ⟨[], trivial⟩ ?_
  refine e_as (congrArg Value.agg (non_end tx zb zc)) ?_
  refine e_storeA (i := 1) siz23 rfl rfl (arr_size _ _ _) arr_one rfl (arr_sz _ _ _ _ _) (.inl rfl) ?_
  refine e_nil ?_
  refine e_ret ?_
  exact ⟨_, rfl, .cell (i := 1) rfl rfl und23 rfl siz23 (arr_size _ _ _)⟩

set_option maxHeartbeats 4000000 in
theorem sealBack_fn (k : Nat → Nat) (za zb zc : Int) (tr : List Nat) (va vt : Value) (ad0 tx0 : List Nat) (hk : ∀ j, j < 32 → k j < 256) (htr : ∀ x ∈ tr, x < 256) (hva0 : Shows G 1 va ad0.length (ad0.map by8)) (hvt0 : Shows G 1 vt tx0.length (tx0.map by8)) (hab0 : (∀ b ∈ ad0, b < 256)) (htb0 : (∀ b ∈ tx0, b < 256)) (hSo : ∀ (G : Mem) (k nn : Nat → Nat) (va vt : Value) (ad tx : List Nat), (∀ j, j < 32 → k j < 256) → (∀ j, j < 12 → nn j < 256) → Shows G 1 va ad.length (ad.map by8) → Shows G 1 vt tx.length (tx.map by8) → (∀ b ∈ ad, b < 256) → (∀ b ∈ tx, b < 256) → ad.length ≤ 200 → tx.length ≤ 800 → Fx Try.prog G [] 7 #[.agg (arr .u8 32 k), .agg (arr .u8 12 nn), va, vt] (fun v l1 nw => l1 = [] ∧ ∃ v', v = .tuple #[v', ii 0] ∧ OwnS 5 1 v' (sealL k nn ad tx).length ((sealL k nn ad tx).map by8) nw)) (hOs : ∀ (G : Mem) (k nn : Nat → Nat) (va vt : Value) (ad tx : List Nat), (∀ j, j < 32 → k j < 256) → (∀ j, j < 12 → nn j < 256) → Shows G 1 va ad.length (ad.map by8) → Shows G 1 vt tx.length (tx.map by8) → (∀ b ∈ ad, b < 256) → (∀ b ∈ tx, b < 256) → ad.length ≤ 200 → tx.length < 16 → Fn Try.prog G 10 #[.agg (arr .u8 32 k), .agg (arr .u8 12 nn), va, vt] (.tuple #[nilS, ii 4])) (hOo : ∀ (G : Mem) (k nn : Nat → Nat) (va vt : Value) (ad tx : List Nat), (∀ j, j < 32 → k j < 256) → (∀ j, j < 12 → nn j < 256) → Shows G 1 va ad.length (ad.map by8) → Shows G 1 vt tx.length (tx.map by8) → (∀ b ∈ ad, b < 256) → (∀ b ∈ tx, b < 256) → ad.length ≤ 200 → 16 ≤ tx.length → tx.length ≤ 816 → opensL k nn ad tx → Fx Try.prog G [] 10 #[.agg (arr .u8 32 k), .agg (arr .u8 12 nn), va, vt] (fun v l1 nw => l1 = [] ∧ ∃ v', v = .tuple #[v', ii 0] ∧ OwnS 5 1 v' (openL k nn tx).length ((openL k nn tx).map by8) nw)) : Fn Try.prog G 5 #[.agg (arr .u8 32 k), .agg #[.int .i64 za, .int .i64 zb, .int .i64 zc, sv tr], va, vt] (.bool true) := by
  obtain ⟨ad, had⟩ : ∃ ad, ad = ad0.take 200 := ⟨_, rfl⟩
  have hal : ad.length ≤ 200 := by rw [had]; simp; omega
  have hab : ∀ x ∈ ad, x < 256 := fun x hx => hab0 x (by rw [had] at hx; exact List.mem_of_mem_take hx)
  have hva : Shows G 1 (slPart 1 va 0 (min ad0.length 200)) ad.length (ad.map by8) := hva0.cut (by omega) (by omega) ((take_minN ad0 200).trans had.symm)
  obtain ⟨tx, htx⟩ : ∃ tx, tx = tx0.take 400 := ⟨_, rfl⟩
  have htl : tx.length ≤ 400 := by rw [htx]; simp; omega
  have htb : ∀ x ∈ tx, x < 256 := fun x hx => htb0 x (by rw [htx] at hx; exact List.mem_of_mem_take hx)
  have hvt : Shows G 1 (slPart 1 vt 0 (min tx0.length 400)) tx.length (tx.map by8) := hvt0.cut (by omega) (by omega) ((take_minN tx0 400).trans htx.symm)
  obtain ⟨nn, hnn⟩ : ∃ nn, nn = nonf tr zb zc := ⟨_, rfl⟩
  have hnL : ∀ j, j < 12 → nn j < 256 := by rw [hnn]; exact nonf_lt htr zb zc
  have hse := sealL_len k nn ad tx
  have hol := openL_len k nn (sealL k nn ad tx)
  obtain ⟨c, hc⟩ : ∃ c, c = pkn zb (min (tx.length + 16 + 1) 16) := ⟨_, rfl⟩
  have hc16 : c < 16 := by rw [hc]; exact Nat.lt_of_lt_of_le (pkn_lt zb (by omega)) (by omega)
  refine fn1 (n := 85) Try.func5 rfl rfl (by simp) (argE [.agg (arr .u8 32 k), .agg #[.int .i64 za, .int .i64 zb, .int .i64 zc, sv tr], va, vt] 0) (argE_ok _) ?_
  refine e_seq ?_
  refine e_plain ?_
  refine e_box 0 rfl rfl fun r1 => ?_
  refine e_box 1 rfl rfl fun r2 => ?_
  refine e_assign rfl rfl ?_
  refine e_nil ?_
  refine e_seq ?_
  refine e_draw mixed (by kernel_rfl) ?_
  refine e_move rfl rfl ?_
  refine e_move rfl rfl ?_
  refine e_lenV hva0 und24 rfl rfl rfl ?_
  refine e_min (q := 200) rfl rfl rfl rfl ?_
  refine e_sliceV 0 (min ad0.length 200) hva0 und24 siz5 rfl rfl rfl rfl ⟨_, rfl⟩ (by omega) (by omega) rfl ?_
  refine e_move rfl rfl ?_
  refine e_move rfl rfl ?_
  refine e_lenV hvt0 und24 rfl rfl rfl ?_
  refine e_min (q := 400) rfl rfl rfl rfl ?_
  refine e_sliceV 0 (min tx0.length 400) hvt0 und24 siz5 rfl rfl rfl rfl ⟨_, rfl⟩ (by omega) (by omega) rfl ?_
  refine e_assign rfl rfl ?_
  refine e_assign rfl rfl ?_
  refine e_nil ?_
  refine e_seq ?_
  refine e_drawR ⟨[], 4, []⟩ mixed (by kernel_rfl) ?_
  refine e_loadA (i := 0) und22 rfl siz22 rfl rfl (arr_size _ _ _) rfl ⟨[], trivial⟩ ?_
  refine e_loadA (i := 1) und31 rfl siz31 rfl rfl rfl rfl ⟨[], trivial⟩ ?_
  refine e_call rfl ent12 (nonce_fn za zb zc tr htr) rfl rfl ?_
  refine e_as (congrArg (fun f => Value.agg (arr .u8 12 f)) hnn.symm) ?_
  refine e_move rfl rfl ?_
  refine e_move rfl rfl ?_
  refine e_callN 2 (fun v => .tuple #[v, ii 0]) rfl rfl ent7 seenG (hSo G k nn _ _ ad tx hk hnL hva hvt hab htb hal (by omega)) (by rw [hse]; simp only [maxLen]; omega) (by rw [List.length_map, Nat.mul_one]) rfl rfl fun v1_1 oz1_1 ho1_1 => ?_
  refine e_move rfl rfl ?_
  refine e_extract rfl rfl rfl ?_
  refine e_extract rfl rfl rfl ?_
  refine e_assign rfl rfl ?_
  refine e_assign rfl rfl ?_
  refine e_nil ?_
  refine e_seq ?_
  refine e_drawR ⟨[], 4, []⟩ mixed (by kernel_rfl) ?_
  refine e_loadA (i := 0) und22 rfl siz22 rfl rfl (arr_size _ _ _) rfl ⟨[], trivial⟩ ?_
  refine e_loadA (i := 1) und31 rfl siz31 rfl rfl rfl rfl ⟨[], trivial⟩ ?_
  refine e_call rfl ent12 (nonce_fn za zb zc tr htr) rfl rfl ?_
  refine e_as (congrArg (fun f => Value.agg (arr .u8 12 f)) hnn.symm) ?_
  refine e_move rfl rfl ?_
  refine e_move rfl rfl ?_
  refine e_callN 3 (fun v => .tuple #[v, ii 0]) rfl rfl ent10 (seen_app seenG (seenM 2 rfl ⟨[], trivial⟩)) (hOo (G ++ oz1_1.toList) k nn _ _ ad (sealL k nn ad tx) hk hnL (hva.mono (fun x h => List.mem_append_left _ h)) (ho1_1.shows.mono (fun x h => List.mem_append_right _ h)) hab (sealL_lt k nn ad tx) hal (by omega) (by omega) (seal_opens k nn ad tx)) (by rw [hol, hse]; simp only [maxLen]; omega) (by rw [List.length_map, Nat.mul_one]) rfl rfl fun v1_2 oz1_2 ho1_2 => ?_
  refine e_move rfl rfl ?_
  refine e_extract rfl rfl rfl ?_
  refine e_extract rfl rfl rfl ?_
  refine e_assign rfl rfl ?_
  refine e_assign rfl rfl ?_
  refine e_nil ?_
  refine e_seq ?_
  refine e_draw mixed (by kernel_rfl) ?_
  refine e_loadA (i := 0) und22 rfl siz22 rfl rfl (arr_size _ _ _) rfl ⟨[], trivial⟩ ?_
  refine e_loadA (i := 1) und31 rfl siz31 rfl rfl rfl rfl ⟨[], trivial⟩ ?_
  refine e_call rfl ent12 (nonce_fn za zb zc tr htr) rfl rfl ?_
  refine e_as (congrArg (fun f => Value.agg (arr .u8 12 f)) hnn.symm) ?_
  refine e_move rfl rfl ?_
  refine e_move rfl rfl ?_
  refine e_fld (1) und31 rfl siz3 rfl rfl rfl ?_
  refine e_load1 (i := 1) und3 rfl rfl rfl rfl rfl ⟨[], trivial⟩ ?_
  refine e_move rfl rfl ?_
  refine e_lenV ho1_1.shows und24 rfl rfl rfl ?_
  refine e_as (congrArg ii hse) ?_
  refine e_add_i (q := 1) rfl rfl rfl (by omega) ?_
  refine e_min (q := 16) rfl rfl rfl rfl ?_
  refine e_call rfl ent13 (picked_fn zb (min (tx.length + 16 + 1) 16) (by omega) (by omega)) rfl rfl ?_
  refine e_as (congrArg ii hc.symm) ?_
  refine e_sliceV 0 c ho1_1.shows und24 siz5 rfl rfl rfl rfl ⟨_, rfl⟩ (by omega) (by rw [hse]; omega) rfl ?_
  refine e_callS rfl rfl ent10 (seen_app seenG (seenM 2 rfl ⟨[], trivial⟩)) (hOs (G ++ oz1_1.toList) k nn _ _ ad ((sealL k nn ad tx).take c) hk hnL (hva.mono (fun x h => List.mem_append_left _ h)) ((Shows.cut (l' := (sealL k nn ad tx).take c) ho1_1.shows (by omega) (by rw [hse]; omega) (by simp)).mono (fun x h => List.mem_append_right _ h)) hab (fun x hx => (sealL_lt k nn ad tx) x (List.mem_of_mem_take hx)) hal (by rw [List.length_take]; omega)) rfl rfl ?_
  refine e_move rfl rfl ?_
  refine e_extract rfl rfl rfl ?_
  refine e_extract rfl rfl rfl ?_
  refine e_assign rfl rfl ?_
  refine e_assign rfl rfl ?_
  refine e_nil ?_
  refine e_seq ?_
  refine e_plain ?_
  refine e_move rfl rfl ?_
  refine e_eq rfl rfl rfl ?_
  refine e_as (congrArg Value.bool (decide_eq_true rfl)) ?_
  refine e_move rfl rfl ?_
  refine e_yes rfl rfl rfl ?_
  refine e_move rfl rfl ?_
  refine e_yes rfl rfl rfl ?_
  refine e_eq rfl rfl rfl ?_
  refine e_as (congrArg Value.bool (decide_eq_true rfl)) ?_
  refine e_pickT rfl rfl rfl rfl ?_
  refine e_move rfl rfl ?_
  refine e_yes rfl rfl rfl ?_
  refine e_move rfl rfl ?_
  refine e_yes rfl rfl rfl ?_
  refine e_eq rfl rfl rfl ?_
  refine e_as (congrArg Value.bool (decide_eq_true rfl)) ?_
  refine e_pickT rfl rfl rfl rfl ?_
  refine e_move rfl rfl ?_
  refine e_yes rfl rfl rfl ?_
  refine e_move rfl rfl ?_
  refine e_yes rfl rfl rfl ?_
  refine e_lenV ho1_1.shows und24 rfl rfl rfl ?_
  refine e_as (congrArg ii hse) ?_
  refine e_yes rfl rfl rfl ?_
  refine e_move rfl rfl ?_
  refine e_yes rfl rfl rfl ?_
  refine e_lenV hvt und24 rfl rfl rfl ?_
  refine e_yes rfl rfl rfl ?_
  refine e_add_i (q := 16) rfl rfl rfl (by omega) ?_
  refine e_yes rfl rfl rfl ?_
  refine e_eq rfl rfl rfl ?_
  refine e_as (congrArg Value.bool (decide_eq_true rfl)) ?_
  refine e_pickT rfl rfl rfl rfl ?_
  refine e_move rfl rfl ?_
  refine e_yes rfl rfl rfl ?_
  refine e_move rfl rfl ?_
  refine e_yes rfl rfl rfl ?_
  refine e_conv_strV (l := (openL k nn (sealL k nn ad tx))) ho1_2.shows (seenM 3 rfl ⟨[], trivial⟩) und24 und5 und9 rfl rfl rfl ?_
  refine e_as (congrArg sv (seal_open k nn ad htb)) ?_
  refine e_yes rfl rfl rfl ?_
  refine e_move rfl rfl ?_
  refine e_yes rfl rfl rfl ?_
  refine e_conv_strV (l := tx) hvt seenG und24 und5 und9 rfl rfl rfl ?_
  refine e_yes rfl rfl rfl ?_
  refine e_eqStr rfl rfl rfl htb htb ?_
  refine e_as (congrArg Value.bool (decide_eq_true rfl)) ?_
  refine e_pickT rfl rfl rfl rfl ?_
  refine e_assign rfl rfl ?_
  refine e_nil ?_
  refine e_ret ?_
  exact ⟨_, rfl, .tmp rfl⟩

set_option maxHeartbeats 4000000 in
theorem sealFixed_a (k : Nat → Nat) (za zb zc : Int) (tr : List Nat) (va vt : Value) (ad0 tx0 : List Nat) (hk : ∀ j, j < 32 → k j < 256) (htr : ∀ x ∈ tr, x < 256) (hva0 : Shows G 1 va ad0.length (ad0.map by8)) (hvt0 : Shows G 1 vt tx0.length (tx0.map by8)) (hab0 : (∀ b ∈ ad0, b < 256)) (htb0 : (∀ b ∈ tx0, b < 256)) (z : Int) (y : Nat) (hop : opensL k (nonf tr zb zc) (ad0.take 200) (flip1 (sealL k (nonf tr zb zc) (ad0.take 200) (tx0.take 400)) (pkn z ((tx0.take 400).length + 16)) y)) (hSo : ∀ (G : Mem) (k nn : Nat → Nat) (va vt : Value) (ad tx : List Nat), (∀ j, j < 32 → k j < 256) → (∀ j, j < 12 → nn j < 256) → Shows G 1 va ad.length (ad.map by8) → Shows G 1 vt tx.length (tx.map by8) → (∀ b ∈ ad, b < 256) → (∀ b ∈ tx, b < 256) → ad.length ≤ 200 → tx.length ≤ 800 → Fx Try.prog G [] 7 #[.agg (arr .u8 32 k), .agg (arr .u8 12 nn), va, vt] (fun v l1 nw => l1 = [] ∧ ∃ v', v = .tuple #[v', ii 0] ∧ OwnS 5 1 v' (sealL k nn ad tx).length ((sealL k nn ad tx).map by8) nw)) (hOo : ∀ (G : Mem) (k nn : Nat → Nat) (va vt : Value) (ad tx : List Nat), (∀ j, j < 32 → k j < 256) → (∀ j, j < 12 → nn j < 256) → Shows G 1 va ad.length (ad.map by8) → Shows G 1 vt tx.length (tx.map by8) → (∀ b ∈ ad, b < 256) → (∀ b ∈ tx, b < 256) → ad.length ≤ 200 → 16 ≤ tx.length → tx.length ≤ 816 → opensL k nn ad tx → Fx Try.prog G [] 10 #[.agg (arr .u8 32 k), .agg (arr .u8 12 nn), va, vt] (fun v l1 nw => l1 = [] ∧ ∃ v', v = .tuple #[v', ii 0] ∧ OwnS 5 1 v' (openL k nn tx).length ((openL k nn tx).map by8) nw)) : Fn Try.prog G 6 #[.agg (arr .u8 32 k), .agg #[.int .i64 za, .int .i64 zb, .int .i64 zc, sv tr], va, vt, .int .i64 z, by8 y] (.bool true) := by
  obtain ⟨ad, had⟩ : ∃ ad, ad = ad0.take 200 := ⟨_, rfl⟩
  have hal : ad.length ≤ 200 := by rw [had]; simp; omega
  have hab : ∀ x ∈ ad, x < 256 := fun x hx => hab0 x (by rw [had] at hx; exact List.mem_of_mem_take hx)
  have hva : Shows G 1 (slPart 1 va 0 (min ad0.length 200)) ad.length (ad.map by8) := hva0.cut (by omega) (by omega) ((take_minN ad0 200).trans had.symm)
  obtain ⟨tx, htx⟩ : ∃ tx, tx = tx0.take 400 := ⟨_, rfl⟩
  have htl : tx.length ≤ 400 := by rw [htx]; simp; omega
  have htb : ∀ x ∈ tx, x < 256 := fun x hx => htb0 x (by rw [htx] at hx; exact List.mem_of_mem_take hx)
  have hvt : Shows G 1 (slPart 1 vt 0 (min tx0.length 400)) tx.length (tx.map by8) := hvt0.cut (by omega) (by omega) ((take_minN tx0 400).trans htx.symm)
  obtain ⟨nn, hnn⟩ : ∃ nn, nn = nonf tr zb zc := ⟨_, rfl⟩
  have hnL : ∀ j, j < 12 → nn j < 256 := by rw [hnn]; exact nonf_lt htr zb zc
  have hse := sealL_len k nn ad tx
  obtain ⟨j, hj⟩ : ∃ j, j = pkn z (tx.length + 16) := ⟨_, rfl⟩
  have hjl : j < tx.length + 16 := by rw [hj]; exact pkn_lt z (by omega)
  have hfl : (flip1 (sealL k nn ad tx) j y).length = tx.length + 16 := (flip1_len _ _ _).trans hse
  have hfb := flip1_lt (sealL_lt k nn ad tx) j y
  have hfe : (sealL k nn ad tx).length = (flip1 (sealL k nn ad tx) j y).length := (flip1_len _ _ _).symm
  rw [← hnn, ← had, ← htx, ← hj] at hop
  have hol := openL_len k nn (flip1 (sealL k nn ad tx) j y)
  refine fn1 (n := 95) Try.func6 rfl rfl (by simp) (argE [.agg (arr .u8 32 k), .agg #[.int .i64 za, .int .i64 zb, .int .i64 zc, sv tr], va, vt, .int .i64 z, by8 y] 0) (argE_ok _) ?_
  refine e_seq ?_
  refine e_plain ?_
  refine e_box 0 rfl rfl fun r1 => ?_
  refine e_box 1 rfl rfl fun r2 => ?_
  refine e_assign rfl rfl ?_
  refine e_nil ?_
  refine e_seq ?_
  refine e_draw mixed (by kernel_rfl) ?_
  refine e_move rfl rfl ?_
  refine e_move rfl rfl ?_
  refine e_lenV hva0 und24 rfl rfl rfl ?_
  refine e_min (q := 200) rfl rfl rfl rfl ?_
  refine e_sliceV 0 (min ad0.length 200) hva0 und24 siz5 rfl rfl rfl rfl ⟨_, rfl⟩ (by omega) (by omega) rfl ?_
  refine e_move rfl rfl ?_
  refine e_move rfl rfl ?_
  refine e_lenV hvt0 und24 rfl rfl rfl ?_
  refine e_min (q := 400) rfl rfl rfl rfl ?_
  refine e_sliceV 0 (min tx0.length 400) hvt0 und24 siz5 rfl rfl rfl rfl ⟨_, rfl⟩ (by omega) (by omega) rfl ?_
  refine e_assign rfl rfl ?_
  refine e_assign rfl rfl ?_
  refine e_nil ?_
  refine e_seq ?_
  refine e_drawR ⟨[], 4, []⟩ mixed (by kernel_rfl) ?_
  refine e_loadA (i := 0) und22 rfl siz22 rfl rfl (arr_size _ _ _) rfl ⟨[], trivial⟩ ?_
  refine e_loadA (i := 1) und31 rfl siz31 rfl rfl rfl rfl ⟨[], trivial⟩ ?_
  refine e_call rfl ent12 (nonce_fn za zb zc tr htr) rfl rfl ?_
  refine e_as (congrArg (fun f => Value.agg (arr .u8 12 f)) hnn.symm) ?_
  refine e_move rfl rfl ?_
  refine e_move rfl rfl ?_
  refine e_callN 2 (fun v => .tuple #[v, ii 0]) rfl rfl ent7 seenG (hSo G k nn _ _ ad tx hk hnL hva hvt hab htb hal (by omega)) (by rw [hse]; simp only [maxLen]; omega) (by rw [List.length_map, Nat.mul_one]) rfl rfl fun v1_1 oz1_1 ho1_1 => ?_
  refine e_move rfl rfl ?_
  refine e_extract rfl rfl rfl ?_
  refine e_extract rfl rfl rfl ?_
  refine e_assign rfl rfl ?_
  refine e_assign rfl rfl ?_
  refine e_nil ?_
  refine e_seq ?_
  refine e_seq ?_
  refine e_plain ?_
  refine e_move rfl rfl ?_
  refine e_ne rfl rfl rfl ?_
  refine e_as (congrArg Value.bool (decide_eq_false (fun h => h rfl))) ?_
  refine e_move rfl rfl ?_
  refine e_yes rfl rfl rfl ?_
  refine e_move rfl rfl ?_
  refine e_yes rfl rfl rfl ?_
  refine e_lenV ho1_1.shows und24 rfl rfl rfl ?_
  refine e_as (congrArg ii hse) ?_
  refine e_yes rfl rfl rfl ?_
  refine e_eq rfl rfl rfl ?_
  refine e_as (congrArg Value.bool (decide_eq_false (by omega))) ?_
  refine e_pickF rfl rfl rfl rfl ?_
  refine e_nil ?_
  refine e_cond rfl ?_ ?_
  · intro hc0
    cases hc0
  · intro hc0
    refine e_skip ?_
    refine e_seq ?_
    refine e_plain ?_
    refine e_move rfl rfl ?_
    refine e_move rfl rfl ?_
    refine e_move rfl rfl ?_
    refine e_lenV ho1_1.shows und24 rfl rfl rfl ?_
    refine e_as (congrArg ii hse) ?_
    refine e_call rfl ent13 (picked_fn z (tx.length + 16) (by omega) (by omega)) rfl rfl ?_
    refine e_as (congrArg ii hj.symm) ?_
    refine e_atV ho1_1.shows und24 siz5 rfl rfl (by rw [hse]; omega) rfl ?_
    refine e_as (congrArg (slAddr _) (Nat.mul_one _)) ?_
    refine e_loadV ho1_1.shows (seenM 2 rfl ⟨[], trivial⟩) und5 rfl rfl (nth_getD (by rw [hse]; omega)) rfl ?_
    refine e_move rfl rfl ?_
    refine e_xor_b rfl rfl rfl  ?_
    refine e_atV ho1_1.shows und24 siz5 rfl rfl (by rw [hse]; omega) rfl ?_
    refine e_as (congrArg (slAddr _) (Nat.mul_one _)) ?_
    refine e_stOwn (i := 2) ho1_1 siz5 rfl rfl rfl rfl (by rw [hse]; omega) rfl fun oz2_2 ho2_2 => ?_
    refine e_nil ?_
    refine e_seq ?_
    refine e_drawR ⟨[], 4, []⟩ mixed (by kernel_rfl) ?_
    refine e_loadA (i := 0) und22 rfl siz22 rfl rfl (arr_size _ _ _) rfl ⟨[], trivial⟩ ?_
    refine e_loadA (i := 1) und31 rfl siz31 rfl rfl rfl rfl ⟨[], trivial⟩ ?_
    refine e_call rfl ent12 (nonce_fn za zb zc tr htr) rfl rfl ?_
    refine e_as (congrArg (fun f => Value.agg (arr .u8 12 f)) hnn.symm) ?_
    refine e_move rfl rfl ?_
    refine e_move rfl rfl ?_
    refine e_callN 3 (fun v => .tuple #[v, ii 0]) rfl rfl ent10 (seen_app seenG (seenM 2 rfl ⟨[], trivial⟩)) (hOo (G ++ oz2_2.toList) k nn _ _ ad (flip1 (sealL k nn ad tx) j y) hk hnL (hva.mono (fun x h => List.mem_append_left _ h)) ((own_bytes (own_fix (own_setB ho2_2) hfe rfl)).mono (fun x h => List.mem_append_right _ h)) hab hfb hal (by omega) (by omega) hop) (by rw [hol, hfl]; simp only [maxLen]; omega) (by rw [List.length_map, Nat.mul_one]) rfl rfl fun v2_3 oz2_3 ho2_3 => ?_
    refine e_move rfl rfl ?_
    refine e_extract rfl rfl rfl ?_
    refine e_extract rfl rfl rfl ?_
    refine e_assign rfl rfl ?_
    refine e_assign rfl rfl ?_
    refine e_nil ?_
    refine e_seq ?_
    refine e_seq ?_
    refine e_plain ?_
    refine e_move rfl rfl ?_
    refine e_ne rfl rfl rfl ?_
    refine e_as (congrArg Value.bool (decide_eq_false (fun h => h rfl))) ?_
    refine e_nil ?_
    refine e_cond rfl ?_ ?_
    · intro hc1
      cases hc1
    · intro hc1
      refine e_skip ?_
      refine e_seq ?_
      refine e_drawR ⟨[], 4, []⟩ mixed (by kernel_rfl) ?_
      refine e_loadA (i := 0) und22 rfl siz22 rfl rfl (arr_size _ _ _) rfl ⟨[], trivial⟩ ?_
      refine e_loadA (i := 1) und31 rfl siz31 rfl rfl rfl rfl ⟨[], trivial⟩ ?_
      refine e_call rfl ent12 (nonce_fn za zb zc tr htr) rfl rfl ?_
      refine e_as (congrArg (fun f => Value.agg (arr .u8 12 f)) hnn.symm) ?_
      refine e_move rfl rfl ?_
      refine e_move rfl rfl ?_
      refine e_callN 4 (fun v => .tuple #[v, ii 0]) rfl rfl ent7 (seen_app seenG (seenM 3 rfl ⟨[], trivial⟩)) (hSo (G ++ oz2_3.toList) k nn _ _ ad (openL k nn (flip1 (sealL k nn ad tx) j y)) hk hnL (hva.mono (fun x h => List.mem_append_left _ h)) (ho2_3.shows.mono (fun x h => List.mem_append_right _ h)) hab (strl_lt _ _ _ _ _) hal (by omega)) (by rw [sealL_len, hol, hfl]; simp only [maxLen]; omega) (by rw [List.length_map, Nat.mul_one]) rfl rfl fun v3_4 oz3_4 ho3_4 => ?_
      refine e_move rfl rfl ?_
      refine e_extract rfl rfl rfl ?_
      refine e_extract rfl rfl rfl ?_
      refine e_assign rfl rfl ?_
      refine e_assign rfl rfl ?_
      refine e_nil ?_
      refine e_seq ?_
      refine e_plain ?_
      refine e_move rfl rfl ?_
      refine e_eq rfl rfl rfl ?_
      refine e_as (congrArg Value.bool (decide_eq_true rfl)) ?_
      refine e_move rfl rfl ?_
      refine e_yes rfl rfl rfl ?_
      refine e_move rfl rfl ?_
      refine e_yes rfl rfl rfl ?_
      refine e_conv_strV (l := (sealL k nn ad (openL k nn (flip1 (sealL k nn ad tx) j y)))) ho3_4.shows (seenM 4 rfl ⟨[], trivial⟩) und24 und5 und9 rfl rfl rfl ?_
      refine e_as (congrArg sv (open_seal k nn hfb hop)) ?_
      refine e_yes rfl rfl rfl ?_
      refine e_move rfl rfl ?_
      refine e_yes rfl rfl rfl ?_
      refine e_conv_strV (l := (flip1 (sealL k nn ad tx) j y)) (own_bytes (own_fix (own_setB ho2_2) hfe rfl)) (seenM 2 rfl ⟨[], trivial⟩) und24 und5 und9 rfl rfl rfl ?_
      refine e_yes rfl rfl rfl ?_
      refine e_eqStr rfl rfl rfl hfb hfb ?_
      refine e_as (congrArg Value.bool (decide_eq_true rfl)) ?_
      refine e_pickT rfl rfl rfl rfl ?_
      refine e_assign rfl rfl ?_
      refine e_nil ?_
      refine e_ret ?_
      exact ⟨_, rfl, .tmp rfl⟩

set_option maxHeartbeats 4000000 in
theorem sealFixed_b (k : Nat → Nat) (za zb zc : Int) (tr : List Nat) (va vt : Value) (ad0 tx0 : List Nat) (hk : ∀ j, j < 32 → k j < 256) (htr : ∀ x ∈ tr, x < 256) (hva0 : Shows G 1 va ad0.length (ad0.map by8)) (hvt0 : Shows G 1 vt tx0.length (tx0.map by8)) (hab0 : (∀ b ∈ ad0, b < 256)) (htb0 : (∀ b ∈ tx0, b < 256)) (z : Int) (y : Nat) (hop : ¬ opensL k (nonf tr zb zc) (ad0.take 200) (flip1 (sealL k (nonf tr zb zc) (ad0.take 200) (tx0.take 400)) (pkn z ((tx0.take 400).length + 16)) y)) (hSo : ∀ (G : Mem) (k nn : Nat → Nat) (va vt : Value) (ad tx : List Nat), (∀ j, j < 32 → k j < 256) → (∀ j, j < 12 → nn j < 256) → Shows G 1 va ad.length (ad.map by8) → Shows G 1 vt tx.length (tx.map by8) → (∀ b ∈ ad, b < 256) → (∀ b ∈ tx, b < 256) → ad.length ≤ 200 → tx.length ≤ 800 → Fx Try.prog G [] 7 #[.agg (arr .u8 32 k), .agg (arr .u8 12 nn), va, vt] (fun v l1 nw => l1 = [] ∧ ∃ v', v = .tuple #[v', ii 0] ∧ OwnS 5 1 v' (sealL k nn ad tx).length ((sealL k nn ad tx).map by8) nw)) (hOa : ∀ (G : Mem) (k nn : Nat → Nat) (va vt : Value) (ad tx : List Nat), (∀ j, j < 32 → k j < 256) → (∀ j, j < 12 → nn j < 256) → Shows G 1 va ad.length (ad.map by8) → Shows G 1 vt tx.length (tx.map by8) → (∀ b ∈ ad, b < 256) → (∀ b ∈ tx, b < 256) → ad.length ≤ 200 → 16 ≤ tx.length → tx.length ≤ 816 → ¬ opensL k nn ad tx → Fn Try.prog G 10 #[.agg (arr .u8 32 k), .agg (arr .u8 12 nn), va, vt] (.tuple #[nilS, ii 10])) : Fn Try.prog G 6 #[.agg (arr .u8 32 k), .agg #[.int .i64 za, .int .i64 zb, .int .i64 zc, sv tr], va, vt, .int .i64 z, by8 y] (.bool true) := by
  obtain ⟨ad, had⟩ : ∃ ad, ad = ad0.take 200 := ⟨_, rfl⟩
  have hal : ad.length ≤ 200 := by rw [had]; simp; omega
  have hab : ∀ x ∈ ad, x < 256 := fun x hx => hab0 x (by rw [had] at hx; exact List.mem_of_mem_take hx)
  have hva : Shows G 1 (slPart 1 va 0 (min ad0.length 200)) ad.length (ad.map by8) := hva0.cut (by omega) (by omega) ((take_minN ad0 200).trans had.symm)
  obtain ⟨tx, htx⟩ : ∃ tx, tx = tx0.take 400 := ⟨_, rfl⟩
  have htl : tx.length ≤ 400 := by rw [htx]; simp; omega
  have htb : ∀ x ∈ tx, x < 256 := fun x hx => htb0 x (by rw [htx] at hx; exact List.mem_of_mem_take hx)
  have hvt : Shows G 1 (slPart 1 vt 0 (min tx0.length 400)) tx.length (tx.map by8) := hvt0.cut (by omega) (by omega) ((take_minN tx0 400).trans htx.symm)
  obtain ⟨nn, hnn⟩ : ∃ nn, nn = nonf tr zb zc := ⟨_, rfl⟩
  have hnL : ∀ j, j < 12 → nn j < 256 := by rw [hnn]; exact nonf_lt htr zb zc
  have hse := sealL_len k nn ad tx
  obtain ⟨j, hj⟩ : ∃ j, j = pkn z (tx.length + 16) := ⟨_, rfl⟩
  have hjl : j < tx.length + 16 := by rw [hj]; exact pkn_lt z (by omega)
  have hfl : (flip1 (sealL k nn ad tx) j y).length = tx.length + 16 := (flip1_len _ _ _).trans hse
  have hfb := flip1_lt (sealL_lt k nn ad tx) j y
  have hfe : (sealL k nn ad tx).length = (flip1 (sealL k nn ad tx) j y).length := (flip1_len _ _ _).symm
  rw [← hnn, ← had, ← htx, ← hj] at hop
  have hy : y ≠ 0 := fun e => hop (by rw [e, flip1_zero (sealL_lt k nn ad tx) (by omega)]; exact seal_opens k nn ad tx)
  refine fn1 (n := 95) Try.func6 rfl rfl (by simp) (argE [.agg (arr .u8 32 k), .agg #[.int .i64 za, .int .i64 zb, .int .i64 zc, sv tr], va, vt, .int .i64 z, by8 y] 0) (argE_ok _) ?_
  refine e_seq ?_
  refine e_plain ?_
  refine e_box 0 rfl rfl fun r1 => ?_
  refine e_box 1 rfl rfl fun r2 => ?_
  refine e_assign rfl rfl ?_
  refine e_nil ?_
  refine e_seq ?_
  refine e_draw mixed (by kernel_rfl) ?_
  refine e_move rfl rfl ?_
  refine e_move rfl rfl ?_
  refine e_lenV hva0 und24 rfl rfl rfl ?_
  refine e_min (q := 200) rfl rfl rfl rfl ?_
  refine e_sliceV 0 (min ad0.length 200) hva0 und24 siz5 rfl rfl rfl rfl ⟨_, rfl⟩ (by omega) (by omega) rfl ?_
  refine e_move rfl rfl ?_
  refine e_move rfl rfl ?_
  refine e_lenV hvt0 und24 rfl rfl rfl ?_
  refine e_min (q := 400) rfl rfl rfl rfl ?_
  refine e_sliceV 0 (min tx0.length 400) hvt0 und24 siz5 rfl rfl rfl rfl ⟨_, rfl⟩ (by omega) (by omega) rfl ?_
  refine e_assign rfl rfl ?_
  refine e_assign rfl rfl ?_
  refine e_nil ?_
  refine e_seq ?_
  refine e_drawR ⟨[], 4, []⟩ mixed (by kernel_rfl) ?_
  refine e_loadA (i := 0) und22 rfl siz22 rfl rfl (arr_size _ _ _) rfl ⟨[], trivial⟩ ?_
  refine e_loadA (i := 1) und31 rfl siz31 rfl rfl rfl rfl ⟨[], trivial⟩ ?_
  refine e_call rfl ent12 (nonce_fn za zb zc tr htr) rfl rfl ?_
  refine e_as (congrArg (fun f => Value.agg (arr .u8 12 f)) hnn.symm) ?_
  refine e_move rfl rfl ?_
  refine e_move rfl rfl ?_
  refine e_callN 2 (fun v => .tuple #[v, ii 0]) rfl rfl ent7 seenG (hSo G k nn _ _ ad tx hk hnL hva hvt hab htb hal (by omega)) (by rw [hse]; simp only [maxLen]; omega) (by rw [List.length_map, Nat.mul_one]) rfl rfl fun v1_1 oz1_1 ho1_1 => ?_
  refine e_move rfl rfl ?_
  refine e_extract rfl rfl rfl ?_
  refine e_extract rfl rfl rfl ?_
  refine e_assign rfl rfl ?_
  refine e_assign rfl rfl ?_
  refine e_nil ?_
  refine e_seq ?_
  refine e_seq ?_
  refine e_plain ?_
  refine e_move rfl rfl ?_
  refine e_ne rfl rfl rfl ?_
  refine e_as (congrArg Value.bool (decide_eq_false (fun h => h rfl))) ?_
  refine e_move rfl rfl ?_
  refine e_yes rfl rfl rfl ?_
  refine e_move rfl rfl ?_
  refine e_yes rfl rfl rfl ?_
  refine e_lenV ho1_1.shows und24 rfl rfl rfl ?_
  refine e_as (congrArg ii hse) ?_
  refine e_yes rfl rfl rfl ?_
  refine e_eq rfl rfl rfl ?_
  refine e_as (congrArg Value.bool (decide_eq_false (by omega))) ?_
  refine e_pickF rfl rfl rfl rfl ?_
  refine e_nil ?_
  refine e_cond rfl ?_ ?_
  · intro hc0
    cases hc0
  · intro hc0
    refine e_skip ?_
    refine e_seq ?_
    refine e_plain ?_
    refine e_move rfl rfl ?_
    refine e_move rfl rfl ?_
    refine e_move rfl rfl ?_
    refine e_lenV ho1_1.shows und24 rfl rfl rfl ?_
    refine e_as (congrArg ii hse) ?_
    refine e_call rfl ent13 (picked_fn z (tx.length + 16) (by omega) (by omega)) rfl rfl ?_
    refine e_as (congrArg ii hj.symm) ?_
    refine e_atV ho1_1.shows und24 siz5 rfl rfl (by rw [hse]; omega) rfl ?_
    refine e_as (congrArg (slAddr _) (Nat.mul_one _)) ?_
    refine e_loadV ho1_1.shows (seenM 2 rfl ⟨[], trivial⟩) und5 rfl rfl (nth_getD (by rw [hse]; omega)) rfl ?_
    refine e_move rfl rfl ?_
    refine e_xor_b rfl rfl rfl  ?_
    refine e_atV ho1_1.shows und24 siz5 rfl rfl (by rw [hse]; omega) rfl ?_
    refine e_as (congrArg (slAddr _) (Nat.mul_one _)) ?_
    refine e_stOwn (i := 2) ho1_1 siz5 rfl rfl rfl rfl (by rw [hse]; omega) rfl fun oz2_2 ho2_2 => ?_
    refine e_nil ?_
    refine e_seq ?_
    refine e_draw mixed (by kernel_rfl) ?_
    refine e_loadA (i := 0) und22 rfl siz22 rfl rfl (arr_size _ _ _) rfl ⟨[], trivial⟩ ?_
    refine e_loadA (i := 1) und31 rfl siz31 rfl rfl rfl rfl ⟨[], trivial⟩ ?_
    refine e_call rfl ent12 (nonce_fn za zb zc tr htr) rfl rfl ?_
    refine e_as (congrArg (fun f => Value.agg (arr .u8 12 f)) hnn.symm) ?_
    refine e_move rfl rfl ?_
    refine e_move rfl rfl ?_
    refine e_callS rfl rfl ent10 (seen_app seenG (seenM 2 rfl ⟨[], trivial⟩)) (hOa (G ++ oz2_2.toList) k nn _ _ ad (flip1 (sealL k nn ad tx) j y) hk hnL (hva.mono (fun x h => List.mem_append_left _ h)) ((own_bytes (own_fix (own_setB ho2_2) hfe rfl)).mono (fun x h => List.mem_append_right _ h)) hab hfb hal (by omega) (by omega) hop) rfl rfl ?_
    refine e_move rfl rfl ?_
    refine e_extract rfl rfl rfl ?_
    refine e_extract rfl rfl rfl ?_
    refine e_assign rfl rfl ?_
    refine e_assign rfl rfl ?_
    refine e_nil ?_
    refine e_seq ?_
    refine e_seq ?_
    refine e_plain ?_
    refine e_move rfl rfl ?_
    refine e_ne rfl rfl rfl ?_
    refine e_as (congrArg Value.bool (decide_eq_true (by decide))) ?_
    refine e_nil ?_
    refine e_cond rfl ?_ ?_
    · intro hc1
      refine e_seq ?_
      refine e_plain ?_
      refine e_move rfl rfl ?_
      refine e_eq rfl rfl rfl ?_
      refine e_as (congrArg Value.bool (decide_eq_true rfl)) ?_
      refine e_move rfl rfl ?_
      refine e_yes rfl rfl rfl ?_
      refine e_move rfl rfl ?_
      refine e_yes rfl rfl rfl ?_
      refine e_lenV (.inl ⟨rfl, rfl, none, 0, rfl, fun _ => rfl⟩ : Shows [] 1 nilS ([] : List Nat).length (([] : List Nat).map by8)) und24 rfl rfl rfl ?_
      refine e_yes rfl rfl rfl ?_
      refine e_eq rfl rfl rfl ?_
      refine e_as (congrArg Value.bool (decide_eq_true rfl)) ?_
      refine e_pickT rfl rfl rfl rfl ?_
      refine e_move rfl rfl ?_
      refine e_yes rfl rfl rfl ?_
      refine e_move rfl rfl ?_
      refine e_yes rfl rfl rfl ?_
      refine e_ne rfl rfl rfl ?_
      refine e_as (congrArg Value.bool (decide_eq_true (by omega))) ?_
      refine e_pickT rfl rfl rfl rfl ?_
      refine e_assign rfl rfl ?_
      refine e_nil ?_
      refine e_ret ?_
      exact ⟨_, rfl, .tmp rfl⟩
    · intro hc1
      cases hc1

end Go.Proofs.Ytoalabpbohkcjaa

/-
  Quarter rounds over words in an array, and that eight of them are the document's two rounds. Plain arithmetic.
-/
namespace Go.Proofs.Ytoalabpbohkcjaa
open Go Go.RowKit

theorem and31 {s : Nat} (h : s < 32) : (s &&& 31) % 18446744073709551616 = s := by
  rw [show (31 : Nat) = 2 ^ 5 - 1 by decide, Nat.and_two_pow_sub_one_eq_mod]; omega
/-- A quarter round at four places, step by step. -/
def qst (f : Nat → Nat) (a b c d : Nat) : Nat → Nat :=
  let f1 := upd f a ((f a + f b) % 4294967296)
  let f2 := upd f1 d (rotl ((f1 d ^^^ f1 a) % 4294967296) 16)
  let f3 := upd f2 c ((f2 c + f2 d) % 4294967296)
  let f4 := upd f3 b (rotl ((f3 b ^^^ f3 c) % 4294967296) 12)
  let f5 := upd f4 a ((f4 a + f4 b) % 4294967296)
  let f6 := upd f5 d (rotl ((f5 d ^^^ f5 a) % 4294967296) 8)
  let f7 := upd f6 c ((f6 c + f6 d) % 4294967296)
  upd f7 b (rotl ((f7 b ^^^ f7 c) % 4294967296) 7)
/-- The same, at once. -/
def qat (f : Nat → Nat) (a b c d : Nat) : Nat → Nat := fun t =>
  if t = a then (qrt (f a) (f b) (f c) (f d)).1 else if t = b then (qrt (f a) (f b) (f c) (f d)).2.1 else if t = c then (qrt (f a) (f b) (f c) (f d)).2.2.1 else if t = d then (qrt (f a) (f b) (f c) (f d)).2.2.2 else f t
theorem upd_same (f : Nat → Nat) (a v : Nat) : upd f a v a = v := if_pos rfl
theorem upd_ne (f : Nat → Nat) {a t : Nat} (v : Nat) (h : t ≠ a) : upd f a v t = f t := if_neg h
theorem qst_at (f : Nat → Nat) {a b c d : Nat} (ab : a ≠ b) (ac : a ≠ c) (ad : a ≠ d) (bc : b ≠ c) (bd : b ≠ d) (cd : c ≠ d) (t : Nat) : qst f a b c d t = qat f a b c d t := by
  have ba := ab.symm
  have ca := ac.symm
  have da := ad.symm
  have cb := bc.symm
  have db := bd.symm
  have dc := cd.symm
  unfold qst qat qrt
  simp only [upd_same, upd_ne _ _ ab, upd_ne _ _ ac, upd_ne _ _ ad, upd_ne _ _ bc, upd_ne _ _ bd, upd_ne _ _ cd, upd_ne _ _ ba, upd_ne _ _ ca, upd_ne _ _ da, upd_ne _ _ cb, upd_ne _ _ db, upd_ne _ _ dc]
  by_cases ha : t = a
  · subst ha
    simp only [upd_same, upd_ne _ _ ab, upd_ne _ _ ac, upd_ne _ _ ad, if_pos]
  · by_cases hb : t = b
    · subst hb
      simp only [upd_same, if_neg ha, if_pos]
    · by_cases hc : t = c
      · subst hc
        simp only [upd_same, upd_ne _ _ cb, if_neg ha, if_neg hb, if_pos]
      · by_cases hd : t = d
        · subst hd
          simp only [upd_same, upd_ne _ _ db, upd_ne _ _ dc, if_neg ha, if_neg hb, if_neg hc, if_pos]
        · simp only [if_neg ha, if_neg hb, if_neg hc, if_neg hd, upd_ne _ _ ha, upd_ne _ _ hb, upd_ne _ _ hc, upd_ne _ _ hd]
theorem qst_eq (f : Nat → Nat) {a b c d : Nat} (h : a ≠ b ∧ a ≠ c ∧ a ≠ d ∧ b ≠ c ∧ b ≠ d ∧ c ≠ d) : qst f a b c d = qat f a b c d := funext fun t => qst_at f h.1 h.2.1 h.2.2.1 h.2.2.2.1 h.2.2.2.2.1 h.2.2.2.2.2 t
def cols (f : Nat → Nat) : Nat → Nat := qat (qat (qat (qat f 0 4 8 12) 1 5 9 13) 2 6 10 14) 3 7 11 15
def diag (f : Nat → Nat) : Nat → Nat := qat (qat (qat (qat f 0 5 10 15) 1 6 11 12) 2 7 8 13) 3 4 9 14
theorem cols_rnd (f : Nat → Nat) : ∀ t, t < 16 → cols f t = rnd f t := fun t ht => by
  have : t = 0 ∨ t = 1 ∨ t = 2 ∨ t = 3 ∨ t = 4 ∨ t = 5 ∨ t = 6 ∨ t = 7 ∨ t = 8 ∨ t = 9 ∨ t = 10 ∨ t = 11 ∨ t = 12 ∨ t = 13 ∨ t = 14 ∨ t = 15 := by omega
  rcases this with rfl | rfl | rfl | rfl | rfl | rfl | rfl | rfl | rfl | rfl | rfl | rfl | rfl | rfl | rfl | rfl <;> rfl
theorem diag_rnd (f : Nat → Nat) : ∀ t, t < 16 → diag f t = shm (rnd (sh1 f)) t := fun t ht => by
  have : t = 0 ∨ t = 1 ∨ t = 2 ∨ t = 3 ∨ t = 4 ∨ t = 5 ∨ t = 6 ∨ t = 7 ∨ t = 8 ∨ t = 9 ∨ t = 10 ∨ t = 11 ∨ t = 12 ∨ t = 13 ∨ t = 14 ∨ t = 15 := by omega
  rcases this with rfl | rfl | rfl | rfl | rfl | rfl | rfl | rfl | rfl | rfl | rfl | rfl | rfl | rfl | rfl | rfl <;> rfl
theorem rnd_congr {f g : Nat → Nat} (h : ∀ t, t < 16 → f t = g t) : ∀ t, t < 16 → rnd f t = rnd g t := fun t ht => by
  unfold rnd
  rw [h (t % 4) (by omega), h (4 + t % 4) (by omega), h (8 + t % 4) (by omega), h (12 + t % 4) (by omega)]
theorem sh1_congr {f g : Nat → Nat} (h : ∀ t, t < 16 → f t = g t) : ∀ t, t < 16 → sh1 f t = sh1 g t := fun t ht => h _ (by omega)
theorem shm_congr {f g : Nat → Nat} (h : ∀ t, t < 16 → f t = g t) : ∀ t, t < 16 → shm f t = shm g t := fun t ht => h _ (by omega)
theorem both_dbl (f : Nat → Nat) : ∀ t, t < 16 → diag (cols f) t = dbl f t := fun t ht =>
  (diag_rnd (cols f) t ht).trans (shm_congr (rnd_congr (sh1_congr (cols_rnd f))) t ht)

end Go.Proofs.Ytoalabpbohkcjaa

/-
  The words, rounds and bytes of the program's ChaCha20 in plain numbers, and that they are the document's. Plain arithmetic.
-/
namespace Go.Proofs.Ytoalabpbohkcjaa
open Go Go.RowKit

/-! ### Words of bytes -/
/-- The bytes of word t that are among the first i. -/
def pw (f : Nat → Nat) (i t : Nat) : Nat :=
  (if 4 * t < i then f (4 * t) else 0) + 256 * (if 4 * t + 1 < i then f (4 * t + 1) else 0) + 65536 * (if 4 * t + 2 < i then f (4 * t + 2) else 0) + 16777216 * (if 4 * t + 3 < i then f (4 * t + 3) else 0)
theorem or_plus {a b : Nat} (k : Nat) (h : a < 2 ^ k) : a ||| b * 2 ^ k = a + b * 2 ^ k := by
  have := Nat.two_pow_add_eq_or_of_lt h b
  rw [Nat.or_comm, Nat.mul_comm b, ← this, Nat.add_comm]
theorem pw_step {f : Nat → Nat} {i : Nat} (hf : f i < 256) (hl : ∀ j, j < i → f j < 256) : (pw f i (i / 4) ||| (f i * 2 ^ (i % 4 * 8)) % 4294967296) % 4294967296 = pw f (i + 1) (i / 4) := by
  obtain ⟨t, r, hr, rfl⟩ : ∃ t r, r < 4 ∧ i = 4 * t + r := ⟨i / 4, i % 4, by omega, by omega⟩
  rw [show (4 * t + r) / 4 = t by omega, show (4 * t + r) % 4 = r by omega]
  have : r = 0 ∨ r = 1 ∨ r = 2 ∨ r = 3 := by omega
  unfold pw
  rcases this with rfl | rfl | rfl | rfl
  · rw [if_neg (by omega), if_neg (by omega), if_neg (by omega), if_neg (by omega), if_pos (by omega), if_neg (by omega), if_neg (by omega), if_neg (by omega)]
    simp only [Nat.add_zero, Nat.mul_zero, Nat.zero_mul, Nat.pow_zero, Nat.mul_one, Nat.zero_or] at hf ⊢
    omega
  · have h0 := hl (4 * t) (by omega)
    rw [if_pos (by omega), if_neg (by omega), if_neg (by omega), if_neg (by omega), if_pos (by omega), if_pos (by omega), if_neg (by omega), if_neg (by omega)]
    rw [show f (4 * t + 1) * 2 ^ (1 * 8) % 4294967296 = f (4 * t + 1) * 2 ^ 8 by omega, or_plus 8 (by omega)]
    omega
  · have h0 := hl (4 * t) (by omega)
    have h1 := hl (4 * t + 1) (by omega)
    rw [if_pos (by omega), if_pos (by omega), if_neg (by omega), if_neg (by omega), if_pos (by omega), if_pos (by omega), if_pos (by omega), if_neg (by omega)]
    rw [show f (4 * t + 2) * 2 ^ (2 * 8) % 4294967296 = f (4 * t + 2) * 2 ^ 16 by omega, or_plus 16 (by omega)]
    omega
  · have h0 := hl (4 * t) (by omega)
    have h1 := hl (4 * t + 1) (by omega)
    have h2 := hl (4 * t + 2) (by omega)
    rw [if_pos (by omega), if_pos (by omega), if_pos (by omega), if_neg (by omega), if_pos (by omega), if_pos (by omega), if_pos (by omega), if_pos (by omega)]
    rw [show f (4 * t + 3) * 2 ^ (3 * 8) % 4294967296 = f (4 * t + 3) * 2 ^ 24 by omega, or_plus 24 (by omega)]
    omega
theorem pw_other {f : Nat → Nat} {i t : Nat} (h : t ≠ i / 4) : pw f (i + 1) t = pw f i t := by
  unfold pw
  have e0 : (4 * t < i + 1) = (4 * t < i) := propext ⟨fun _ => by omega, fun _ => by omega⟩
  have e1 : (4 * t + 1 < i + 1) = (4 * t + 1 < i) := propext ⟨fun _ => by omega, fun _ => by omega⟩
  have e2 : (4 * t + 2 < i + 1) = (4 * t + 2 < i) := propext ⟨fun _ => by omega, fun _ => by omega⟩
  have e3 : (4 * t + 3 < i + 1) = (4 * t + 3 < i) := propext ⟨fun _ => by omega, fun _ => by omega⟩
  simp only [e0, e1, e2, e3]
theorem pw_none (f : Nat → Nat) (t : Nat) : pw f 0 t = 0 := by
  unfold pw
  rw [if_neg (by omega), if_neg (by omega), if_neg (by omega), if_neg (by omega)]
/-- The words of a block when i bytes of the key and q of the nonce are in. -/
def stw (k : Nat → Nat) (c : Nat) (nn : Nat → Nat) (i q t : Nat) : Nat :=
  if t < 4 then [1634760805, 857760878, 2036477234, 1797285236].getD t 0 else if t < 12 then pw k i (t - 4) else if t = 12 then c else pw nn q (t - 13)
theorem stw_first (k : Nat → Nat) (c : Nat) (nn : Nat → Nat) : ∀ t, t < 16 → (fun t => if t = 0 then 1634760805 else if t = 1 then 857760878 else if t = 2 then 2036477234 else if t = 3 then 1797285236 else if t = 12 then c else 0) t = stw k c nn 0 0 t := fun t ht => by
  unfold stw
  have : t = 0 ∨ t = 1 ∨ t = 2 ∨ t = 3 ∨ t = 4 ∨ t = 5 ∨ t = 6 ∨ t = 7 ∨ t = 8 ∨ t = 9 ∨ t = 10 ∨ t = 11 ∨ t = 12 ∨ t = 13 ∨ t = 14 ∨ t = 15 := by omega
  rcases this with rfl | rfl | rfl | rfl | rfl | rfl | rfl | rfl | rfl | rfl | rfl | rfl | rfl | rfl | rfl | rfl <;> simp [pw_none]
theorem stw_key {k nn s : Nat → Nat} {c i : Nat} (hk : ∀ j, j < 32 → k j < 256) (hi : i < 32) (hs : ∀ t, t < 16 → s t = stw k c nn i 0 t) :
    ∀ t, t < 16 → upd s (4 + i / 4) ((s (4 + i / 4) ||| (k i * 2 ^ (i % 4 * 8)) % 4294967296) % 4294967296) t = stw k c nn (i + 1) 0 t := fun t ht => by
  have e : s (4 + i / 4) = pw k i (i / 4) := by
    rw [hs _ (by omega)]; unfold stw
    rw [if_neg (by omega), if_pos (by omega), show 4 + i / 4 - 4 = i / 4 by omega]
  rw [e, pw_step (hk i hi) (fun j hj => hk j (by omega))]
  unfold upd
  by_cases h : t = 4 + i / 4
  · rw [if_pos h]; unfold stw
    rw [if_neg (by omega), if_pos (by omega), show t - 4 = i / 4 by omega]
  · rw [if_neg h, hs t ht]; unfold stw
    by_cases h4 : t < 4
    · rw [if_pos h4, if_pos h4]
    · rw [if_neg h4, if_neg h4]
      by_cases h12 : t < 12
      · rw [if_pos h12, if_pos h12, pw_other (by omega)]
      · rw [if_neg h12, if_neg h12]
theorem stw_nonce {k nn s : Nat → Nat} {c i : Nat} (hn : ∀ j, j < 12 → nn j < 256) (hi : i < 12) (hs : ∀ t, t < 16 → s t = stw k c nn 32 i t) :
    ∀ t, t < 16 → upd s (13 + i / 4) ((s (13 + i / 4) ||| (nn i * 2 ^ (i % 4 * 8)) % 4294967296) % 4294967296) t = stw k c nn 32 (i + 1) t := fun t ht => by
  have e : s (13 + i / 4) = pw nn i (i / 4) := by
    rw [hs _ (by omega)]; unfold stw
    rw [if_neg (by omega), if_neg (by omega), if_neg (by omega), show 13 + i / 4 - 13 = i / 4 by omega]
  rw [e, pw_step (hn i hi) (fun j hj => hn j (by omega))]
  unfold upd
  by_cases h : t = 13 + i / 4
  · rw [if_pos h]; unfold stw
    rw [if_neg (by omega), if_neg (by omega), if_neg (by omega), show t - 13 = i / 4 by omega]
  · rw [if_neg h, hs t ht]; unfold stw
    by_cases h4 : t < 4
    · rw [if_pos h4, if_pos h4]
    · rw [if_neg h4, if_neg h4]
      by_cases h12 : t < 12
      · rw [if_pos h12, if_pos h12]
      · rw [if_neg h12, if_neg h12]
        by_cases h13 : t = 12
        · rw [if_pos h13, if_pos h13]
        · rw [if_neg h13, if_neg h13, pw_other (by omega)]
theorem le4 (a b c d : Nat) : leN [a, b, c, d] = a + 256 * b + 65536 * c + 16777216 * d := by
  simp only [leN]; omega
theorem pw_full {f : Nat → Nat} {n t : Nat} (h : 4 * t + 4 ≤ n) : pw f n t = f (4 * t) + 256 * f (4 * t + 1) + 65536 * f (4 * t + 2) + 16777216 * f (4 * t + 3) := by
  unfold pw
  rw [if_pos (by omega), if_pos (by omega), if_pos (by omega), if_pos (by omega)]
theorem stw_end (k : Nat → Nat) {c : Nat} (nn : Nat → Nat) (hc : c < 4294967296) : ∀ t, t < 16 → stw k c nn 32 12 t = wrd (allb k c nn) t := fun t ht => by
  have : t = 0 ∨ t = 1 ∨ t = 2 ∨ t = 3 ∨ t = 4 ∨ t = 5 ∨ t = 6 ∨ t = 7 ∨ t = 8 ∨ t = 9 ∨ t = 10 ∨ t = 11 ∨ t = 12 ∨ t = 13 ∨ t = 14 ∨ t = 15 := by omega
  rcases this with rfl | rfl | rfl | rfl | rfl | rfl | rfl | rfl | rfl | rfl | rfl | rfl | rfl | rfl | rfl | rfl
  · show (1634760805 : Nat) = leN [101, 120, 112, 97]; rw [le4]
  · show (857760878 : Nat) = leN [110, 100, 32, 51]; rw [le4]
  · show (2036477234 : Nat) = leN [50, 45, 98, 121]; rw [le4]
  · show (1797285236 : Nat) = leN [116, 101, 32, 107]; rw [le4]
  · show pw k 32 0 = leN [k 0, k 1, k 2, k 3]; rw [le4, pw_full (by decide)]
  · show pw k 32 1 = leN [k 4, k 5, k 6, k 7]; rw [le4, pw_full (by decide)]
  · show pw k 32 2 = leN [k 8, k 9, k 10, k 11]; rw [le4, pw_full (by decide)]
  · show pw k 32 3 = leN [k 12, k 13, k 14, k 15]; rw [le4, pw_full (by decide)]
  · show pw k 32 4 = leN [k 16, k 17, k 18, k 19]; rw [le4, pw_full (by decide)]
  · show pw k 32 5 = leN [k 20, k 21, k 22, k 23]; rw [le4, pw_full (by decide)]
  · show pw k 32 6 = leN [k 24, k 25, k 26, k 27]; rw [le4, pw_full (by decide)]
  · show pw k 32 7 = leN [k 28, k 29, k 30, k 31]; rw [le4, pw_full (by decide)]
  · show c = leN [c / 256 ^ 0 % 256, c / 256 ^ 1 % 256, c / 256 ^ 2 % 256, c / 256 ^ 3 % 256]
    rw [le4]
    omega
  · show pw nn 12 0 = leN [nn 0, nn 1, nn 2, nn 3]; rw [le4, pw_full (by decide)]
  · show pw nn 12 1 = leN [nn 4, nn 5, nn 6, nn 7]; rw [le4, pw_full (by decide)]
  · show pw nn 12 2 = leN [nn 8, nn 9, nn 10, nn 11]; rw [le4, pw_full (by decide)]

/-! ### Rounds -/
def colN (f : Nat → Nat) : Nat → Nat → Nat
  | 0 => f
  | i + 1 => qst (colN f i) i (4 + i) (8 + i) (12 + i)
def diaN (f : Nat → Nat) : Nat → Nat → Nat
  | 0 => f
  | i + 1 => qst (diaN f i) i (4 + (i + 1) % 4) (8 + (i + 2) % 4) (12 + (i + 3) % 4)
theorem colN_cols (f : Nat → Nat) : colN f 4 = cols f := by
  show qst (qst (qst (qst f 0 4 8 12) 1 5 9 13) 2 6 10 14) 3 7 11 15 = _
  rw [qst_eq f (by decide), qst_eq _ (by decide), qst_eq _ (by decide), qst_eq _ (by decide)]; rfl
theorem diaN_diag (f : Nat → Nat) : diaN f 4 = diag f := by
  show qst (qst (qst (qst f 0 5 10 15) 1 6 11 12) 2 7 8 13) 3 4 9 14 = _
  rw [qst_eq f (by decide), qst_eq _ (by decide), qst_eq _ (by decide), qst_eq _ (by decide)]; rfl
def twoN (f : Nat → Nat) : Nat → Nat → Nat
  | 0 => f
  | n + 1 => diaN (colN (twoN f n) 4) 4
theorem dbl_congr {f g : Nat → Nat} (h : ∀ t, t < 16 → f t = g t) : ∀ t, t < 16 → dbl f t = dbl g t := shm_congr (rnd_congr (sh1_congr (rnd_congr h)))
theorem twoN_dbls (f : Nat → Nat) : ∀ n t, t < 16 → twoN f n t = dbls f n t
  | 0, _, _ => rfl
  | n + 1, t, ht => by
    show diaN (colN (twoN f n) 4) 4 t = dbl (dbls f n) t
    rw [colN_cols, diaN_diag, both_dbl _ t ht]
    exact dbl_congr (twoN_dbls f n) t ht

/-! ### Bytes of words -/
theorem outl_at (v w : Nat → Nat) : ∀ n i, i < 4 * n → (outl v w n).getD i 0 = (v (i / 4) + w (i / 4)) % 4294967296 / 256 ^ (i % 4) % 256
  | 0, i, h => by omega
  | n + 1, i, h => by
    rw [outl, List.getD_eq_getElem?_getD]
    by_cases hi : i < 4 * n
    · rw [List.getElem?_append_left (by rw [outl_len]; exact hi), ← List.getD_eq_getElem?_getD, outl_at v w n i hi]
    · rw [List.getElem?_append_right (by rw [outl_len]; omega), outl_len, List.getElem?_eq_getElem (by rw [lowl_len]; omega)]
      rw [show i / 4 = n by omega, show i % 4 = i - 4 * n by omega]
      simp [lowl]
theorem blk_at (k : Nat → Nat) (c : Nat) (nn : Nat → Nat) {v w : Nat → Nat} (hv : v = dbls (wrd (allb k c nn)) 10) (hw : w = wrd (allb k c nn)) {i : Nat} (hi : i < 64) : (v (i / 4) + w (i / 4)) % 4294967296 / 2 ^ (i % 4 * 8) % 256 = blkf k c nn i := by
  unfold blkf blkl
  rw [outl_at _ _ 16 i (by omega), hv, hw, Nat.mul_comm (i % 4) 8, Nat.pow_mul]

/-! ### Streams -/
theorem own_made {e : TypeId} {r n : Nat} {f : Nat → Nat} {l : List Nat} (hl : l.length = n) (hn : n ≤ maxLen) (h : ∀ j, j < n → f j = l.getD j 0) : OwnS e 1 (.slice (some ⟨r, 0, none⟩) n n) n (l.map by8) [⟨r, arr .u8 n f, e⟩] := by
  refine .inr ⟨r, n, _, rfl, rfl, Nat.le_refl _, hn, by rw [arr_size, Nat.mul_one], by rw [List.length_map, hl, Nat.mul_one], ?_⟩
  rw [arr_congr h, Nat.mul_one]
  apply List.ext_getElem
  · simp [arr, hl]
  · intro j h1 h2
    have hj : j < l.length := by simpa using h2
    simp [arr, by8, List.getD_eq_getElem?_getD, List.getElem?_eq_getElem hj]
theorem strl_at (k : Nat → Nat) (c : Nat) (nn : Nat → Nat) (l : List Nat) {j : Nat} (h : j < l.length) : (strl k c nn l 0).getD j 0 = strv k c nn l j := by
  rw [List.getD_eq_getElem?_getD, List.getElem?_eq_getElem (by rw [strl_len]; omega)]
  simp [strl]
theorem strv_in (k : Nat → Nat) (c : Nat) (nn p : Nat → Nat) (l : List Nat) {i : Nat} (h : i < l.length) (hp : p (i % 64) = blkf k ((c + i / 64 % 4294967296) % 4294967296) nn (i % 64)) : (l[i] ^^^ p (i % 64)) % 256 = strv k c nn l i := by
  unfold strv
  rw [List.getD_eq_getElem?_getD, List.getElem?_eq_getElem h, hp]; rfl

end Go.Proofs.Ytoalabpbohkcjaa

/-
  Walks, written by a program of ours off the loaded functions.
-/
namespace Go.Proofs.Ytoalabpbohkcjaa
open Go Go.RowKit


theorem ent44 : enters Try.prog 44 = true := by kernel_rfl
theorem ent45 : enters Try.prog 45 = true := by kernel_rfl
theorem siz55 : (Try.prog.info? 55).map (·.size) = some 16 := by kernel_rfl
theorem und55 : Try.prog.underlying 55 = some (.array 16 41) := by kernel_rfl
theorem und85 : Try.prog.underlying 85 = some (.int .u64) := by kernel_rfl
theorem zer55 : (Try.prog.info? 55).bind (·.zero) = some (.agg (arr .u32 16 fun _ => 0)) := by kernel_rfl

variable {G : Mem}

set_option maxHeartbeats 400000 in
theorem rot32_fn (x s : Nat) (hs : s < 32) : Fn Try.prog G 45 #[uw x, ii s] (uw (rotl x s)) := by
  refine fn1 (n := 17) Try.func45 rfl rfl (by simp) (argE [uw x, ii s] 0) (argE_ok _) ?_
  refine e_seq ?_
  refine e_plain ?_
  refine e_assign rfl rfl ?_
  refine e_nil ?_
  refine e_seq ?_
  refine e_plain ?_
  refine e_move rfl rfl ?_
  refine e_conv_u und3 und85 rfl rfl rfl ?_
  refine e_as (congrArg u (Nat.mod_eq_of_lt (show s < 18446744073709551616 by omega))) ?_
  refine e_and_u (q := 31) rfl rfl rfl  ?_
  refine e_as (congrArg u (and31 hs)) ?_
  refine e_assign rfl rfl ?_
  refine e_nil ?_
  refine e_seq ?_
  refine e_plain ?_
  refine e_move rfl rfl ?_
  refine e_move rfl rfl ?_
  refine e_shl_w rfl rfl rfl (by omega) ?_
  refine e_move rfl rfl ?_
  refine e_move rfl rfl ?_
  refine e_sub_u (p := 32) rfl rfl rfl (by omega) ?_
  refine e_as (congrArg u (show (32 + 18446744073709551616 - s) % 18446744073709551616 = 32 - s by omega)) ?_
  refine e_shr_w rfl rfl rfl (by omega) ?_
  refine e_or_w rfl rfl rfl  ?_
  refine e_assign rfl rfl ?_
  refine e_nil ?_
  refine e_ret ?_
  exact ⟨_, rfl, .tmp rfl⟩

set_option maxHeartbeats 400000 in
theorem quarter_fn (f : Nat → Nat) (r a b c d : Nat) (ha : a < 16) (hb : b < 16) (hc : c < 16) (hd : d < 16) : Fx Try.prog G [⟨r, arr .u32 16 f, 55⟩] 44 #[ii a, ii b, ii c, ii d, ptr r] (fun v l1 nw => v = .tuple #[] ∧ l1 = [⟨r, arr .u32 16 (qst f a b c d), 55⟩] ∧ nw = []) := by
  refine fxW (n := 81) Try.func44 rfl rfl (by simp) (argE [ii a, ii b, ii c, ii d, ptr r] 0) (argE_ok _) ?_
  refine e_seq ?_
  refine e_draw mixed (by kernel_rfl) ?_
  refine e_move rfl rfl ?_
  refine e_index0 und55 siz41 rfl rfl (by omega) rfl ?_
  refine e_load1 (i := 0) und41 rfl rfl rfl (arr_get (by omega)) rfl ⟨[], trivial⟩ ?_
  refine e_move rfl rfl ?_
  refine e_index0 und55 siz41 rfl rfl (by omega) rfl ?_
  refine e_load1 (i := 0) und41 rfl rfl rfl (arr_get (by omega)) rfl ⟨[], trivial⟩ ?_
  refine e_add_w rfl rfl rfl  ?_
  refine e_index0 und55 siz41 rfl rfl (by omega) rfl ?_
  refine e_storeN (i := 0) siz41 rfl rfl rfl (by omega) (.inl rfl) ?_
  refine e_nil ?_
  refine e_seq ?_
  refine e_draw mixed (by kernel_rfl) ?_
  refine e_move rfl rfl ?_
  refine e_move rfl rfl ?_
  refine e_index0 und55 siz41 rfl rfl (by omega) rfl ?_
  refine e_load1 (i := 0) und41 rfl rfl rfl (arr_get (by omega)) rfl ⟨[], trivial⟩ ?_
  refine e_move rfl rfl ?_
  refine e_index0 und55 siz41 rfl rfl (by omega) rfl ?_
  refine e_load1 (i := 0) und41 rfl rfl rfl (arr_get (by omega)) rfl ⟨[], trivial⟩ ?_
  refine e_xor_w rfl rfl rfl  ?_
  refine e_call rfl ent45 (rot32_fn _ _ (by decide)) rfl rfl ?_
  refine e_index0 und55 siz41 rfl rfl (by omega) rfl ?_
  refine e_storeN (i := 0) siz41 rfl rfl rfl (by omega) (.inl rfl) ?_
  refine e_nil ?_
  refine e_seq ?_
  refine e_draw mixed (by kernel_rfl) ?_
  refine e_move rfl rfl ?_
  refine e_index0 und55 siz41 rfl rfl (by omega) rfl ?_
  refine e_load1 (i := 0) und41 rfl rfl rfl (arr_get (by omega)) rfl ⟨[], trivial⟩ ?_
  refine e_move rfl rfl ?_
  refine e_index0 und55 siz41 rfl rfl (by omega) rfl ?_
  refine e_load1 (i := 0) und41 rfl rfl rfl (arr_get (by omega)) rfl ⟨[], trivial⟩ ?_
  refine e_add_w rfl rfl rfl  ?_
  refine e_index0 und55 siz41 rfl rfl (by omega) rfl ?_
  refine e_storeN (i := 0) siz41 rfl rfl rfl (by omega) (.inl rfl) ?_
  refine e_nil ?_
  refine e_seq ?_
  refine e_draw mixed (by kernel_rfl) ?_
  refine e_move rfl rfl ?_
  refine e_move rfl rfl ?_
  refine e_index0 und55 siz41 rfl rfl (by omega) rfl ?_
  refine e_load1 (i := 0) und41 rfl rfl rfl (arr_get (by omega)) rfl ⟨[], trivial⟩ ?_
  refine e_move rfl rfl ?_
  refine e_index0 und55 siz41 rfl rfl (by omega) rfl ?_
  refine e_load1 (i := 0) und41 rfl rfl rfl (arr_get (by omega)) rfl ⟨[], trivial⟩ ?_
  refine e_xor_w rfl rfl rfl  ?_
  refine e_call rfl ent45 (rot32_fn _ _ (by decide)) rfl rfl ?_
  refine e_index0 und55 siz41 rfl rfl (by omega) rfl ?_
  refine e_storeN (i := 0) siz41 rfl rfl rfl (by omega) (.inl rfl) ?_
  refine e_nil ?_
  refine e_seq ?_
  refine e_draw mixed (by kernel_rfl) ?_
  refine e_move rfl rfl ?_
  refine e_index0 und55 siz41 rfl rfl (by omega) rfl ?_
  refine e_load1 (i := 0) und41 rfl rfl rfl (arr_get (by omega)) rfl ⟨[], trivial⟩ ?_
  refine e_move rfl rfl ?_
  refine e_index0 und55 siz41 rfl rfl (by omega) rfl ?_
  refine e_load1 (i := 0) und41 rfl rfl rfl (arr_get (by omega)) rfl ⟨[], trivial⟩ ?_
  refine e_add_w rfl rfl rfl  ?_
  refine e_index0 und55 siz41 rfl rfl (by omega) rfl ?_
  refine e_storeN (i := 0) siz41 rfl rfl rfl (by omega) (.inl rfl) ?_
  refine e_nil ?_
  refine e_seq ?_
  refine e_draw mixed (by kernel_rfl) ?_
  refine e_move rfl rfl ?_
  refine e_move rfl rfl ?_
  refine e_index0 und55 siz41 rfl rfl (by omega) rfl ?_
  refine e_load1 (i := 0) und41 rfl rfl rfl (arr_get (by omega)) rfl ⟨[], trivial⟩ ?_
  refine e_move rfl rfl ?_
  refine e_index0 und55 siz41 rfl rfl (by omega) rfl ?_
  refine e_load1 (i := 0) und41 rfl rfl rfl (arr_get (by omega)) rfl ⟨[], trivial⟩ ?_
  refine e_xor_w rfl rfl rfl  ?_
  refine e_call rfl ent45 (rot32_fn _ _ (by decide)) rfl rfl ?_
  refine e_index0 und55 siz41 rfl rfl (by omega) rfl ?_
  refine e_storeN (i := 0) siz41 rfl rfl rfl (by omega) (.inl rfl) ?_
  refine e_nil ?_
  refine e_seq ?_
  refine e_draw mixed (by kernel_rfl) ?_
  refine e_move rfl rfl ?_
  refine e_index0 und55 siz41 rfl rfl (by omega) rfl ?_
  refine e_load1 (i := 0) und41 rfl rfl rfl (arr_get (by omega)) rfl ⟨[], trivial⟩ ?_
  refine e_move rfl rfl ?_
  refine e_index0 und55 siz41 rfl rfl (by omega) rfl ?_
  refine e_load1 (i := 0) und41 rfl rfl rfl (arr_get (by omega)) rfl ⟨[], trivial⟩ ?_
  refine e_add_w rfl rfl rfl  ?_
  refine e_index0 und55 siz41 rfl rfl (by omega) rfl ?_
  refine e_storeN (i := 0) siz41 rfl rfl rfl (by omega) (.inl rfl) ?_
  refine e_nil ?_
  refine e_draw mixed (by kernel_rfl) ?_
  refine e_move rfl rfl ?_
  refine e_move rfl rfl ?_
  refine e_index0 und55 siz41 rfl rfl (by omega) rfl ?_
  refine e_load1 (i := 0) und41 rfl rfl rfl (arr_get (by omega)) rfl ⟨[], trivial⟩ ?_
  refine e_move rfl rfl ?_
  refine e_index0 und55 siz41 rfl rfl (by omega) rfl ?_
  refine e_load1 (i := 0) und41 rfl rfl rfl (arr_get (by omega)) rfl ⟨[], trivial⟩ ?_
  refine e_xor_w rfl rfl rfl  ?_
  refine e_call rfl ent45 (rot32_fn _ _ (by decide)) rfl rfl ?_
  refine e_index0 und55 siz41 rfl rfl (by omega) rfl ?_
  refine e_storeN (i := 0) siz41 rfl rfl rfl (by omega) (.inl rfl) ?_
  refine e_nil ?_
  exact ⟨rfl, 0, rfl⟩

set_option maxHeartbeats 2000000 in
theorem rounds_fn (f : Nat → Nat) : Fn Try.prog G 30 #[.agg (arr .u32 16 f)] (.agg (arr .u32 16 (dbls f 10))) := by
  refine fn1 (n := 43) Try.func30 rfl rfl (by simp) (argE [.agg (arr .u32 16 f)] 0) (argE_ok _) ?_
  refine e_seq ?_
  refine e_plain ?_
  refine e_box 0 rfl rfl fun r1 => ?_
  refine e_alloc 1 zer55 rfl fun r2 => ?_
  refine e_nil ?_
  refine e_seq ?_
  refine e_plain ?_
  refine e_func rfl rfl rfl ?_
  refine e_assign rfl rfl ?_
  refine e_nil ?_
  refine e_seq ?_
  refine e_seq ?_
  refine e_plain ?_
  refine e_move rfl rfl ?_
  refine e_nil ?_
  refine e_block ?_
  refine e_loop (fun kk E m => ∃ (n : Nat), kk = 10 - n ∧ E = [(1, ptr r1), (2, ptr r2), (3, .func (.func 44) #[] #[ptr r1]), (7, ii n)] ∧ m = [(0, some ⟨r1, arr .u32 16 (twoN f n), 55⟩), (1, some ⟨r2, arr .u32 16 (fun _ => 0), 55⟩)] ∧ (n ≤ 10)) [(1, ptr r1), (2, ptr r2), (3, .func (.func 44) #[] #[ptr r1]), (7, ii 0)] [(0, some ⟨r1, arr .u32 16 (twoN f 0), 55⟩), (1, some ⟨r2, arr .u32 16 (fun _ => 0), 55⟩)] (10 - 0) ⟨rfl, rfl, rfl, rfl, trivial⟩ ⟨rfl, rfl, trivial⟩ ⟨0, rfl, rfl, rfl, by omega⟩ ?_
  rintro kk E m ⟨n, rfl, rfl, rfl, hf0_0⟩
  refine e_seq ?_
  refine e_plain ?_
  refine e_lt rfl rfl rfl ?_
  refine e_nil ?_
  refine e_seq ?_
  refine e_cond rfl ?_ ?_
  · intro hc0
    have hc0 := of_decide_eq_true hc0
    refine e_skip ?_
    refine e_seq ?_
    refine e_block ?_
    refine e_seq ?_
    refine e_seq ?_
    refine e_plain ?_
    refine e_move rfl rfl ?_
    refine e_nil ?_
    refine e_block ?_
    refine e_loop (fun kk E m => ∃ (i : Nat), kk = 4 - i ∧ E = [(1, ptr r1), (2, ptr r2), (3, .func (.func 44) #[] #[ptr r1]), (7, ii n), (9, ii i)] ∧ m = [(0, some ⟨r1, arr .u32 16 (colN (twoN f n) i), 55⟩), (1, some ⟨r2, arr .u32 16 (fun _ => 0), 55⟩)] ∧ (i ≤ 4)) [(1, ptr r1), (2, ptr r2), (3, .func (.func 44) #[] #[ptr r1]), (7, ii n), (9, ii 0)] [(0, some ⟨r1, arr .u32 16 (colN (twoN f n) 0), 55⟩), (1, some ⟨r2, arr .u32 16 (fun _ => 0), 55⟩)] (4 - 0) ⟨rfl, rfl, rfl, rfl, rfl, trivial⟩ ⟨rfl, rfl, trivial⟩ ⟨0, rfl, rfl, rfl, by omega⟩ ?_
    rintro kk E m ⟨i, rfl, rfl, rfl, hf1_0⟩
    refine e_seq ?_
    refine e_plain ?_
    refine e_lt rfl rfl rfl ?_
    refine e_nil ?_
    refine e_seq ?_
    refine e_cond rfl ?_ ?_
    · intro hc1
      have hc1 := of_decide_eq_true hc1
      refine e_skip ?_
      refine e_seq ?_
      refine e_block ?_
      refine e_seq ?_
      refine e_plain ?_
      refine e_move rfl rfl ?_
      refine e_assign rfl rfl ?_
      refine e_nil ?_
      refine e_plainR ⟨[], 5, []⟩ ?_
      refine e_move rfl rfl ?_
      refine e_move rfl rfl ?_
      refine e_move rfl rfl ?_
      refine e_add_i (p := 4) rfl rfl rfl (by omega) ?_
      refine e_move rfl rfl ?_
      refine e_add_i (p := 8) rfl rfl rfl (by omega) ?_
      refine e_move rfl rfl ?_
      refine e_add_i (p := 12) rfl rfl rfl (by omega) ?_
      refine e_callW 0 rfl rfl ent44 rfl (by simp) (quarter_fn (G := []) _ r1 i (4 + i) (8 + i) (12 + i) (by omega) (by omega) (by omega) (by omega)) rfl rfl ?_
      refine e_nil ?_
      refine e_plain ?_
      refine e_add_i (q := 1) rfl rfl rfl (by omega) ?_
      refine e_move rfl rfl ?_
      refine e_nil ?_
      refine ⟨_, [(1, ptr r1), (2, ptr r2), (3, .func (.func 44) #[] #[ptr r1]), (7, ii n), (9, ii (i + 1))], [(0, some ⟨r1, arr .u32 16 (colN (twoN f n) (i + 1)), 55⟩), (1, some ⟨r2, arr .u32 16 (fun _ => 0), 55⟩)], ?_, ⟨rfl, rfl, rfl, rfl, rfl, trivial⟩, ⟨rfl, rfl, trivial⟩, i + 1, rfl, rfl, rfl, by omega⟩
      omega
    · intro hc1
      have hc1 := of_decide_eq_false hc1
      have hz1 : i = 4 := by omega
      subst hz1
      refine e_exit ?_
      refine e_seq ?_
      refine e_plain ?_
      refine e_move rfl rfl ?_
      refine e_nil ?_
      refine e_block ?_
      refine e_loop (fun kk E m => ∃ (j : Nat), kk = 4 - j ∧ E = [(1, ptr r1), (2, ptr r2), (3, .func (.func 44) #[] #[ptr r1]), (7, ii n), (22, ii j)] ∧ m = [(0, some ⟨r1, arr .u32 16 (diaN (colN (twoN f n) 4) j), 55⟩), (1, some ⟨r2, arr .u32 16 (fun _ => 0), 55⟩)] ∧ (j ≤ 4)) [(1, ptr r1), (2, ptr r2), (3, .func (.func 44) #[] #[ptr r1]), (7, ii n), (22, ii 0)] [(0, some ⟨r1, arr .u32 16 (diaN (colN (twoN f n) 4) 0), 55⟩), (1, some ⟨r2, arr .u32 16 (fun _ => 0), 55⟩)] (4 - 0) ⟨rfl, rfl, rfl, rfl, rfl, trivial⟩ ⟨rfl, rfl, trivial⟩ ⟨0, rfl, rfl, rfl, by omega⟩ ?_
      rintro kk E m ⟨j, rfl, rfl, rfl, hf2_0⟩
      refine e_seq ?_
      refine e_plain ?_
      refine e_lt rfl rfl rfl ?_
      refine e_nil ?_
      refine e_seq ?_
      refine e_cond rfl ?_ ?_
      · intro hc2
        have hc2 := of_decide_eq_true hc2
        refine e_skip ?_
        refine e_seq ?_
        refine e_block ?_
        refine e_seq ?_
        refine e_plain ?_
        refine e_move rfl rfl ?_
        refine e_assign rfl rfl ?_
        refine e_nil ?_
        refine e_plainR ⟨[], 5, []⟩ ?_
        refine e_move rfl rfl ?_
        refine e_move rfl rfl ?_
        refine e_move rfl rfl ?_
        refine e_add_i (q := 1) rfl rfl rfl (by omega) ?_
        refine e_rem_i (q := 4) rfl rfl rfl (by omega) ?_
        refine e_add_i (p := 4) rfl rfl rfl (by omega) ?_
        refine e_move rfl rfl ?_
        refine e_add_i (q := 2) rfl rfl rfl (by omega) ?_
        refine e_rem_i (q := 4) rfl rfl rfl (by omega) ?_
        refine e_add_i (p := 8) rfl rfl rfl (by omega) ?_
        refine e_move rfl rfl ?_
        refine e_add_i (q := 3) rfl rfl rfl (by omega) ?_
        refine e_rem_i (q := 4) rfl rfl rfl (by omega) ?_
        refine e_add_i (p := 12) rfl rfl rfl (by omega) ?_
        refine e_callW 0 rfl rfl ent44 rfl (by simp) (quarter_fn (G := []) _ r1 j (4 + (j + 1) % 4) (8 + (j + 2) % 4) (12 + (j + 3) % 4) (by omega) (by omega) (by omega) (by omega)) rfl rfl ?_
        refine e_nil ?_
        refine e_plain ?_
        refine e_add_i (q := 1) rfl rfl rfl (by omega) ?_
        refine e_move rfl rfl ?_
        refine e_nil ?_
        refine ⟨_, [(1, ptr r1), (2, ptr r2), (3, .func (.func 44) #[] #[ptr r1]), (7, ii n), (22, ii (j + 1))], [(0, some ⟨r1, arr .u32 16 (diaN (colN (twoN f n) 4) (j + 1)), 55⟩), (1, some ⟨r2, arr .u32 16 (fun _ => 0), 55⟩)], ?_, ⟨rfl, rfl, rfl, rfl, rfl, trivial⟩, ⟨rfl, rfl, trivial⟩, j + 1, rfl, rfl, rfl, by omega⟩
        omega
      · intro hc2
        have hc2 := of_decide_eq_false hc2
        have hz2 : j = 4 := by omega
        subst hz2
        refine e_exit ?_
        refine e_plain ?_
        refine e_add_i (q := 1) rfl rfl rfl (by omega) ?_
        refine e_move rfl rfl ?_
        refine e_nil ?_
        refine ⟨_, [(1, ptr r1), (2, ptr r2), (3, .func (.func 44) #[] #[ptr r1]), (7, ii (n + 1))], [(0, some ⟨r1, arr .u32 16 (twoN f (n + 1)), 55⟩), (1, some ⟨r2, arr .u32 16 (fun _ => 0), 55⟩)], ?_, ⟨rfl, rfl, rfl, rfl, trivial⟩, ⟨rfl, rfl, trivial⟩, n + 1, rfl, rfl, rfl, by omega⟩
        omega
  · intro hc0
    have hc0 := of_decide_eq_false hc0
    have hz0 : n = 10 := by omega
    subst hz0
    refine e_exit ?_
    refine e_seq ?_
    refine e_plain ?_
    refine e_loadA (i := 0) und55 rfl siz55 rfl rfl (arr_size _ _ _) rfl ⟨[], trivial⟩ ?_
    refine e_storeA (i := 1) siz55 rfl rfl (arr_size _ _ _) arr_one rfl (arr_sz _ _ _ _ _) (.inl rfl) ?_
    refine e_nil ?_
    refine e_ret ?_
    rw [← arr_congr (k := .u32) (n := 16) (twoN_dbls f 10)]
    exact ⟨_, rfl, .cell (i := 1) rfl rfl und55 rfl siz55 (arr_size _ _ _)⟩

end Go.Proofs.Ytoalabpbohkcjaa

/-
  Walks, written by a program of ours off the loaded functions.
-/
namespace Go.Proofs.Ytoalabpbohkcjaa
open Go Go.RowKit


theorem ent29 : enters Try.prog 29 = true := by kernel_rfl
theorem ent30 : enters Try.prog 30 = true := by kernel_rfl

variable {G : Mem}

set_option maxHeartbeats 2000000 in
theorem start_fn (k : Nat → Nat) (c : Nat) (nn : Nat → Nat) (hk : ∀ j, j < 32 → k j < 256) (hn : ∀ j, j < 12 → nn j < 256) (hc : c < 4294967296) : Fn Try.prog G 29 #[.agg (arr .u8 32 k), uw c, .agg (arr .u8 12 nn)] (.agg (arr .u32 16 (wrd (allb k c nn)))) := by
  refine fn1 (n := 53) Try.func29 rfl rfl (by simp) (argE [.agg (arr .u8 32 k), uw c, .agg (arr .u8 12 nn)] 0) (argE_ok _) ?_
  refine e_seq ?_
  refine e_plain ?_
  refine e_box 0 rfl rfl fun r1 => ?_
  refine e_box 1 rfl rfl fun r2 => ?_
  refine e_alloc 2 zer55 rfl fun r3 => ?_
  refine e_nil ?_
  refine e_seq ?_
  refine e_plain ?_
  refine e_move rfl rfl ?_
  refine e_build (arr .u32 16 (fun t => if t = 0 then 1634760805 else if t = 1 then 857760878 else if t = 2 then 2036477234 else if t = 3 then 1797285236 else if t = 12 then c else 0)) zer55 und55 siz41 rfl (by kernel_rfl) rfl ?_
  refine e_alloc 3 zer55 rfl fun r4 => ?_
  refine e_storeA (i := 3) siz55 rfl rfl (arr_size _ _ _) arr_one rfl (arr_sz _ _ _ _ _) (.inl rfl) ?_
  refine e_nil ?_
  refine e_seq ?_
  refine e_seq ?_
  refine e_plain ?_
  refine e_loadA (i := 0) und36 rfl siz36 rfl rfl (arr_size _ _ _) rfl ⟨[], trivial⟩ ?_
  refine e_move rfl rfl ?_
  refine e_nil ?_
  refine e_block ?_
  refine e_loop (fun kk E m => ∃ (i : Nat) (s : Nat → Nat), kk = 32 - i ∧ E = [(3, ptr r1), (5, ptr r2), (6, ptr r3), (7, ptr r4), (14, .agg (arr .u8 32 k)), (15, ii i)] ∧ m = [(0, some ⟨r1, arr .u8 32 k, 36⟩), (1, some ⟨r2, arr .u8 12 nn, 23⟩), (2, some ⟨r3, arr .u32 16 (fun _ => 0), 55⟩), (3, some ⟨r4, arr .u32 16 s, 55⟩)] ∧ (i ≤ 32) ∧ (∀ t, t < 16 → s t = stw k c nn i 0 t)) [(3, ptr r1), (5, ptr r2), (6, ptr r3), (7, ptr r4), (14, .agg (arr .u8 32 k)), (15, ii 0)] [(0, some ⟨r1, arr .u8 32 k, 36⟩), (1, some ⟨r2, arr .u8 12 nn, 23⟩), (2, some ⟨r3, arr .u32 16 (fun _ => 0), 55⟩), (3, some ⟨r4, arr .u32 16 ((fun t => if t = 0 then 1634760805 else if t = 1 then 857760878 else if t = 2 then 2036477234 else if t = 3 then 1797285236 else if t = 12 then c else 0)), 55⟩)] (32 - 0) ⟨rfl, rfl, rfl, rfl, rfl, rfl, trivial⟩ ⟨rfl, rfl, rfl, rfl, trivial⟩ ⟨0, (fun t => if t = 0 then 1634760805 else if t = 1 then 857760878 else if t = 2 then 2036477234 else if t = 3 then 1797285236 else if t = 12 then c else 0), rfl, rfl, rfl, by omega, stw_first k c nn⟩ ?_
  rintro kk E m ⟨i, s, rfl, rfl, rfl, hf0_0, hf0_1⟩
  refine e_seq ?_
  refine e_plain ?_
  refine e_lt rfl rfl rfl ?_
  refine e_nil ?_
  refine e_seq ?_
  refine e_cond rfl ?_ ?_
  · intro hc0
    have hc0 := of_decide_eq_true hc0
    refine e_skip ?_
    refine e_seq ?_
    refine e_block ?_
    refine e_seq ?_
    refine e_plain ?_
    refine e_move rfl rfl ?_
    refine e_idx und36 und5 siz5 rfl rfl (by omega) rfl ?_
    refine e_assign rfl rfl ?_
    refine e_assign rfl rfl ?_
    refine e_nil ?_
    refine e_draw mixed (by kernel_rfl) ?_
    refine e_move rfl rfl ?_
    refine e_quo_i (q := 4) rfl rfl rfl (by omega) (by omega) ?_
    refine e_add_i (p := 4) rfl rfl rfl (by omega) ?_
    refine e_index0 und55 siz41 rfl rfl (by omega) rfl ?_
    refine e_load1 (i := 3) und41 rfl rfl rfl (arr_get (by omega)) rfl ⟨[], trivial⟩ ?_
    refine e_move rfl rfl ?_
    refine e_conv_w und5 und41 rfl rfl rfl ?_
    refine e_as (congrArg uw (Nat.mod_eq_of_lt (Nat.lt_trans (hk i (by omega)) (by decide)))) ?_
    refine e_move rfl rfl ?_
    refine e_rem_i (q := 4) rfl rfl rfl (by omega) ?_
    refine e_mul_i (q := 8) rfl rfl rfl (by omega) ?_
    refine e_shl_w rfl rfl rfl (by omega) ?_
    refine e_or_w rfl rfl rfl  ?_
    refine e_index0 und55 siz41 rfl rfl (by omega) rfl ?_
    refine e_storeN (i := 3) siz41 rfl rfl rfl (by omega) (.inl rfl) ?_
    refine e_nil ?_
    refine e_plain ?_
    refine e_add_i (q := 1) rfl rfl rfl (by omega) ?_
    refine e_move rfl rfl ?_
    refine e_nil ?_
    refine ⟨_, [(3, ptr r1), (5, ptr r2), (6, ptr r3), (7, ptr r4), (14, .agg (arr .u8 32 k)), (15, ii (i + 1))], [(0, some ⟨r1, arr .u8 32 k, 36⟩), (1, some ⟨r2, arr .u8 12 nn, 23⟩), (2, some ⟨r3, arr .u32 16 (fun _ => 0), 55⟩), (3, some ⟨r4, arr .u32 16 (upd s (4 + i / 4) _), 55⟩)], ?_, ⟨rfl, rfl, rfl, rfl, rfl, rfl, trivial⟩, ⟨rfl, rfl, rfl, rfl, trivial⟩, i + 1, upd s (4 + i / 4) _, rfl, rfl, rfl, by omega, stw_key hk (by omega) hf0_1⟩
    omega
  · intro hc0
    have hc0 := of_decide_eq_false hc0
    have hz0 : i = 32 := by omega
    subst hz0
    refine e_exit ?_
    refine e_seq ?_
    refine e_seq ?_
    refine e_plain ?_
    refine e_loadA (i := 1) und23 rfl siz23 rfl rfl (arr_size _ _ _) rfl ⟨[], trivial⟩ ?_
    refine e_move rfl rfl ?_
    refine e_nil ?_
    refine e_block ?_
    refine e_loop (fun kk E m => ∃ (q : Nat) (s2 : Nat → Nat), kk = 12 - q ∧ E = [(3, ptr r1), (5, ptr r2), (6, ptr r3), (7, ptr r4), (33, .agg (arr .u8 12 nn)), (34, ii q)] ∧ m = [(0, some ⟨r1, arr .u8 32 k, 36⟩), (1, some ⟨r2, arr .u8 12 nn, 23⟩), (2, some ⟨r3, arr .u32 16 (fun _ => 0), 55⟩), (3, some ⟨r4, arr .u32 16 s2, 55⟩)] ∧ (q ≤ 12) ∧ (∀ t, t < 16 → s2 t = stw k c nn 32 q t)) [(3, ptr r1), (5, ptr r2), (6, ptr r3), (7, ptr r4), (33, .agg (arr .u8 12 nn)), (34, ii 0)] [(0, some ⟨r1, arr .u8 32 k, 36⟩), (1, some ⟨r2, arr .u8 12 nn, 23⟩), (2, some ⟨r3, arr .u32 16 (fun _ => 0), 55⟩), (3, some ⟨r4, arr .u32 16 s, 55⟩)] (12 - 0) ⟨rfl, rfl, rfl, rfl, rfl, rfl, trivial⟩ ⟨rfl, rfl, rfl, rfl, trivial⟩ ⟨0, s, rfl, rfl, rfl, by omega, hf0_1⟩ ?_
    rintro kk E m ⟨q, s2, rfl, rfl, rfl, hf1_0, hf1_1⟩
    refine e_seq ?_
    refine e_plain ?_
    refine e_lt rfl rfl rfl ?_
    refine e_nil ?_
    refine e_seq ?_
    refine e_cond rfl ?_ ?_
    · intro hc1
      have hc1 := of_decide_eq_true hc1
      refine e_skip ?_
      refine e_seq ?_
      refine e_block ?_
      refine e_seq ?_
      refine e_plain ?_
      refine e_move rfl rfl ?_
      refine e_idx und23 und5 siz5 rfl rfl (by omega) rfl ?_
      refine e_assign rfl rfl ?_
      refine e_assign rfl rfl ?_
      refine e_nil ?_
      refine e_draw mixed (by kernel_rfl) ?_
      refine e_move rfl rfl ?_
      refine e_quo_i (q := 4) rfl rfl rfl (by omega) (by omega) ?_
      refine e_add_i (p := 13) rfl rfl rfl (by omega) ?_
      refine e_index0 und55 siz41 rfl rfl (by omega) rfl ?_
      refine e_load1 (i := 3) und41 rfl rfl rfl (arr_get (by omega)) rfl ⟨[], trivial⟩ ?_
      refine e_move rfl rfl ?_
      refine e_conv_w und5 und41 rfl rfl rfl ?_
      refine e_as (congrArg uw (Nat.mod_eq_of_lt (Nat.lt_trans (hn q (by omega)) (by decide)))) ?_
      refine e_move rfl rfl ?_
      refine e_rem_i (q := 4) rfl rfl rfl (by omega) ?_
      refine e_mul_i (q := 8) rfl rfl rfl (by omega) ?_
      refine e_shl_w rfl rfl rfl (by omega) ?_
      refine e_or_w rfl rfl rfl  ?_
      refine e_index0 und55 siz41 rfl rfl (by omega) rfl ?_
      refine e_storeN (i := 3) siz41 rfl rfl rfl (by omega) (.inl rfl) ?_
      refine e_nil ?_
      refine e_plain ?_
      refine e_add_i (q := 1) rfl rfl rfl (by omega) ?_
      refine e_move rfl rfl ?_
      refine e_nil ?_
      refine ⟨_, [(3, ptr r1), (5, ptr r2), (6, ptr r3), (7, ptr r4), (33, .agg (arr .u8 12 nn)), (34, ii (q + 1))], [(0, some ⟨r1, arr .u8 32 k, 36⟩), (1, some ⟨r2, arr .u8 12 nn, 23⟩), (2, some ⟨r3, arr .u32 16 (fun _ => 0), 55⟩), (3, some ⟨r4, arr .u32 16 (upd s2 (13 + q / 4) _), 55⟩)], ?_, ⟨rfl, rfl, rfl, rfl, rfl, rfl, trivial⟩, ⟨rfl, rfl, rfl, rfl, trivial⟩, q + 1, upd s2 (13 + q / 4) _, rfl, rfl, rfl, by omega, stw_nonce hn (by omega) hf1_1⟩
      omega
    · intro hc1
      have hc1 := of_decide_eq_false hc1
      have hz1 : q = 12 := by omega
      subst hz1
      refine e_exit ?_
      refine e_seq ?_
      refine e_plain ?_
      refine e_loadA (i := 3) und55 rfl siz55 rfl rfl (arr_size _ _ _) rfl ⟨[], trivial⟩ ?_
      refine e_storeA (i := 2) siz55 rfl rfl (arr_size _ _ _) arr_one rfl (arr_sz _ _ _ _ _) (.inl rfl) ?_
      refine e_nil ?_
      refine e_ret ?_
      rw [← arr_congr (k := .u32) (n := 16) (stw_end k nn hc), ← arr_congr (k := .u32) (n := 16) hf1_1]
      exact ⟨_, rfl, .cell (i := 2) rfl rfl und55 rfl siz55 (arr_size _ _ _)⟩

set_option maxHeartbeats 2000000 in
theorem block_fn (k : Nat → Nat) (c : Nat) (nn : Nat → Nat) (hk : ∀ j, j < 32 → k j < 256) (hn : ∀ j, j < 12 → nn j < 256) (hc : c < 4294967296) : Fn Try.prog G 20 #[.agg (arr .u8 32 k), uw c, .agg (arr .u8 12 nn)] (.agg (arr .u8 64 (blkf k c nn))) := by
  obtain ⟨w, hw⟩ : ∃ w, w = wrd (allb k c nn) := ⟨_, rfl⟩
  obtain ⟨v, hv⟩ : ∃ v, v = dbls (wrd (allb k c nn)) 10 := ⟨_, rfl⟩
  refine fn1 (n := 38) Try.func20 rfl rfl (by simp) (argE [.agg (arr .u8 32 k), uw c, .agg (arr .u8 12 nn)] 0) (argE_ok _) ?_
  refine e_seq ?_
  refine e_plain ?_
  refine e_box 0 rfl rfl fun r1 => ?_
  refine e_box 1 rfl rfl fun r2 => ?_
  refine e_alloc 2 zer44 rfl fun r3 => ?_
  refine e_nil ?_
  refine e_seq ?_
  refine e_plain ?_
  refine e_loadA (i := 0) und36 rfl siz36 rfl rfl (arr_size _ _ _) rfl ⟨[], trivial⟩ ?_
  refine e_move rfl rfl ?_
  refine e_loadA (i := 1) und23 rfl siz23 rfl rfl (arr_size _ _ _) rfl ⟨[], trivial⟩ ?_
  refine e_call rfl ent29 (start_fn k c nn hk hn hc) rfl rfl ?_
  refine e_as (congrArg (fun f => Value.agg (arr .u32 16 f)) hw.symm) ?_
  refine e_alloc 3 zer55 rfl fun r4 => ?_
  refine e_storeA (i := 3) siz55 rfl rfl (arr_size _ _ _) arr_one rfl (arr_sz _ _ _ _ _) (.inl rfl) ?_
  refine e_nil ?_
  refine e_seq ?_
  refine e_plain ?_
  refine e_loadA (i := 3) und55 rfl siz55 rfl rfl (arr_size _ _ _) rfl ⟨[], trivial⟩ ?_
  refine e_call rfl ent30 (rounds_fn w) rfl rfl ?_
  refine e_as (congrArg (fun f => Value.agg (arr .u32 16 f)) (show dbls w 10 = v by rw [hv, hw])) ?_
  refine e_alloc 4 zer55 rfl fun r5 => ?_
  refine e_storeA (i := 4) siz55 rfl rfl (arr_size _ _ _) arr_one rfl (arr_sz _ _ _ _ _) (.inl rfl) ?_
  refine e_nil ?_
  refine e_seq ?_
  refine e_plain ?_
  refine e_alloc 5 zer44 rfl fun r6 => ?_
  refine e_nil ?_
  refine e_seq ?_
  refine e_seq ?_
  refine e_plain ?_
  refine e_move rfl rfl ?_
  refine e_nil ?_
  refine e_block ?_
  refine e_loop (fun kk E m => ∃ (i : Nat) (s : Nat → Nat), kk = 64 - i ∧ E = [(6, ptr r3), (7, ptr r4), (8, ptr r5), (9, ptr r6), (17, ii i)] ∧ m = [(0, some ⟨r1, arr .u8 32 k, 36⟩), (1, some ⟨r2, arr .u8 12 nn, 23⟩), (2, some ⟨r3, arr .u8 64 (fun _ => 0), 44⟩), (3, some ⟨r4, arr .u32 16 w, 55⟩), (4, some ⟨r5, arr .u32 16 v, 55⟩), (5, some ⟨r6, arr .u8 64 s, 44⟩)] ∧ (i ≤ 64) ∧ (∀ t, t < i → s t = blkf k c nn t)) [(6, ptr r3), (7, ptr r4), (8, ptr r5), (9, ptr r6), (17, ii 0)] [(0, some ⟨r1, arr .u8 32 k, 36⟩), (1, some ⟨r2, arr .u8 12 nn, 23⟩), (2, some ⟨r3, arr .u8 64 (fun _ => 0), 44⟩), (3, some ⟨r4, arr .u32 16 w, 55⟩), (4, some ⟨r5, arr .u32 16 v, 55⟩), (5, some ⟨r6, arr .u8 64 (fun _ => 0), 44⟩)] (64 - 0) ⟨rfl, rfl, rfl, rfl, rfl, trivial⟩ ⟨rfl, rfl, rfl, rfl, rfl, rfl, trivial⟩ ⟨0, fun _ => 0, rfl, rfl, rfl, by omega, fun t ht => absurd ht (Nat.not_lt_zero t)⟩ ?_
  rintro kk E m ⟨i, s, rfl, rfl, rfl, hf0_0, hf0_1⟩
  refine e_seq ?_
  refine e_plain ?_
  refine e_lt rfl rfl rfl ?_
  refine e_nil ?_
  refine e_seq ?_
  refine e_cond rfl ?_ ?_
  · intro hc0
    have hc0 := of_decide_eq_true hc0
    refine e_skip ?_
    refine e_seq ?_
    refine e_block ?_
    refine e_seq ?_
    refine e_plain ?_
    refine e_move rfl rfl ?_
    refine e_assign rfl rfl ?_
    refine e_nil ?_
    refine e_draw mixed (by kernel_rfl) ?_
    refine e_move rfl rfl ?_
    refine e_move rfl rfl ?_
    refine e_quo_i (q := 4) rfl rfl rfl (by omega) (by omega) ?_
    refine e_index0 und55 siz41 rfl rfl (by omega) rfl ?_
    refine e_load1 (i := 4) und41 rfl rfl rfl (arr_get (by omega)) rfl ⟨[], trivial⟩ ?_
    refine e_move rfl rfl ?_
    refine e_quo_i (q := 4) rfl rfl rfl (by omega) (by omega) ?_
    refine e_index0 und55 siz41 rfl rfl (by omega) rfl ?_
    refine e_load1 (i := 3) und41 rfl rfl rfl (arr_get (by omega)) rfl ⟨[], trivial⟩ ?_
    refine e_add_w rfl rfl rfl  ?_
    refine e_move rfl rfl ?_
    refine e_rem_i (q := 4) rfl rfl rfl (by omega) ?_
    refine e_mul_i (q := 8) rfl rfl rfl (by omega) ?_
    refine e_shr_w rfl rfl rfl (by omega) ?_
    refine e_conv_u8 und41 und5 rfl rfl rfl ?_
    refine e_index0 und44 siz5 rfl rfl (by omega) rfl ?_
    refine e_storeN (i := 5) siz5 rfl rfl rfl (by omega) (.inl rfl) ?_
    refine e_nil ?_
    refine e_plain ?_
    refine e_add_i (q := 1) rfl rfl rfl (by omega) ?_
    refine e_move rfl rfl ?_
    refine e_nil ?_
    refine ⟨_, [(6, ptr r3), (7, ptr r4), (8, ptr r5), (9, ptr r6), (17, ii (i + 1))], [(0, some ⟨r1, arr .u8 32 k, 36⟩), (1, some ⟨r2, arr .u8 12 nn, 23⟩), (2, some ⟨r3, arr .u8 64 (fun _ => 0), 44⟩), (3, some ⟨r4, arr .u32 16 w, 55⟩), (4, some ⟨r5, arr .u32 16 v, 55⟩), (5, some ⟨r6, arr .u8 64 (upd s i _), 44⟩)], ?_, ⟨rfl, rfl, rfl, rfl, rfl, trivial⟩, ⟨rfl, rfl, rfl, rfl, rfl, rfl, trivial⟩, i + 1, upd s i _, rfl, rfl, rfl, by omega, upd_lt hf0_1 (blk_at k c nn hv hw (by omega))⟩
    omega
  · intro hc0
    have hc0 := of_decide_eq_false hc0
    have hz0 : i = 64 := by omega
    subst hz0
    refine e_exit ?_
    refine e_seq ?_
    refine e_plain ?_
    refine e_loadA (i := 5) und44 rfl siz44 rfl rfl (arr_size _ _ _) rfl ⟨[], trivial⟩ ?_
    refine e_storeA (i := 2) siz44 rfl rfl (arr_size _ _ _) arr_one rfl (arr_sz _ _ _ _ _) (.inl rfl) ?_
    refine e_nil ?_
    refine e_ret ?_
    rw [← arr_congr (k := .u8) (n := 64) hf0_1]
    exact ⟨_, rfl, .cell (i := 2) rfl rfl und44 rfl siz44 (arr_size _ _ _)⟩

end Go.Proofs.Ytoalabpbohkcjaa
