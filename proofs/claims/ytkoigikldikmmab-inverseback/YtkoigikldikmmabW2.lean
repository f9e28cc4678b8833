/-
  Walks, written by a program of ours off the loaded functions.
-/
import Derived.Test.YtkoigikldikmmabW1
namespace Go.Proofs.Ytkoigikldikmmab
open Go Go.RowKit


theorem ent5 : enters Try.prog 5 = true := by kernel_rfl
theorem ent9 : enters Try.prog 9 = true := by kernel_rfl
theorem ent10 : enters Try.prog 10 = true := by kernel_rfl
theorem ent11 : enters Try.prog 11 = true := by kernel_rfl
theorem eqg25 : Try.prog.eqGuardType Try.prog.depth 25 = false := by kernel_rfl
theorem sis5 : ((Try.prog.info? 5).map (·.size)).isSome = true := by kernel_rfl
theorem siz5 : (Try.prog.info? 5).map (·.size) = some 1 := by kernel_rfl
theorem siz22 : (Try.prog.info? 22).map (·.size) = some 32 := by kernel_rfl
theorem und5 : Try.prog.underlying 5 = some (.int .u8) := by kernel_rfl
theorem und22 : Try.prog.underlying 22 = some (.array 32 5) := by kernel_rfl
theorem zer22 : (Try.prog.info? 22).bind (·.zero) = some (.agg (arr .u8 32 fun _ => 0)) := by kernel_rfl

variable {G : Mem}

set_option maxHeartbeats 400000 in
theorem from_fn (f : Nat → Nat) (hf : ∀ j, j < 32 → f j < 256) : Fn Try.prog G 5 #[.agg (arr .u8 32 f)] (fe (vb f 32 % 2 ^ 255 % PP)) := by
  have hPP := PP_eq
  refine fn1 (n := 29) Try.func5 rfl rfl (by simp) (argE [.agg (arr .u8 32 f)] 0) (argE_ok _) ?_
  refine e_seq ?_
  refine e_plain ?_
  refine e_box rfl rfl fun r1 => ?_
  refine e_alloc zer25 rfl fun r2 => ?_
  refine e_nil ?_
  refine e_seq ?_
  refine e_plain ?_
  refine e_alloc zer25 rfl fun r3 => ?_
  refine e_nil ?_
  refine e_seq ?_
  refine e_seq ?_
  refine e_plain ?_
  refine e_move rfl rfl ?_
  refine e_nil ?_
  refine e_block ?_
  refine e_loop (fun kk E m => ∃ (k : Nat) (s : Nat → Nat), kk = 32 - k ∧ E = [(1, ptr r1), (2, ptr r2), (3, ptr r3), (5, ii k)] ∧ m = [⟨r1, arr .u8 32 f, 22⟩, ⟨r2, arr .u64 4 (fun _ => 0), 25⟩, ⟨r3, arr .u64 4 s, 25⟩] ∧ (k ≤ 32) ∧ (∀ j, j < 4 → s j = wd (vb f k) j)) [(1, ptr r1), (2, ptr r2), (3, ptr r3), (5, ii 0)] (32 - 0) ⟨rfl, rfl, rfl, rfl, trivial⟩ ⟨0, fun _ => 0, rfl, rfl, rfl, by omega, fun j _ => by simp [vb, wd]⟩ ?_
  rintro kk E m ⟨k, s, rfl, rfl, rfl, hf0_0, hf0_1⟩
  refine e_seq ?_
  refine e_plain ?_
  refine e_lt rfl rfl rfl ?_
  refine e_nil ?_
  refine e_seq ?_
  refine e_cond rfl ?_ ?_
  · intro hc0
    have hc0 := of_decide_eq_true hc0
    refine e_skip ?_
    refine e_seq ?_
    refine e_block ?_
    refine e_seq ?_
    refine e_plain ?_
    refine e_move rfl rfl ?_
    refine e_assign rfl rfl ?_
    refine e_nil ?_
    refine e_draw mixed (by kernel_rfl) ?_
    refine e_move rfl rfl ?_
    refine e_quo_i (q := 8) rfl rfl rfl (by omega) (by omega) ?_
    refine e_index0 und25 siz23 rfl rfl (by omega) rfl ?_
    refine e_load1 (i := 2) und23 rfl rfl rfl (arr_get (by omega)) rfl ?_
    refine e_move rfl rfl ?_
    refine e_index0 und22 siz5 rfl rfl (by omega) rfl ?_
    refine e_load1 (i := 0) und5 rfl rfl rfl (arr_get (by omega)) rfl ?_
    refine e_conv_u und5 und23 rfl rfl ?_
    refine e_move rfl rfl ?_
    refine e_rem_i (q := 8) rfl rfl rfl (by omega) ?_
    refine e_mul_i (q := 8) rfl rfl rfl (by omega) ?_
    refine e_shl_u rfl rfl rfl (by omega) ?_
    refine e_or_u rfl rfl rfl  ?_
    refine e_index0 und25 siz23 rfl rfl (by omega) rfl ?_
    refine e_storeN (i := 2) siz23 rfl rfl rfl (by omega) ?_
    refine e_nil ?_
    refine e_plain ?_
    refine e_add_i (q := 1) rfl rfl rfl (by omega) ?_
    refine e_move rfl rfl ?_
    refine e_nil ?_
    refine ⟨_, [(1, ptr r1), (2, ptr r2), (3, ptr r3), (5, ii (k + 1))], ?_, ⟨rfl, rfl, rfl, rfl, trivial⟩, k + 1, upd s (k / 8) _, rfl, rfl, rfl, by omega, from_step f k s (by omega) hf hf0_1⟩
    omega
  · intro hc0
    have hc0 := of_decide_eq_false hc0
    have hk32 : k = 32 := by omega
    subst hk32
    have hA := from_top f s hf hf0_1
    refine e_exit ?_
    refine e_seq ?_
    refine e_plain ?_
    refine e_index0 (j := 3) und25 siz23 rfl rfl (by omega) rfl ?_
    refine e_load1 (i := 2) und23 rfl rfl rfl (arr_get (by omega)) rfl ?_
    refine e_and_u (q := 9223372036854775807) rfl rfl rfl  ?_
    refine e_index0 (j := 3) und25 siz23 rfl rfl (by omega) rfl ?_
    refine e_storeN (i := 2) siz23 rfl rfl rfl (by omega) ?_
    refine e_nil ?_
    refine e_seq ?_
    refine e_plain ?_
    refine e_loadA (i := 2) und25 rfl siz25 rfl rfl (arr_size _ _ _) rfl ?_
    refine e_as hA ?_
    refine e_call rfl ent10 (fold_fn (vb f 32 % 2 ^ 255) 0 (by omega) (by omega)) rfl ?_
    refine e_storeA (i := 1) siz25 rfl rfl (arr_size _ _ _) arr_one rfl (arr_sz _ _ _ _ _) ?_
    refine e_nil ?_
    refine e_ret ?_
    rw [show vb f 32 % 2 ^ 255 % PP = (vb f 32 % 2 ^ 255 + 0 * 2 ^ 256) % PP by rw [Nat.zero_mul, Nat.add_zero]]
    exact ⟨_, rfl, .cell (i := 1) rfl rfl und25 rfl siz25 (arr_size _ _ _)⟩

set_option maxHeartbeats 400000 in
theorem bytes_ok (a : Nat) (ha : a < PP) : Fn Try.prog G 9 #[fe a] (.tuple #[by32 a, ii 0]) := by
  have hPP := PP_eq
  refine fn2 (n := 26) Try.func9 rfl rfl (by simp) (argE [fe a] 0) (argE_ok _) ?_
  refine e_seq ?_
  refine e_plain ?_
  refine e_box rfl rfl fun r1 => ?_
  refine e_alloc zer22 rfl fun r2 => ?_
  refine e_assign rfl rfl ?_
  refine e_nil ?_
  refine e_seq ?_
  refine e_seq ?_
  refine e_plain ?_
  refine e_loadA (i := 0) und25 rfl siz25 rfl rfl (arr_size _ _ _) rfl ?_
  refine e_call rfl ent11 (below_fn _ (by omega)) rfl ?_
  refine e_not rfl rfl ?_
  refine e_nil ?_
  refine e_cond rfl ?_ ?_
  · intro hc0
    simp [ha] at hc0
  · intro hc0
    refine e_skip ?_
    refine e_seq ?_
    refine e_plain ?_
    refine e_alloc zer22 rfl fun r3 => ?_
    refine e_nil ?_
    refine e_seq ?_
    refine e_seq ?_
    refine e_plain ?_
    refine e_move rfl rfl ?_
    refine e_nil ?_
    refine e_block ?_
    refine e_loop (fun kk E m => ∃ (k : Nat) (s : Nat → Nat), kk = 32 - k ∧ E = [(1, ptr r1), (2, ptr r2), (4, ptr r3), (10, ii k)] ∧ m = [⟨r1, arr .u64 4 (wd a), 25⟩, ⟨r2, arr .u8 32 (fun _ => 0), 22⟩, ⟨r3, arr .u8 32 s, 22⟩] ∧ (k ≤ 32) ∧ (∀ j, j < k → s j = bt a j)) [(1, ptr r1), (2, ptr r2), (4, ptr r3), (10, ii 0)] (32 - 0) ⟨rfl, rfl, rfl, rfl, trivial⟩ ⟨0, fun _ => 0, rfl, rfl, rfl, by omega, fun j hj => absurd hj (Nat.not_lt_zero j)⟩ ?_
    rintro kk E m ⟨k, s, rfl, rfl, rfl, hf0_0, hf0_1⟩
    refine e_seq ?_
    refine e_plain ?_
    refine e_lt rfl rfl rfl ?_
    refine e_nil ?_
    refine e_seq ?_
    refine e_cond rfl ?_ ?_
    · intro hc1
      have hc1 := of_decide_eq_true hc1
      refine e_skip ?_
      refine e_seq ?_
      refine e_block ?_
      refine e_seq ?_
      refine e_plain ?_
      refine e_move rfl rfl ?_
      refine e_assign rfl rfl ?_
      refine e_nil ?_
      refine e_plain ?_
      refine e_move rfl rfl ?_
      refine e_move rfl rfl ?_
      refine e_quo_i (q := 8) rfl rfl rfl (by omega) (by omega) ?_
      refine e_index0 und25 siz23 rfl rfl (by omega) rfl ?_
      refine e_load1 (i := 0) und23 rfl rfl rfl (arr_get (by omega)) rfl ?_
      refine e_move rfl rfl ?_
      refine e_rem_i (q := 8) rfl rfl rfl (by omega) ?_
      refine e_mul_i (q := 8) rfl rfl rfl (by omega) ?_
      refine e_shr_u rfl rfl rfl (by omega) ?_
      refine e_conv_u8 und23 und5 rfl rfl ?_
      refine e_index0 und22 siz5 rfl rfl (by omega) rfl ?_
      refine e_storeN (i := 2) siz5 rfl rfl rfl (by omega) ?_
      refine e_nil ?_
      refine e_plain ?_
      refine e_add_i (q := 1) rfl rfl rfl (by omega) ?_
      refine e_move rfl rfl ?_
      refine e_nil ?_
      refine ⟨_, [(1, ptr r1), (2, ptr r2), (4, ptr r3), (10, ii (k + 1))], ?_, ⟨rfl, rfl, rfl, rfl, trivial⟩, k + 1, upd s k _, rfl, rfl, rfl, by omega, upd_lt hf0_1 (bt_word a k)⟩
      omega
    · intro hc1
      have hc1 := of_decide_eq_false hc1
      refine e_exit ?_
      refine e_seq ?_
      refine e_plain ?_
      refine e_loadA (i := 2) und22 rfl siz22 rfl rfl (arr_size _ _ _) rfl ?_
      refine e_storeA (i := 1) siz22 rfl rfl (arr_size _ _ _) arr_one rfl (arr_sz _ _ _ _ _) ?_
      refine e_assign rfl rfl ?_
      refine e_nil ?_
      refine e_ret ?_
      have hk32 : k = 32 := by omega
      subst hk32
      rw [← by_congr hf0_1]
      exact ⟨_, _, rfl, .cell (i := 1) rfl rfl und22 rfl siz22 (arr_size _ _ _), .tmp rfl⟩

set_option maxHeartbeats 400000 in
theorem bytes_bad (a : Nat) (ha : a < 2 ^ 256) (hb : ¬ a < PP) : Fn Try.prog G 9 #[fe a] (.tuple #[.agg (arr .u8 32 (fun _ => 0)), ii 6]) := by
  refine fn2 (n := 26) Try.func9 rfl rfl (by simp) (argE [fe a] 0) (argE_ok _) ?_
  refine e_seq ?_
  refine e_plain ?_
  refine e_box rfl rfl fun r1 => ?_
  refine e_alloc zer22 rfl fun r2 => ?_
  refine e_assign rfl rfl ?_
  refine e_nil ?_
  refine e_seq ?_
  refine e_seq ?_
  refine e_plain ?_
  refine e_loadA (i := 0) und25 rfl siz25 rfl rfl (arr_size _ _ _) rfl ?_
  refine e_call rfl ent11 (below_fn _ (by omega)) rfl ?_
  refine e_not rfl rfl ?_
  refine e_nil ?_
  refine e_cond rfl ?_ ?_
  · intro hc0
    refine e_seq ?_
    refine e_plain ?_
    refine e_build0 zer22 und22 sis5 rfl ?_
    refine e_storeA (i := 1) siz22 rfl rfl (arr_size _ _ _) arr_one rfl (arr_sz _ _ _ _ _) ?_
    refine e_assign rfl rfl ?_
    refine e_nil ?_
    refine e_ret ?_
    exact ⟨_, _, rfl, .cell (i := 1) rfl rfl und22 rfl siz22 (arr_size _ _ _), .tmp rfl⟩
  · intro hc0
    simp at hc0; exact absurd hc0 hb

set_option maxHeartbeats 400000 in
theorem bytesBack_fn (f : Nat → Nat) (hf : ∀ j, j < 32 → f j < 256) : Fn Try.prog G 4 #[.agg (arr .u8 32 f)] (.bool true) := by
  obtain ⟨y, hy⟩ : ∃ y, y = vb f 32 % 2 ^ 255 % PP := ⟨_, rfl⟩
  have hyP : y < PP := by rw [hy]; exact Nat.mod_lt _ (by decide)
  have hbk := vb_back y hyP
  have hbt := bt_top y hyP
  refine fn1 (n := 37) Try.func4 rfl rfl (by simp) (argE [.agg (arr .u8 32 f)] 0) (argE_ok _) ?_
  refine e_seq ?_
  refine e_plain ?_
  refine e_box rfl rfl fun r1 => ?_
  refine e_assign rfl rfl ?_
  refine e_nil ?_
  refine e_seq ?_
  refine e_plain ?_
  refine e_loadA (i := 0) und22 rfl siz22 rfl rfl (arr_size _ _ _) rfl ?_
  refine e_call rfl ent5 (from_fn f hf) rfl ?_
  refine e_as (congrArg fe hy.symm) ?_
  refine e_alloc zer25 rfl fun r2 => ?_
  refine e_storeA (i := 1) siz25 rfl rfl (arr_size _ _ _) arr_one rfl (arr_sz _ _ _ _ _) ?_
  refine e_nil ?_
  refine e_seq ?_
  refine e_plain ?_
  refine e_loadA (i := 1) und25 rfl siz25 rfl rfl (arr_size _ _ _) rfl ?_
  refine e_call rfl ent9 (bytes_ok y hyP) rfl ?_
  refine e_move rfl rfl ?_
  refine e_extract rfl rfl rfl ?_
  refine e_extract rfl rfl rfl ?_
  refine e_alloc zer22 rfl fun r3 => ?_
  refine e_storeA (i := 2) siz22 rfl rfl (arr_size _ _ _) arr_one rfl (arr_sz _ _ _ _ _) ?_
  refine e_assign rfl rfl ?_
  refine e_nil ?_
  refine e_seq ?_
  refine e_plain ?_
  refine e_build (arr .u64 4 (wd (2 ^ 256 - 1))) zer25 und25 siz23 rfl (by kernel_rfl) rfl ?_
  refine e_call rfl ent9 (bytes_bad (2 ^ 256 - 1) (by decide) (by decide)) rfl ?_
  refine e_move rfl rfl ?_
  refine e_extract rfl rfl rfl ?_
  refine e_extract rfl rfl rfl ?_
  refine e_alloc zer22 rfl fun r4 => ?_
  refine e_storeA (i := 3) siz22 rfl rfl (arr_size _ _ _) arr_one rfl (arr_sz _ _ _ _ _) ?_
  refine e_assign rfl rfl ?_
  refine e_nil ?_
  refine e_seq ?_
  refine e_draw mixed (by kernel_rfl) ?_
  refine e_move rfl rfl ?_
  refine e_eq rfl rfl rfl ?_
  refine e_as (congrArg Value.bool (decide_eq_true rfl)) ?_
  refine e_move rfl rfl ?_
  refine e_yes rfl rfl rfl ?_
  refine e_move rfl rfl ?_
  refine e_yes rfl rfl rfl ?_
  refine e_eq rfl rfl rfl ?_
  refine e_as (congrArg Value.bool (decide_eq_true rfl)) ?_
  refine e_pickT rfl rfl rfl rfl ?_
  refine e_move rfl rfl ?_
  refine e_yes rfl rfl rfl ?_
  refine e_loadA (i := 2) und22 rfl siz22 rfl rfl (arr_size _ _ _) rfl ?_
  refine e_yes rfl rfl rfl ?_
  refine e_call rfl ent5 (from_fn (bt y) (fun j _ => bt_lt y j)) rfl ?_
  refine e_as (congrArg fe hbk) ?_
  refine e_yes rfl rfl rfl ?_
  refine e_loadA (i := 1) und25 rfl siz25 rfl rfl (arr_size _ _ _) rfl ?_
  refine e_yes rfl rfl rfl ?_
  refine e_eqA und25 und23 siz23 eqg25 rfl rfl rfl ?_
  refine e_as (congrArg Value.bool (allEq_iff.2 (fun _ _ => rfl))) ?_
  refine e_pickT rfl rfl rfl rfl ?_
  refine e_move rfl rfl ?_
  refine e_yes rfl rfl rfl ?_
  refine e_index0 (j := 31) und22 siz5 rfl rfl (by decide) rfl ?_
  refine e_yes rfl rfl rfl ?_
  refine e_load1 (i := 2) und5 rfl rfl rfl (arr_get (by omega)) rfl ?_
  refine e_yes rfl rfl rfl ?_
  refine e_lt rfl rfl rfl ?_
  refine e_as (congrArg Value.bool (decide_eq_true (by omega))) ?_
  refine e_pickT rfl rfl rfl rfl ?_
  refine e_assign rfl rfl ?_
  refine e_nil ?_
  refine e_ret ?_
  exact ⟨_, rfl, .tmp rfl⟩

end Go.Proofs.Ytkoigikldikmmab
