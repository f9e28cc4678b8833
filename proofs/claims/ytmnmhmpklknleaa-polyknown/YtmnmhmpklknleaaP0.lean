/-
  Walks, written by a program of ours off the loaded functions.
-/
import Derived.Test.YtmnmhmpklknleaaRows
import Derived.Test.YtmnmhmpklknleaaCh
import Derived.Test.YtmnmhmpklknleaaPol
namespace Go.Proofs.Ytmnmhmpklknleaa
open Go Go.RowKit


theorem mixed : Try.prog.follows .mixedOrders = true := by kernel_rfl
theorem siz5 : (Try.prog.info? 5).map (·.size) = some 1 := by kernel_rfl
theorem und5 : Try.prog.underlying 5 = some (.int .u8) := by kernel_rfl
theorem und9 : Try.prog.underlying 9 = some (.string) := by kernel_rfl
theorem und23 : Try.prog.underlying 23 = some (.int .u64) := by kernel_rfl
theorem und33 : Try.prog.underlying 33 = some (.slice 5) := by kernel_rfl
theorem zer5 : (Try.prog.info? 5).bind (·.zero) = some (.int .u8 0) := by kernel_rfl

variable {G : Mem}

set_option maxHeartbeats 400000 in
theorem low_fn (n k : Nat) (hn : n < 18446744073709551616) (hk : k ≤ 64) : Fn Try.prog G 24 #[u n, ii k] (sv (lowl n k)) := by
  refine fn1 (n := 19) Try.func24 rfl rfl (by simp) (argE [u n, ii k] 0) (argE_ok _) ?_
  refine e_seq ?_
  refine e_plain ?_
  refine e_assign (v := sv []) rfl rfl ?_
  refine e_nil ?_
  refine e_seq ?_
  refine e_plain ?_
  refine e_assign (v := sv []) rfl rfl ?_
  refine e_nil ?_
  refine e_seq ?_
  refine e_seq ?_
  refine e_plain ?_
  refine e_move rfl rfl ?_
  refine e_move rfl rfl ?_
  refine e_nil ?_
  refine e_block ?_
  refine e_loop (fun kk E m => ∃ (i : Nat), kk = k - i ∧ E = [(0, u (n / 256 ^ i)), (1, ii k), (5, sv (lowl n i)), (6, ii k), (7, ii i)] ∧ m = [] ∧ (i ≤ k)) [(0, u (n / 256 ^ 0)), (1, ii k), (5, sv (lowl n 0)), (6, ii k), (7, ii 0)] [] (k - 0) ⟨by rw [Nat.pow_zero, Nat.div_one]; rfl, rfl, rfl, rfl, rfl, trivial⟩ trivial ⟨0, rfl, rfl, rfl, by omega⟩ ?_
  rintro kk E m ⟨i, rfl, rfl, rfl, hf0_0⟩
  have hq : n / 256 ^ i < 18446744073709551616 := Nat.lt_of_le_of_lt (Nat.div_le_self _ _) hn
  have hll := lowl_len n i
  refine e_seq ?_
  refine e_plain ?_
  refine e_lt rfl rfl rfl ?_
  refine e_nil ?_
  refine e_seq ?_
  refine e_cond rfl ?_ ?_
  · intro hc0
    have hc0 := of_decide_eq_true hc0
    refine e_skip ?_
    refine e_seq ?_
    refine e_block ?_
    refine e_seq ?_
    refine e_plain ?_
    refine e_move rfl rfl ?_
    refine e_move rfl rfl ?_
    refine e_conv_u8 und23 und5 rfl rfl rfl ?_
    refine e_buildSl 0 #[by8 (n / 256 ^ i % 256)] und33 siz5 zer5 (by decide) (by decide) rfl (by kernel_rfl) rfl fun r1 => ?_
    refine e_conv_strV (l := [n / 256 ^ i % 256]) (shows_new _ _ (by rfl)) (seen1 0 rfl ⟨[], trivial⟩) und33 und5 und9 rfl rfl rfl ?_
    refine e_catS rfl rfl rfl (by simp; omega) ?_
    refine e_assign rfl rfl ?_
    refine e_nil ?_
    refine e_plain ?_
    refine e_move rfl rfl ?_
    refine e_quo_u (q := 256) rfl rfl rfl (by omega) (by omega) ?_
    refine e_assign rfl rfl ?_
    refine e_nil ?_
    refine e_plain ?_
    refine e_add_i (q := 1) rfl rfl rfl (by omega) ?_
    refine e_move rfl rfl ?_
    refine e_nil ?_
    refine ⟨_, [(0, u (n / 256 ^ (i + 1))), (1, ii k), (5, sv (lowl n (i + 1))), (6, ii k), (7, ii (i + 1))], [], ?_, ⟨by rw [Nat.pow_succ, ← Nat.div_div_eq_div_mul]; rfl, rfl, by rw [← lowl_succ]; rfl, rfl, rfl, trivial⟩, trivial, i + 1, rfl, rfl, rfl, by omega⟩
    omega
  · intro hc0
    have hc0 := of_decide_eq_false hc0
    have hik : i = k := by omega
    subst hik
    refine e_exit ?_
    refine e_seq ?_
    refine e_plain ?_
    refine e_move rfl rfl ?_
    refine e_assign rfl rfl ?_
    refine e_nil ?_
    refine e_ret ?_
    exact ⟨_, rfl, .tmp rfl⟩

set_option maxHeartbeats 400000 in
theorem number_fn (l : List Nat) (hl : l.length ≤ 8) (hb : ∀ b ∈ l, b < 256) : Fn Try.prog G 23 #[sv l] (u (leN l)) := by
  refine fn1 (n := 20) Try.func23 rfl rfl (by simp) (argE [sv l] 0) (argE_ok _) ?_
  refine e_seq ?_
  refine e_plain ?_
  refine e_assign rfl rfl ?_
  refine e_nil ?_
  refine e_seq ?_
  refine e_plain ?_
  refine e_assign rfl rfl ?_
  refine e_nil ?_
  refine e_seq ?_
  refine e_seq ?_
  refine e_plain ?_
  refine e_move rfl rfl ?_
  refine e_lenStr und9 rfl rfl rfl ?_
  refine e_sub_z (q := 1) rfl rfl rfl (by omega) (by omega) ?_
  refine e_assign rfl rfl ?_
  refine e_nil ?_
  refine e_block ?_
  refine e_loop (fun kk E m => ∃ (n : Nat), kk = 2 * n ∧ E = [(0, sv l), (3, u (leN (l.drop n))), (4, .int .i64 (((n : Nat) : Int) - 1))] ∧ m = [] ∧ (n ≤ l.length)) [(0, sv l), (3, u (leN (l.drop l.length))), (4, .int .i64 (((l.length : Nat) : Int) - 1))] [] (2 * l.length) ⟨rfl, by rw [List.drop_length]; rfl, rfl, trivial⟩ trivial ⟨l.length, rfl, rfl, rfl, Nat.le_refl _⟩ ?_
  rintro kk E m ⟨n, rfl, rfl, rfl, hf0_0⟩
  refine e_seq ?_
  refine e_seq ?_
  refine e_plain ?_
  refine e_move rfl rfl ?_
  refine e_ge rfl rfl rfl ?_
  refine e_nil ?_
  refine e_cond rfl ?_ ?_
  · intro hc0
    have hc0 := of_decide_eq_true hc0
    obtain ⟨i, rfl⟩ : ∃ i, n = i + 1 := ⟨n - 1, by omega⟩
    have hsm := leN_small hl hb i
    have hbi : l[i] < 256 := hb _ (List.getElem_mem _)
    refine e_skip ?_
    refine e_seq ?_
    refine e_block ?_
    refine e_plain ?_
    refine e_move rfl rfl ?_
    refine e_mul_u (q := 256) rfl rfl rfl  ?_
    refine e_as (congrArg u (Nat.mod_eq_of_lt (show leN (l.drop (i + 1)) * 256 < 18446744073709551616 by omega))) ?_
    refine e_move rfl rfl ?_
    refine e_move rfl rfl ?_
    refine e_as (congrArg (Value.int .i64) (show ((i + 1 : Nat) : Int) - 1 = ((i : Nat) : Int) by omega)) ?_
    refine e_idxStr und9 rfl rfl (List.getElem?_eq_getElem (show i < l.length by omega)) (hb _ (List.getElem_mem _)) rfl ?_
    refine e_conv_u und5 und23 rfl rfl rfl ?_
    refine e_as (congrArg u (Nat.mod_eq_of_lt (show l[i] < 18446744073709551616 by omega))) ?_
    refine e_add_u rfl rfl rfl  ?_
    refine e_as (congrArg u (Nat.mod_eq_of_lt (show leN (l.drop (i + 1)) * 256 + l[i] < 18446744073709551616 by omega))) ?_
    refine e_assign rfl rfl ?_
    refine e_nil ?_
    refine e_plain ?_
    refine e_move rfl rfl ?_
    refine e_sub_z (q := 1) rfl rfl rfl (by omega) (by omega) ?_
    refine e_assign rfl rfl ?_
    refine e_nil ?_
    refine ⟨_, [(0, sv l), (3, u (leN (l.drop i))), (4, .int .i64 (((i : Nat) : Int) - 1))], [], ?_, ⟨rfl, by rw [leN_drop (show i < l.length by omega)]; rfl, congrArg (fun z => some (Value.int .i64 z)) (show ((i + 1 : Nat) : Int) - 1 - 1 = ((i : Nat) : Int) - 1 by omega), trivial⟩, trivial, i, rfl, rfl, rfl, by omega⟩
    omega
  · intro hc0
    have hc0 := of_decide_eq_false hc0
    have hn0 : n = 0 := by omega
    subst hn0
    refine e_exit ?_
    refine e_seq ?_
    refine e_plain ?_
    refine e_move rfl rfl ?_
    refine e_assign rfl rfl ?_
    refine e_nil ?_
    refine e_ret ?_
    exact ⟨_, rfl, .tmp rfl⟩

end Go.Proofs.Ytmnmhmpklknleaa
