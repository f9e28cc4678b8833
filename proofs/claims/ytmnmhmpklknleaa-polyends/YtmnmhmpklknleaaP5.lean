/-
  Walks, written by a program of ours off the loaded functions.
-/
import Derived.Test.YtmnmhmpklknleaaP4
namespace Go.Proofs.Ytmnmhmpklknleaa
open Go Go.RowKit


theorem pls28 (w : World) : (((#[.mk "R" 24 0 false "" "" 0, .mk "Pad" 24 2 false "" "" 16, .mk "Acc" 25 4 false "" "" 32, .mk "Held" 26 7 false "" "" 56, .mk "N" 3 23 false "" "" 72] : Array Field).mapM fun f => do pure (f.offset, ← sizeOf f.type) : Sem (Array (Nat × Nat)))).run Try.prog w = .ok #[(0, 2), (2, 2), (4, 3), (7, 16), (23, 1)] w := places_run (l := [(0, 2), (2, 2), (4, 3), (7, 16), (23, 1)]) (by kernel_rfl) w
theorem und46 : Try.prog.underlying 46 = some (.array 32 5) := by kernel_rfl
theorem zer24 : (Try.prog.info? 24).bind (·.zero) = some (.agg (arr .u64 2 fun _ => 0)) := by kernel_rfl

variable {G : Mem}

set_option maxHeartbeats 2000000 in
theorem begun_fn (f : Nat → Nat) (hf : ∀ j, j < 32 → f j < 256) : Fn Try.prog G 11 #[.agg (arr .u8 32 f)] (PV (w8 (bL f)) (fun j => w8 (bL f) (j + 2)) (fun _ => 0) (fun _ => 0) 0) := by
  have hLl := bL_len f
  have hLb := bL_lt hf
  refine fn1 (n := 43) Try.func11 rfl rfl (by simp) (argE [.agg (arr .u8 32 f)] 0) (argE_ok _) ?_
  refine e_seq ?_
  refine e_plain ?_
  refine e_box 0 rfl rfl fun r1 => ?_
  refine e_alloc 1 zer28 rfl fun r2 => ?_
  refine e_nil ?_
  refine e_seq ?_
  refine e_seq ?_
  refine e_plain ?_
  refine e_move rfl rfl ?_
  refine e_nil ?_
  refine e_block ?_
  refine e_loop (fun kk E m => ∃ (i : Nat) (s : Nat → Nat), kk = 4 - i ∧ E = [(1, ptr r1), (2, ptr r2), (6, ii i)] ∧ m = [(0, some ⟨r1, arr .u8 32 s, 46⟩), (1, some ⟨r2, cells 24 [pI .u64 2 (fun _ => 0), pI .u64 2 (fun _ => 0), pI .u64 3 (fun _ => 0), pI .u8 16 (fun _ => 0), pV (.int .i64 0)], 28⟩)] ∧ (i ≤ 4) ∧ (∀ j, s j = mk1 f i j)) [(1, ptr r1), (2, ptr r2), (6, ii 0)] [(0, some ⟨r1, arr .u8 32 f, 46⟩), (1, some ⟨r2, cells 24 [pI .u64 2 (fun _ => 0), pI .u64 2 (fun _ => 0), pI .u64 3 (fun _ => 0), pI .u8 16 (fun _ => 0), pV (.int .i64 0)], 28⟩)] (4 - 0) ⟨rfl, rfl, rfl, trivial⟩ ⟨rfl, rfl, trivial⟩ ⟨0, f, rfl, rfl, rfl, by omega, fun j => by unfold mk1; rw [if_neg (by omega)]⟩ ?_
  rintro kk E m ⟨i, s, rfl, rfl, rfl, hf0_0, hf0_1⟩
  refine e_seq ?_
  refine e_plain ?_
  refine e_lt rfl rfl rfl ?_
  refine e_nil ?_
  refine e_seq ?_
  refine e_cond rfl ?_ ?_
  · intro hc0
    have hc0 := of_decide_eq_true hc0
    refine e_skip ?_
    refine e_seq ?_
    refine e_block ?_
    refine e_seq ?_
    refine e_plain ?_
    refine e_move rfl rfl ?_
    refine e_assign rfl rfl ?_
    refine e_nil ?_
    refine e_plain ?_
    refine e_move rfl rfl ?_
    refine e_mul_i (p := 4) rfl rfl rfl (by omega) ?_
    refine e_add_i (q := 3) rfl rfl rfl (by omega) ?_
    refine e_index0 und46 siz5 rfl rfl (by omega) rfl ?_
    refine e_load1 (i := 0) und5 rfl rfl rfl (arr_get (by omega)) rfl ⟨[], trivial⟩ ?_
    refine e_and_b (q := 15) rfl rfl rfl  ?_
    refine e_index0 und46 siz5 rfl rfl (by omega) rfl ?_
    refine e_storeN (i := 0) siz5 rfl rfl rfl (by omega) (.inl rfl) ?_
    refine e_nil ?_
    refine e_plain ?_
    refine e_add_i (q := 1) rfl rfl rfl (by omega) ?_
    refine e_move rfl rfl ?_
    refine e_nil ?_
    refine ⟨_, [(1, ptr r1), (2, ptr r2), (6, ii (i + 1))], [(0, some ⟨r1, arr .u8 32 (upd s (4 * i + 3) _), 46⟩), (1, some ⟨r2, cells 24 [pI .u64 2 (fun _ => 0), pI .u64 2 (fun _ => 0), pI .u64 3 (fun _ => 0), pI .u8 16 (fun _ => 0), pV (.int .i64 0)], 28⟩)], ?_, ⟨rfl, rfl, rfl, trivial⟩, ⟨rfl, rfl, trivial⟩, i + 1, upd s (4 * i + 3) _, rfl, rfl, rfl, by omega, mk1_next hf0_1⟩
    omega
  · intro hc0
    have hc0 := of_decide_eq_false hc0
    have hi4 : i = 4 := by omega
    subst hi4
    refine e_exit ?_
    refine e_seq ?_
    refine e_seq ?_
    refine e_plain ?_
    refine e_assign rfl rfl ?_
    refine e_nil ?_
    refine e_block ?_
    refine e_loop (fun kk E m => ∃ (e : Nat) (q : Nat → Nat), kk = 3 - e ∧ E = [(1, ptr r1), (2, ptr r2), (4, ii (4 * (e + 1)))] ∧ m = [(0, some ⟨r1, arr .u8 32 q, 46⟩), (1, some ⟨r2, cells 24 [pI .u64 2 (fun _ => 0), pI .u64 2 (fun _ => 0), pI .u64 3 (fun _ => 0), pI .u8 16 (fun _ => 0), pV (.int .i64 0)], 28⟩)] ∧ (e ≤ 3) ∧ (∀ j, q j = mk2 f e j)) [(1, ptr r1), (2, ptr r2), (4, ii (4 * (0 + 1)))] [(0, some ⟨r1, arr .u8 32 s, 46⟩), (1, some ⟨r2, cells 24 [pI .u64 2 (fun _ => 0), pI .u64 2 (fun _ => 0), pI .u64 3 (fun _ => 0), pI .u8 16 (fun _ => 0), pV (.int .i64 0)], 28⟩)] (3 - 0) ⟨rfl, rfl, rfl, trivial⟩ ⟨rfl, rfl, trivial⟩ ⟨0, s, rfl, rfl, rfl, by omega, fun j => (hf0_1 j).trans (mk1_mk2 j)⟩ ?_
    rintro kk E m ⟨e, q, rfl, rfl, rfl, hf1_0, hf1_1⟩
    refine e_seq ?_
    refine e_seq ?_
    refine e_plain ?_
    refine e_move rfl rfl ?_
    refine e_lt rfl rfl rfl ?_
    refine e_nil ?_
    refine e_cond rfl ?_ ?_
    · intro hc1
      have hc1 := of_decide_eq_true hc1
      refine e_skip ?_
      refine e_seq ?_
      refine e_block ?_
      refine e_plain ?_
      refine e_move rfl rfl ?_
      refine e_index0 und46 siz5 rfl rfl (by omega) rfl ?_
      refine e_load1 (i := 0) und5 rfl rfl rfl (arr_get (by omega)) rfl ⟨[], trivial⟩ ?_
      refine e_and_b (q := 252) rfl rfl rfl  ?_
      refine e_index0 und46 siz5 rfl rfl (by omega) rfl ?_
      refine e_storeN (i := 0) siz5 rfl rfl rfl (by omega) (.inl rfl) ?_
      refine e_nil ?_
      refine e_plain ?_
      refine e_move rfl rfl ?_
      refine e_add_i (q := 4) rfl rfl rfl (by omega) ?_
      refine e_assign rfl rfl ?_
      refine e_nil ?_
      refine ⟨_, [(1, ptr r1), (2, ptr r2), (4, ii (4 * ((e + 1) + 1)))], [(0, some ⟨r1, arr .u8 32 (upd q (4 * (e + 1)) _), 46⟩), (1, some ⟨r2, cells 24 [pI .u64 2 (fun _ => 0), pI .u64 2 (fun _ => 0), pI .u64 3 (fun _ => 0), pI .u8 16 (fun _ => 0), pV (.int .i64 0)], 28⟩)], ?_, ⟨rfl, rfl, rfl, trivial⟩, ⟨rfl, rfl, trivial⟩, e + 1, upd q (4 * (e + 1)) _, rfl, rfl, rfl, by omega, mk2_next (by omega) hf1_1⟩
      omega
    · intro hc1
      have hc1 := of_decide_eq_false hc1
      have he3 : e = 3 := by omega
      subst he3
      refine e_exit ?_
      refine e_seq ?_
      refine e_plain ?_
      refine e_sliceA 0 32 und46 siz5 rfl rfl rfl rfl rfl (by omega) (by omega) (by omega) rfl ?_
      refine e_conv_str (i := 0) und33 und5 und9 rfl rfl (by omega) rfl rfl ⟨[], trivial⟩ ?_
      refine e_as ((conv_all q 32).trans (congrArg sv (bL_of hf1_1))) ?_
      refine e_assign rfl rfl ?_
      refine e_nil ?_
      refine e_seq ?_
      refine e_draw mixed (by kernel_rfl) ?_
      refine e_move rfl rfl ?_
      refine e_sliceStr 0 8 und9 rfl rfl rfl rfl ⟨_, rfl⟩ (by omega) (by omega) rfl ?_
      refine e_call rfl ent23 (number_fn _ (by rw [List.length_take]; omega) (take_lt hLb _ _)) rfl rfl ?_
      refine e_as (show _ = u (w8 (bL f) 0) from rfl) ?_
      refine e_move rfl rfl ?_
      refine e_sliceStr 8 16 und9 rfl rfl rfl ⟨_, rfl⟩ ⟨_, rfl⟩ (by omega) (by omega) rfl ?_
      refine e_call rfl ent23 (number_fn _ (by rw [List.length_take]; omega) (take_lt hLb _ _)) rfl rfl ?_
      refine e_as (show _ = u (w8 (bL f) 1) from rfl) ?_
      refine e_build (arr .u64 2 (w8 (bL f))) zer24 und24 siz23 rfl rfl rfl ?_
      refine e_move rfl rfl ?_
      refine e_sliceStr 16 24 und9 rfl rfl rfl ⟨_, rfl⟩ ⟨_, rfl⟩ (by omega) (by omega) rfl ?_
      refine e_call rfl ent23 (number_fn _ (by rw [List.length_take]; omega) (take_lt hLb _ _)) rfl rfl ?_
      refine e_as (show _ = u (w8 (bL f) (0 + 2)) from rfl) ?_
      refine e_move rfl rfl ?_
      refine e_sliceStr 24 32 und9 rfl rfl rfl ⟨_, rfl⟩ hLl.symm (by omega) (by omega) rfl ?_
      refine e_call rfl ent23 (number_fn _ (by rw [List.length_take]; omega) (take_lt hLb _ _)) rfl rfl ?_
      refine e_as (show _ = u (w8 (bL f) (1 + 2)) from rfl) ?_
      refine e_build (arr .u64 2 (fun j => w8 (bL f) (j + 2))) zer24 und24 siz23 rfl rfl rfl ?_
      refine e_buildS (cells 24 [pI .u64 2 (w8 (bL f)), pI .u64 2 (fun j => w8 (bL f) (j + 2)), pI .u64 3 (fun _ => 0), pI .u8 16 (fun _ => 0), pV (.int .i64 0)]) zer28 und28 pls28 rfl rfl rfl ?_
      refine e_storeA (i := 1) siz28 rfl rfl (arrv_size _ _) (cells_one ⟨fun _ => rfl, fun _ => rfl, fun _ => rfl, fun _ => rfl, fun _ => rfl, trivial⟩) rfl cells_sz (.inl rfl) ?_
      refine e_nil ?_
      refine e_ret ?_
      exact ⟨_, rfl, .cell (i := 1) rfl rfl und28 rfl siz28 (arrv_size _ _)⟩

end Go.Proofs.Ytmnmhmpklknleaa
