/-
  Walks, written by a program of ours off the loaded functions.
-/
import Derived.Test.YthhcgeoldjmpaaaV1
namespace Go.Proofs.Ythhcgeoldjmpaaa
open Go Go.RowKit


theorem ent7 : enters Try.prog 7 = true := by kernel_rfl
theorem ent9 : enters Try.prog 9 = true := by kernel_rfl
theorem ent11 : enters Try.prog 11 = true := by kernel_rfl
theorem ent12 : enters Try.prog 12 = true := by kernel_rfl
theorem ent13 : enters Try.prog 13 = true := by kernel_rfl
theorem ent14 : enters Try.prog 14 = true := by kernel_rfl
theorem ent16 : enters Try.prog 16 = true := by kernel_rfl
theorem ent17 : enters Try.prog 17 = true := by kernel_rfl
theorem ent18 : enters Try.prog 18 = true := by kernel_rfl
theorem sis34 : ((Try.prog.info? 34).map (·.size)).isSome = true := by kernel_rfl

variable {G : Mem}

set_option maxHeartbeats 1000000 in
theorem lclimb_fn (f : Nat → Nat) (U : Nat) (hf : ∀ j, j < 32 → f j < 256) (hU : U < PP) : Fn Try.prog G 12 #[.agg (arr .u8 32 f), fe U] (rgv (nLad U (vb f 32) 255)) := by
  refine fn1 (n := 42) Try.func12 rfl rfl (by simp) (argE [.agg (arr .u8 32 f), fe U] 0) (argE_ok _) ?_
  refine e_seq ?_
  refine e_plain ?_
  refine e_box 0 rfl rfl fun r1 => ?_
  refine e_box 1 rfl rfl fun r2 => ?_
  refine e_alloc 2 zer41 rfl fun r3 => ?_
  refine e_nil ?_
  refine e_seq ?_
  refine e_plain ?_
  refine e_build (arr .u64 4 (upd (fun _ => 0) 0 1)) zer36 und36 siz34 rfl rfl rfl ?_
  refine e_as (fe_one 1 (by decide)) ?_
  refine e_build0 zer36 und36 sis34 rfl ?_
  refine e_as (fe_none) ?_
  refine e_buildZ _ zer39 und39 siz36 rfl (fill_pt _ _) rfl ?_
  refine e_loadA (i := 1) und36 rfl siz36 rfl rfl (arr_size _ _ _) rfl ⟨[], trivial⟩ ?_
  refine e_build (arr .u64 4 (upd (fun _ => 0) 0 1)) zer36 und36 siz34 rfl rfl rfl ?_
  refine e_as (fe_one 1 (by decide)) ?_
  refine e_buildZ _ zer39 und39 siz36 rfl (fill_pt _ _) rfl ?_
  refine e_buildZ _ zer41 und41 siz39 rfl (fill_rg _ _) rfl ?_
  refine e_alloc 3 zer41 rfl fun r4 => ?_
  refine e_storeA (i := 3) siz41 rfl rfl (arr_size _ _ _) arr_one rfl (arr_sz _ _ _ _ _) (.inl rfl) ?_
  refine e_nil ?_
  refine e_seq ?_
  refine e_seq ?_
  refine e_plain ?_
  refine e_assign rfl rfl ?_
  refine e_nil ?_
  refine e_block ?_
  refine e_loop (fun kk E m => ∃ (n : Nat), kk = 2 * n ∧ E = [(2, ptr r1), (3, ptr r2), (4, ptr r3), (5, ptr r4), (6, .int .i64 (((n : Nat) : Int) - 1))] ∧ m = [(0, ⟨r1, arr .u8 32 f, 23⟩), (1, ⟨r2, arr .u64 4 (wd U), 36⟩), (2, ⟨r3, arr .u64 16 (fun _ => 0), 41⟩), (3, ⟨r4, arr .u64 16 (rgf (nLad U (vb f 32) (255 - n))), 41⟩)] ∧ (n ≤ 255)) [(2, ptr r1), (3, ptr r2), (4, ptr r3), (5, ptr r4), (6, .int .i64 (((255 : Nat) : Int) - 1))] [(0, ⟨r1, arr .u8 32 f, 23⟩), (1, ⟨r2, arr .u64 4 (wd U), 36⟩), (2, ⟨r3, arr .u64 16 (fun _ => 0), 41⟩), (3, ⟨r4, arr .u64 16 (rgf (nLad U (vb f 32) (255 - 255))), 41⟩)] (2 * 255) ⟨rfl, rfl, rfl, rfl, rfl, trivial⟩ ⟨rfl, rfl, rfl, rfl, trivial⟩ ⟨255, rfl, rfl, rfl, by omega⟩ ?_
  rintro kk E m ⟨n, rfl, rfl, rfl, hf0_0⟩
  refine e_seq ?_
  refine e_seq ?_
  refine e_plain ?_
  refine e_move rfl rfl ?_
  refine e_ge rfl rfl rfl ?_
  refine e_nil ?_
  refine e_cond rfl ?_ ?_
  · intro hc0
    have hc0 := of_decide_eq_true hc0
    obtain ⟨i, rfl⟩ : ∃ i, n = i + 1 := ⟨n - 1, by omega⟩
    have hfi := hf (i / 8) (by omega)
    obtain ⟨b, hb⟩ : ∃ b, b = vb f 32 / 2 ^ i % 2 := ⟨_, rfl⟩
    have hb1 : b ≤ 1 := by omega
    obtain ⟨L, hL⟩ : ∃ L, L = swp b (nLad U (vb f 32) (255 - (i + 1))) := ⟨_, rfl⟩
    have hLL : Lt2 L.1 ∧ Lt2 L.2 := by rw [hL]; exact swp_lt (nLad_lt hU _ _)
    refine e_skip ?_
    refine e_seq ?_
    refine e_block ?_
    refine e_seq ?_
    refine e_plain ?_
    refine e_move rfl rfl ?_
    refine e_as (congrArg (Value.int .i64) (show ((i + 1 : Nat) : Int) - 1 = ((i : Nat) : Int) by omega)) ?_
    refine e_quo_i (q := 8) rfl rfl rfl (by omega) (by omega) ?_
    refine e_index0 und23 siz5 rfl rfl (by omega) rfl ?_
    refine e_load1 (i := 0) und5 rfl rfl rfl (arr_get (by omega)) rfl ⟨[], trivial⟩ ?_
    refine e_move rfl rfl ?_
    refine e_as (congrArg (Value.int .i64) (show ((i + 1 : Nat) : Int) - 1 = ((i : Nat) : Int) by omega)) ?_
    refine e_rem_i (q := 8) rfl rfl rfl (by omega) ?_
    refine e_shr_b rfl rfl rfl (by omega) ?_
    refine e_conv_u und5 und34 rfl rfl ?_
    refine e_and_u (q := 1) rfl rfl rfl  ?_
    refine e_as (congrArg u ((bit_word hf i (by omega)).trans hb.symm)) ?_
    refine e_assign rfl rfl ?_
    refine e_nil ?_
    refine e_seq ?_
    refine e_plain ?_
    refine e_loadA (i := 3) und41 rfl siz41 rfl rfl (arr_size _ _ _) rfl ⟨[], trivial⟩ ?_
    refine e_move rfl rfl ?_
    refine e_call rfl ent16 (lswap_fn (nLad U (vb f 32) (255 - (i + 1))) b hb1) rfl rfl ?_
    refine e_as (congrArg rgv hL.symm) ?_
    refine e_storeA (i := 3) siz41 rfl rfl (arr_size _ _ _) arr_one rfl (arr_sz _ _ _ _ _) (.inl rfl) ?_
    refine e_nil ?_
    refine e_seq ?_
    refine e_draw mixed (by kernel_rfl) ?_
    refine e_at (0) (j := 0) und41 siz39 rfl rfl (by omega) (by omega) rfl ?_
    refine e_loadS (i := 3) und39 rfl siz39 rfl rfl (by omega) rfl ⟨[], trivial⟩ ?_
    refine e_as (rg_pt0 _) ?_
    refine e_call rfl ent17 (twice_fn L.1 hLL.1) rfl rfl ?_
    refine e_loadA (i := 3) und41 rfl siz41 rfl rfl (arr_size _ _ _) rfl ⟨[], trivial⟩ ?_
    refine e_loadA (i := 1) und36 rfl siz36 rfl rfl (arr_size _ _ _) rfl ⟨[], trivial⟩ ?_
    refine e_call rfl ent18 (lsum_fn L U hLL hU) rfl rfl ?_
    refine e_buildZ _ zer41 und41 siz39 rfl (fill_rg _ _) rfl ?_
    refine e_storeA (i := 3) siz41 rfl rfl (arr_size _ _ _) arr_one rfl (arr_sz _ _ _ _ _) (.inl rfl) ?_
    refine e_nil ?_
    refine e_plain ?_
    refine e_loadA (i := 3) und41 rfl siz41 rfl rfl (arr_size _ _ _) rfl ⟨[], trivial⟩ ?_
    refine e_move rfl rfl ?_
    refine e_call rfl ent16 (lswap_fn _ b hb1) rfl rfl ?_
    refine e_as (congrArg rgv (lad_step hU (by omega) hb hL)) ?_
    refine e_storeA (i := 3) siz41 rfl rfl (arr_size _ _ _) arr_one rfl (arr_sz _ _ _ _ _) (.inl rfl) ?_
    refine e_nil ?_
    refine e_plain ?_
    refine e_move rfl rfl ?_
    refine e_sub_z (q := 1) rfl rfl rfl (by omega) (by omega) ?_
    refine e_assign rfl rfl ?_
    refine e_nil ?_
    refine ⟨_, [(2, ptr r1), (3, ptr r2), (4, ptr r3), (5, ptr r4), (6, .int .i64 (((i : Nat) : Int) - 1))], [(0, ⟨r1, arr .u8 32 f, 23⟩), (1, ⟨r2, arr .u64 4 (wd U), 36⟩), (2, ⟨r3, arr .u64 16 (fun _ => 0), 41⟩), (3, ⟨r4, arr .u64 16 (rgf (nLad U (vb f 32) (255 - i))), 41⟩)], ?_, ⟨rfl, rfl, rfl, rfl, congrArg (fun z => some (Value.int .i64 z)) (show ((i + 1 : Nat) : Int) - 1 - 1 = ((i : Nat) : Int) - 1 by omega), trivial⟩, ⟨rfl, rfl, rfl, rfl, trivial⟩, i, rfl, rfl, rfl, by omega⟩
    omega
  · intro hc0
    have hc0 := of_decide_eq_false hc0
    have hn0 : n = 0 := by omega
    subst hn0
    refine e_exit ?_
    refine e_seq ?_
    refine e_plain ?_
    refine e_loadA (i := 3) und41 rfl siz41 rfl rfl (arr_size _ _ _) rfl ⟨[], trivial⟩ ?_
    refine e_storeA (i := 2) siz41 rfl rfl (arr_size _ _ _) arr_one rfl (arr_sz _ _ _ _ _) (.inl rfl) ?_
    refine e_nil ?_
    refine e_ret ?_
    exact ⟨_, rfl, .cell (i := 2) rfl rfl und41 rfl siz41 (arr_size _ _ _)⟩

set_option maxHeartbeats 400000 in
theorem lmult_fn (f g : Nat → Nat) (hf : ∀ j, j < 32 → f j < 256) (hg : ∀ j, j < 32 → g j < 256) : Fn Try.prog G 7 #[.agg (arr .u8 32 f), .agg (arr .u8 32 g)] (.tuple #[by32 (nOut (pnt g) (sec f)), .bool (!decide (nOut (pnt g) (sec f) = 0))]) := by
  refine fn2 (n := 21) Try.func7 rfl rfl (by simp) (argE [.agg (arr .u8 32 f), .agg (arr .u8 32 g)] 0) (argE_ok _) ?_
  refine e_seq ?_
  refine e_plain ?_
  refine e_box 0 rfl rfl fun r1 => ?_
  refine e_box 1 rfl rfl fun r2 => ?_
  refine e_alloc 2 zer23 rfl fun r3 => ?_
  refine e_assign rfl rfl ?_
  refine e_nil ?_
  refine e_seq ?_
  refine e_plain ?_
  refine e_loadA (i := 1) und23 rfl siz23 rfl rfl (arr_size _ _ _) rfl ⟨[], trivial⟩ ?_
  refine e_call rfl ent11 (from_fn g hg) rfl rfl ?_
  refine e_alloc 3 zer36 rfl fun r4 => ?_
  refine e_storeA (i := 3) siz36 rfl rfl (arr_size _ _ _) arr_one rfl (arr_sz _ _ _ _ _) (.inl rfl) ?_
  refine e_nil ?_
  refine e_seq ?_
  refine e_draw mixed (by kernel_rfl) ?_
  refine e_loadA (i := 0) und23 rfl siz23 rfl rfl (arr_size _ _ _) rfl ⟨[], trivial⟩ ?_
  refine e_call rfl ent9 (lclamp_fn f hf) rfl rfl ?_
  refine e_loadA (i := 3) und36 rfl siz36 rfl rfl (arr_size _ _ _) rfl ⟨[], trivial⟩ ?_
  refine e_call rfl ent12 (lclimb_fn (clam f) (pnt g) (clam_lt hf) (pnt_lt g)) rfl rfl ?_
  refine e_alloc 4 zer41 rfl fun r5 => ?_
  refine e_storeA (i := 4) siz41 rfl rfl (arr_size _ _ _) arr_one rfl (arr_sz _ _ _ _ _) (.inl rfl) ?_
  refine e_nil ?_
  refine e_seq ?_
  refine e_plain ?_
  refine e_at (0) (j := 0) und41 siz39 rfl rfl (by omega) (by omega) rfl ?_
  refine e_loadS (i := 4) und39 rfl siz39 rfl rfl (by omega) rfl ⟨[], trivial⟩ ?_
  refine e_as (rg_pt0 _) ?_
  refine e_call rfl ent13 (lvalue_fn (nLad (pnt g) (sec f) 255).1 (nLad_lt (pnt_lt g) _ _).1) rfl rfl ?_
  refine e_alloc 5 zer23 rfl fun r6 => ?_
  refine e_storeA (i := 5) siz23 rfl rfl (arr_size _ _ _) arr_one rfl (arr_sz _ _ _ _ _) (.inl rfl) ?_
  refine e_nil ?_
  refine e_seq ?_
  refine e_drawR ⟨[r3], 1⟩ mixed (by kernel_rfl) ?_
  refine e_loadA (i := 5) und23 rfl siz23 rfl rfl (arr_size _ _ _) rfl ⟨[2], rfl, rfl, trivial⟩ ?_
  refine e_loadA (i := 5) und23 rfl siz23 rfl rfl (arr_size _ _ _) rfl ⟨[2], rfl, rfl, trivial⟩ ?_
  refine e_call rfl ent14 (ltells_fn (bt (nOut (pnt g) (sec f))) (fun j _ => bt_lt _ j)) rfl rfl ?_
  refine e_as (congrArg (fun z => Value.bool (!z)) (bt_none (nOut_lt _ _))) ?_
  refine e_storeA (i := 2) siz23 rfl rfl (arr_size _ _ _) arr_one rfl (arr_sz _ _ _ _ _) (.inr (by simp)) ?_
  refine e_assign rfl rfl ?_
  refine e_nil ?_
  refine e_ret ?_
  exact ⟨_, _, rfl, .cell (i := 2) rfl rfl und23 rfl siz23 (arr_size _ _ _), .tmp rfl⟩

set_option maxHeartbeats 400000 in
theorem lbase_fn (f : Nat → Nat) (hf : ∀ j, j < 32 → f j < 256) : Fn Try.prog G 8 #[.agg (arr .u8 32 f)] (by32 (nOut 9 (sec f))) := by
  refine fn1 (n := 12) Try.func8 rfl rfl (by simp) (argE [.agg (arr .u8 32 f)] 0) (argE_ok _) ?_
  refine e_seq ?_
  refine e_plain ?_
  refine e_box 0 rfl rfl fun r1 => ?_
  refine e_alloc 1 zer23 rfl fun r2 => ?_
  refine e_nil ?_
  refine e_seq ?_
  refine e_plain ?_
  refine e_loadA (i := 0) und23 rfl siz23 rfl rfl (arr_size _ _ _) rfl ⟨[], trivial⟩ ?_
  refine e_build (arr .u8 32 (upd (fun _ => 0) 0 9)) zer23 und23 siz5 rfl (by kernel_rfl) rfl ?_
  refine e_call rfl ent7 (lmult_fn f (upd (fun _ => 0) 0 9) hf nine_lt) rfl rfl ?_
  refine e_as (congrArg (fun z => Value.tuple #[by32 (nOut z (sec f)), .bool (!decide (nOut z (sec f) = 0))]) pnt_nine) ?_
  refine e_move rfl rfl ?_
  refine e_extract rfl rfl rfl ?_
  refine e_extract rfl rfl rfl ?_
  refine e_alloc 2 zer23 rfl fun r3 => ?_
  refine e_storeA (i := 2) siz23 rfl rfl (arr_size _ _ _) arr_one rfl (arr_sz _ _ _ _ _) (.inl rfl) ?_
  refine e_assign rfl rfl ?_
  refine e_nil ?_
  refine e_seq ?_
  refine e_plain ?_
  refine e_loadA (i := 2) und23 rfl siz23 rfl rfl (arr_size _ _ _) rfl ⟨[], trivial⟩ ?_
  refine e_storeA (i := 1) siz23 rfl rfl (arr_size _ _ _) arr_one rfl (arr_sz _ _ _ _ _) (.inl rfl) ?_
  refine e_nil ?_
  refine e_ret ?_
  exact ⟨_, rfl, .cell (i := 1) rfl rfl und23 rfl siz23 (arr_size _ _ _)⟩

end Go.Proofs.Ythhcgeoldjmpaaa
