/-
  Walks, written by a program of ours off the loaded functions.
-/
import Derived.Test.YtmnmhmpklknleaaP3
namespace Go.Proofs.Ytmnmhmpklknleaa
open Go Go.RowKit


theorem ent23 : enters Try.prog 23 = true := by kernel_rfl
theorem ent25 : enters Try.prog 25 = true := by kernel_rfl
theorem ent27 : enters Try.prog 27 = true := by kernel_rfl
theorem ent35 : enters Try.prog 35 = true := by kernel_rfl
theorem sis5 : ((Try.prog.info? 5).map (·.size)).isSome = true := by kernel_rfl
theorem siz3 : (Try.prog.info? 3).map (·.size) = some 1 := by kernel_rfl
theorem siz24 : (Try.prog.info? 24).map (·.size) = some 2 := by kernel_rfl
theorem siz26 : (Try.prog.info? 26).map (·.size) = some 16 := by kernel_rfl
theorem siz28 : (Try.prog.info? 28).map (·.size) = some 24 := by kernel_rfl
theorem und24 : Try.prog.underlying 24 = some (.array 2 23) := by kernel_rfl
theorem und26 : Try.prog.underlying 26 = some (.array 16 5) := by kernel_rfl
theorem und28 : Try.prog.underlying 28 = some (.struct #[.mk "R" 24 0 false "" "" 0, .mk "Pad" 24 2 false "" "" 16, .mk "Acc" 25 4 false "" "" 32, .mk "Held" 26 7 false "" "" 56, .mk "N" 3 23 false "" "" 72]) := by kernel_rfl
theorem zer26 : (Try.prog.info? 26).bind (·.zero) = some (.agg (arr .u8 16 fun _ => 0)) := by kernel_rfl
theorem zer28 : (Try.prog.info? 28).bind (·.zero) = some (.agg (cells 24 [pI .u64 2 fun _ => 0, pI .u64 2 fun _ => 0, pI .u64 3 fun _ => 0, pI .u8 16 fun _ => 0, pV (.int .i64 0)])) := by kernel_rfl

variable {G : Mem}

set_option maxHeartbeats 2000000 in
theorem soaked_fn (r p a h : Nat → Nat) (n : Int) (l : List Nat) (hl : l.length ≤ 16) (hb : ∀ b ∈ l, b < 256) (ha0 : a 0 < 18446744073709551616) (ha1 : a 1 < 18446744073709551616) (ha2 : a 2 < 4) (hr0 : r 0 < 18446744073709551616) (hr1 : r 1 < 18446744073709551616) : Fn Try.prog G 29 #[PV r p a h n, sv l] (PV r p (wd (pst (k3 r) (w3 a) l)) (fun _ => 0) 0) := by
  have hB : leN (l ++ [1]) < 2 ^ 130 := Nat.lt_trans (bl_small hb hl) (by decide)
  have hA := w3_lt ha0 ha1 ha2
  obtain ⟨B, hBe⟩ : ∃ B, B = leN (l ++ [1]) := ⟨_, rfl⟩
  rw [← hBe] at hB
  have hps : pst (k3 r) (w3 a) l = (w3 a + B) % QQ * k3 r % QQ := by rw [hBe]; rfl
  refine fn1 (n := 59) Try.func29 rfl rfl (by simp) (argE [PV r p a h n, sv l] 0) (argE_ok _) ?_
  refine e_seq ?_
  refine e_plain ?_
  refine e_box 0 rfl rfl fun r1 => ?_
  refine e_alloc 1 zer28 rfl fun r2 => ?_
  refine e_nil ?_
  refine e_seq ?_
  refine e_plain ?_
  refine e_move rfl rfl ?_
  refine e_catS (k := [1]) rfl rfl rfl (by simp; omega) ?_
  refine e_assign rfl rfl ?_
  refine e_nil ?_
  refine e_seq ?_
  refine e_block ?_
  refine e_loop (fun kk E m => ∃ (z : Nat), kk = 24 - z ∧ E = [(1, sv l), (2, ptr r1), (4, ptr r2), (5, sv (bl l z))] ∧ m = [(0, some ⟨r1, cells 24 [pI .u64 2 r, pI .u64 2 p, pI .u64 3 a, pI .u8 16 h, pV (.int .i64 n)], 28⟩), (1, some ⟨r2, cells 24 [pI .u64 2 (fun _ => 0), pI .u64 2 (fun _ => 0), pI .u64 3 (fun _ => 0), pI .u8 16 (fun _ => 0), pV (.int .i64 0)], 28⟩)] ∧ (l.length + 1 + z ≤ 24)) [(1, sv l), (2, ptr r1), (4, ptr r2), (5, sv (bl l 0))] [(0, some ⟨r1, cells 24 [pI .u64 2 r, pI .u64 2 p, pI .u64 3 a, pI .u8 16 h, pV (.int .i64 n)], 28⟩), (1, some ⟨r2, cells 24 [pI .u64 2 (fun _ => 0), pI .u64 2 (fun _ => 0), pI .u64 3 (fun _ => 0), pI .u8 16 (fun _ => 0), pV (.int .i64 0)], 28⟩)] (24 - 0) ⟨rfl, rfl, rfl, by rw [← List.append_nil (l ++ [1])]; rfl, trivial⟩ ⟨rfl, rfl, trivial⟩ ⟨0, rfl, rfl, rfl, by omega⟩ ?_
  rintro kk E m ⟨z, rfl, rfl, rfl, hf0_0⟩
  have hbm := bl_len l z
  refine e_seq ?_
  refine e_seq ?_
  refine e_plain ?_
  refine e_move rfl rfl ?_
  refine e_lenStr und9 rfl rfl rfl ?_
  refine e_lt rfl rfl rfl ?_
  refine e_nil ?_
  refine e_cond rfl ?_ ?_
  · intro hc0
    have hc0 := of_decide_eq_true hc0
    refine e_skip ?_
    refine e_block ?_
    refine e_plain ?_
    refine e_move rfl rfl ?_
    refine e_catS (k := [0]) rfl rfl rfl (by rw [bl_len]; simp; omega) ?_
    refine e_assign rfl rfl ?_
    refine e_nil ?_
    refine ⟨_, [(1, sv l), (2, ptr r1), (4, ptr r2), (5, sv (bl l (z + 1)))], [(0, some ⟨r1, cells 24 [pI .u64 2 r, pI .u64 2 p, pI .u64 3 a, pI .u8 16 h, pV (.int .i64 n)], 28⟩), (1, some ⟨r2, cells 24 [pI .u64 2 (fun _ => 0), pI .u64 2 (fun _ => 0), pI .u64 3 (fun _ => 0), pI .u8 16 (fun _ => 0), pV (.int .i64 0)], 28⟩)], ?_, ⟨rfl, rfl, rfl, by rw [← bl_succ]; rfl, trivial⟩, ⟨rfl, rfl, trivial⟩, z + 1, rfl, rfl, rfl, by omega⟩
    omega
  · intro hc0
    have hc0 := of_decide_eq_false hc0
    have hbm : (bl l z).length = 24 := by omega
    have hbb := bl_lt hb z
    refine e_exit ?_
    refine e_seq ?_
    refine e_draw mixed (by kernel_rfl) ?_
    refine e_move rfl rfl ?_
    refine e_sliceStr 0 8 und9 rfl rfl rfl rfl ⟨_, rfl⟩ (by omega) (by omega) rfl ?_
    refine e_call rfl ent23 (number_fn _ (by rw [List.length_take]; omega) (take_lt hbb _ _)) rfl rfl ?_
    refine e_as (show _ = u (w8 (bl l z) 0) from rfl) ?_
    refine e_move rfl rfl ?_
    refine e_sliceStr 8 16 und9 rfl rfl rfl ⟨_, rfl⟩ ⟨_, rfl⟩ (by omega) (by omega) rfl ?_
    refine e_call rfl ent23 (number_fn _ (by rw [List.length_take]; omega) (take_lt hbb _ _)) rfl rfl ?_
    refine e_as (show _ = u (w8 (bl l z) 1) from rfl) ?_
    refine e_move rfl rfl ?_
    refine e_sliceStr 16 24 und9 rfl rfl rfl ⟨_, rfl⟩ ⟨_, rfl⟩ (by omega) (by omega) rfl ?_
    refine e_call rfl ent23 (number_fn _ (by rw [List.length_take]; omega) (take_lt hbb _ _)) rfl rfl ?_
    refine e_as (show _ = u (w8 (bl l z) 2) from rfl) ?_
    refine e_build (arr .u64 3 (w8 (bl l z))) zer25 und25 siz23 rfl rfl rfl ?_
    refine e_call rfl ent25 (partsOf_fn _ (w8_lt hbb 0) (w8_lt hbb 1) (w8_top hb hl hbm)) rfl rfl ?_
    refine e_as (congrArg p5 (((w8_all hbm).trans (bl_leN l z)).trans hBe.symm)) ?_
    refine e_alloc 2 zer54 rfl fun r3 => ?_
    refine e_storeA (i := 2) siz54 rfl rfl (arr_size _ _ _) arr_one rfl (arr_sz _ _ _ _ _) (.inl rfl) ?_
    refine e_nil ?_
    refine e_seq ?_
    refine e_plain ?_
    refine e_fld (4) und28 rfl siz25 rfl rfl rfl ?_
    refine e_ldC (i := 0) 2 und25 rfl siz25 rfl rfl rfl (by decide) rfl ⟨[], trivial⟩ ?_
    refine e_call rfl ent25 (partsOf_fn a ha0 ha1 ha2) rfl rfl ?_
    refine e_alloc 3 zer54 rfl fun r4 => ?_
    refine e_storeA (i := 3) siz54 rfl rfl (arr_size _ _ _) arr_one rfl (arr_sz _ _ _ _ _) (.inl rfl) ?_
    refine e_nil ?_
    refine e_seq ?_
    refine e_seq ?_
    refine e_plain ?_
    refine e_move rfl rfl ?_
    refine e_nil ?_
    refine e_block ?_
    refine e_loop (fun kk E m => ∃ (i : Nat) (s : Nat → Nat), kk = 5 - i ∧ E = [(2, ptr r1), (4, ptr r2), (6, ptr r3), (7, ptr r4), (30, ii i)] ∧ m = [(0, some ⟨r1, cells 24 [pI .u64 2 r, pI .u64 2 p, pI .u64 3 a, pI .u8 16 h, pV (.int .i64 n)], 28⟩), (1, some ⟨r2, cells 24 [pI .u64 2 (fun _ => 0), pI .u64 2 (fun _ => 0), pI .u64 3 (fun _ => 0), pI .u8 16 (fun _ => 0), pV (.int .i64 0)], 28⟩), (2, some ⟨r3, arr .u64 5 (d26 B), 54⟩), (3, some ⟨r4, arr .u64 5 s, 54⟩)] ∧ (i ≤ 5) ∧ (∀ j, j < i → s j = d26 (w3 a) j + d26 B j) ∧ (∀ j, i ≤ j → s j = d26 (w3 a) j)) [(2, ptr r1), (4, ptr r2), (6, ptr r3), (7, ptr r4), (30, ii 0)] [(0, some ⟨r1, cells 24 [pI .u64 2 r, pI .u64 2 p, pI .u64 3 a, pI .u8 16 h, pV (.int .i64 n)], 28⟩), (1, some ⟨r2, cells 24 [pI .u64 2 (fun _ => 0), pI .u64 2 (fun _ => 0), pI .u64 3 (fun _ => 0), pI .u8 16 (fun _ => 0), pV (.int .i64 0)], 28⟩), (2, some ⟨r3, arr .u64 5 (d26 B), 54⟩), (3, some ⟨r4, arr .u64 5 (d26 (w3 a)), 54⟩)] (5 - 0) ⟨rfl, rfl, rfl, rfl, rfl, trivial⟩ ⟨rfl, rfl, rfl, rfl, trivial⟩ ⟨0, d26 (w3 a), rfl, rfl, rfl, by omega, fun j hj => absurd hj (Nat.not_lt_zero j), fun j _ => rfl⟩ ?_
    rintro kk E m ⟨i, s, rfl, rfl, rfl, hf1_0, hf1_1, hf1_2⟩
    have hd1 := d26_lt (w3 a) i
    have hd2 := d26_lt B i
    have hsi := hf1_2 i (Nat.le_refl i)
    refine e_seq ?_
    refine e_plain ?_
    refine e_lt rfl rfl rfl ?_
    refine e_nil ?_
    refine e_seq ?_
    refine e_cond rfl ?_ ?_
    · intro hc1
      have hc1 := of_decide_eq_true hc1
      refine e_skip ?_
      refine e_seq ?_
      refine e_block ?_
      refine e_seq ?_
      refine e_plain ?_
      refine e_move rfl rfl ?_
      refine e_assign rfl rfl ?_
      refine e_nil ?_
      refine e_draw mixed (by kernel_rfl) ?_
      refine e_move rfl rfl ?_
      refine e_index0 und54 siz23 rfl rfl (by omega) rfl ?_
      refine e_load1 (i := 3) und23 rfl rfl rfl (arr_get (by omega)) rfl ⟨[], trivial⟩ ?_
      refine e_move rfl rfl ?_
      refine e_index0 und54 siz23 rfl rfl (by omega) rfl ?_
      refine e_load1 (i := 2) und23 rfl rfl rfl (arr_get (by omega)) rfl ⟨[], trivial⟩ ?_
      refine e_add_u rfl rfl rfl  ?_
      refine e_as (congrArg u (Nat.mod_eq_of_lt (show s i + d26 B i < 18446744073709551616 by omega))) ?_
      refine e_index0 und54 siz23 rfl rfl (by omega) rfl ?_
      refine e_storeN (i := 3) siz23 rfl rfl rfl (by omega) (.inl rfl) ?_
      refine e_nil ?_
      refine e_plain ?_
      refine e_add_i (q := 1) rfl rfl rfl (by omega) ?_
      refine e_move rfl rfl ?_
      refine e_nil ?_
      refine ⟨_, [(2, ptr r1), (4, ptr r2), (6, ptr r3), (7, ptr r4), (30, ii (i + 1))], [(0, some ⟨r1, cells 24 [pI .u64 2 r, pI .u64 2 p, pI .u64 3 a, pI .u8 16 h, pV (.int .i64 n)], 28⟩), (1, some ⟨r2, cells 24 [pI .u64 2 (fun _ => 0), pI .u64 2 (fun _ => 0), pI .u64 3 (fun _ => 0), pI .u8 16 (fun _ => 0), pV (.int .i64 0)], 28⟩), (2, some ⟨r3, arr .u64 5 (d26 B), 54⟩), (3, some ⟨r4, arr .u64 5 (upd s i _), 54⟩)], ?_, ⟨rfl, rfl, rfl, rfl, rfl, trivial⟩, ⟨rfl, rfl, rfl, rfl, trivial⟩, i + 1, upd s i _, rfl, rfl, rfl, by omega, upd_lt hf1_1 (by rw [hf1_2 i (Nat.le_refl i)]), upd_ge hf1_2⟩
      omega
    · intro hc1
      have hc1 := of_decide_eq_false hc1
      have hi5 : i = 5 := by omega
      subst hi5
      refine e_exit ?_
      refine e_seq ?_
      refine e_draw mixed (by kernel_rfl) ?_
      refine e_loadA (i := 3) und54 rfl siz54 rfl rfl (arr_size _ _ _) rfl ⟨[], trivial⟩ ?_
      refine e_as (congrArg Value.agg (arr_congr hf1_1)) ?_
      refine e_call rfl ent26 (carried_fn _ (fun j _ => by have := d26_lt (w3 a) j; have := d26_lt B j; omega)) rfl rfl ?_
      refine e_as (congrArg (fun z => p5 (z % QQ)) (add_five _ _ hA hB)) ?_
      refine e_fld (0) und28 rfl siz24 rfl rfl rfl ?_
      refine e_index0 (j := 0) und24 siz23 rfl rfl (by omega) rfl ?_
      refine e_ldI (i := 0) 0 (0) und23 rfl rfl rfl rfl rfl (by decide) (by decide) rfl ⟨[], trivial⟩ ?_
      refine e_fld (0) und28 rfl siz24 rfl rfl rfl ?_
      refine e_index0 (j := 1) und24 siz23 rfl rfl (by omega) rfl ?_
      refine e_ldI (i := 0) 0 (1) und23 rfl rfl rfl rfl rfl (by decide) (by decide) rfl ⟨[], trivial⟩ ?_
      refine e_build (arr .u64 3 (upd r 2 0)) zer25 und25 siz23 rfl rfl rfl ?_
      refine e_call rfl ent25 (partsOf_fn (upd r 2 0) hr0 hr1 (by rw [upd_on]; decide)) rfl rfl ?_
      refine e_as (congrArg p5 (w3_k3 r)) ?_
      refine e_call rfl ent35 (times5_fn _ _ (mod_lt30 _) (k3_lt hr0 hr1)) rfl rfl ?_
      refine e_as (congrArg p5 hps.symm) ?_
      refine e_call rfl ent27 (whole_fn _ (mod_lt30 _)) rfl rfl ?_
      refine e_fld (4) und28 rfl siz25 rfl rfl rfl ?_
      refine e_stC (i := 0) 2 siz25 rfl rfl rfl rfl (by decide) (.inl rfl) ?_
      refine e_nil ?_
      refine e_seq ?_
      refine e_plain ?_
      refine e_build0 zer26 und26 sis5 rfl ?_
      refine e_fld (7) und28 rfl siz26 rfl rfl rfl ?_
      refine e_stC (i := 0) 3 siz26 rfl rfl rfl rfl (by decide) (.inl rfl) ?_
      refine e_fld (23) und28 rfl siz3 rfl rfl rfl ?_
      refine e_stV (i := 0) 4 siz3 rfl rfl rfl rfl rfl (by decide) (.inl rfl) ?_
      refine e_nil ?_
      refine e_seq ?_
      refine e_plain ?_
      refine e_loadA (i := 0) und28 rfl siz28 rfl rfl (arrv_size _ _) rfl ⟨[], trivial⟩ ?_
      refine e_as (show _ = PV r p (wd (pst (k3 r) (w3 a) l)) (fun _ => 0) 0 from rfl) ?_
      refine e_storeA (i := 1) siz28 rfl rfl (arrv_size _ _) (cells_one ⟨fun _ => rfl, fun _ => rfl, fun _ => rfl, fun _ => rfl, fun _ => rfl, trivial⟩) rfl cells_sz (.inl rfl) ?_
      refine e_nil ?_
      refine e_ret ?_
      exact ⟨_, rfl, .cell (i := 1) rfl rfl und28 rfl siz28 (arrv_size _ _)⟩

end Go.Proofs.Ytmnmhmpklknleaa
