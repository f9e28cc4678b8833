/-
  Walks, written by a program of ours off the loaded functions.
-/
import Derived.Test.YtmnmhmpklknleaaP6
import Derived.Test.YtmnmhmpklknleaaPol3
namespace Go.Proofs.Ytmnmhmpklknleaa
open Go Go.RowKit


theorem ent12 : enters Try.prog 12 = true := by kernel_rfl
theorem ent29 : enters Try.prog 29 = true := by kernel_rfl

variable {G : Mem}

set_option maxHeartbeats 400000 in
theorem added_bad (r p a h : Nat → Nat) (n : Int) (v : Value) (ha0 : a 0 < 18446744073709551616) (ha1 : a 1 < 18446744073709551616) (hr0 : r 0 < 18446744073709551616) (hr1 : r 1 < 18446744073709551616) (hok : ¬ (okcd r a n && okh n h 16) = true) : Fn Try.prog G 14 #[PV r p a h n, v] (.tuple #[PV (fun _ => 0) (fun _ => 0) (fun _ => 0) (fun _ => 0) 0, ii 9]) := by
  refine fn2 (n := 43) Try.func14 rfl rfl (by simp) (argE [PV r p a h n, v] 0) (argE_ok _) ?_
  refine e_seq ?_
  refine e_plain ?_
  refine e_box 0 rfl rfl fun r1 => ?_
  refine e_alloc 1 zer28 rfl fun r2 => ?_
  refine e_assign rfl rfl ?_
  refine e_nil ?_
  refine e_seq ?_
  refine e_seq ?_
  refine e_plain ?_
  refine e_loadA (i := 0) und28 rfl siz28 rfl rfl (arrv_size _ _) rfl ⟨[], trivial⟩ ?_
  refine e_call rfl ent12 (fault_fn r p a h n ha0 ha1 hr0 hr1) rfl rfl ?_
  refine e_as (congrArg ii (if_neg hok)) ?_
  refine e_assign rfl rfl ?_
  refine e_nil ?_
  refine e_seq ?_
  refine e_plain ?_
  refine e_move rfl rfl ?_
  refine e_ne rfl rfl rfl ?_
  refine e_nil ?_
  refine e_cond rfl ?_ ?_
  · intro hc0
    refine e_seq ?_
    refine e_plain ?_
    refine e_buildS _ zer28 und28 pls28 rfl rfl rfl ?_
    refine e_move rfl rfl ?_
    refine e_storeA (i := 1) siz28 rfl rfl (arrv_size _ _) (cells_one ⟨fun _ => rfl, fun _ => rfl, fun _ => rfl, fun _ => rfl, fun _ => rfl, trivial⟩) rfl cells_sz (.inl rfl) ?_
    refine e_assign rfl rfl ?_
    refine e_nil ?_
    refine e_ret ?_
    exact ⟨_, _, rfl, .cell (i := 1) rfl rfl und28 rfl siz28 (arrv_size _ _), .tmp rfl⟩
  · intro hc0
    exact absurd hc0 (by decide)

set_option maxHeartbeats 4000000 in
theorem added_ok (r p : Nat → Nat) (A : Nat) (h : Nat → Nat) (n : Nat) (v : Value) (l : List Nat) (hv : Shows G 1 v l.length (l.map by8)) (hlb : ∀ b ∈ l, b < 256) (hA : A < 2 ^ 130) (hr0 : r 0 < 18446744073709551616) (hr1 : r 1 < 18446744073709551616) (hn : n < 16) (hh : ∀ j, j < 16 → h j < 256) (hok : (okcd r (wd A) n && okh n h 16) = true) (hlen : l.length + 16 ≤ 9223372036854775807) : Fn Try.prog G 14 #[PV r p (wd A) h n, v] (.tuple #[PV r p (wd (accs (k3 r) A (sS h n l) ((sS h n l).length / 16))) (fun i => ((sS h n l).drop (16 * ((sS h n l).length / 16))).getD i 0) (((sS h n l).drop (16 * ((sS h n l).length / 16))).length : Int), ii 0]) := by
  have hSl := sS_len h n l
  have hSb := sS_lt (n := n) (fun j hj => hh j (by omega)) hlb
  refine fn2 (n := 43) Try.func14 rfl rfl (by simp) (argE [PV r p (wd A) h n, v] 0) (argE_ok _) ?_
  refine e_seq ?_
  refine e_plain ?_
  refine e_box 0 rfl rfl fun r1 => ?_
  refine e_alloc 1 zer28 rfl fun r2 => ?_
  refine e_assign rfl rfl ?_
  refine e_nil ?_
  refine e_seq ?_
  refine e_seq ?_
  refine e_plain ?_
  refine e_loadA (i := 0) und28 rfl siz28 rfl rfl (arrv_size _ _) rfl ⟨[], trivial⟩ ?_
  refine e_call rfl ent12 (fault_fn r p (wd A) h n (wd_lt _ 0) (wd_lt _ 1) hr0 hr1) rfl rfl ?_
  refine e_as (congrArg ii (if_pos hok)) ?_
  refine e_assign rfl rfl ?_
  refine e_nil ?_
  refine e_seq ?_
  refine e_plain ?_
  refine e_move rfl rfl ?_
  refine e_ne rfl rfl rfl ?_
  refine e_nil ?_
  refine e_cond rfl ?_ ?_
  · intro hc0
    exact absurd hc0 (by decide)
  · intro hc0
    refine e_skip ?_
    refine e_seq ?_
    refine e_plain ?_
    refine e_fld (7) und28 rfl siz26 rfl rfl rfl ?_
    refine e_ldC (i := 0) 3 und26 rfl siz26 rfl rfl rfl (by decide) rfl ⟨[], trivial⟩ ?_
    refine e_alloc 2 zer26 rfl fun r3 => ?_
    refine e_storeA (i := 2) siz26 rfl rfl (arr_size _ _ _) arr_one rfl (arr_sz _ _ _ _ _) (.inl rfl) ?_
    refine e_nil ?_
    refine e_seq ?_
    refine e_draw mixed (by kernel_rfl) ?_
    refine e_fld (23) und28 rfl siz3 rfl rfl rfl ?_
    refine e_ldV1 (i := 0) 4 und3 rfl rfl rfl rfl (by decide) rfl ⟨[], trivial⟩ ?_
    refine e_sliceA 0 n und26 siz5 rfl rfl rfl rfl ⟨_, rfl⟩ (by omega) (by omega) (by omega) rfl ?_
    refine e_conv_str (i := 2) und33 und5 und9 rfl rfl (by omega) rfl rfl ⟨[], trivial⟩ ?_
    refine e_as (conv_all h n) ?_
    refine e_move rfl rfl ?_
    refine e_conv_strV hv seenG und33 und5 und9 rfl rfl rfl ?_
    refine e_catS rfl rfl rfl (by simp; omega) ?_
    refine e_as (show _ = sv (sS h n l) from rfl) ?_
    refine e_assign rfl rfl ?_
    refine e_nil ?_
    refine e_seq ?_
    refine e_block ?_
    refine e_loop (fun kk E m => ∃ (k : Nat) (ch : Nat → Nat) (cn : Int), kk = (sS h n l).length - 16 * k ∧ E = [(2, ptr r1), (4, ptr r2), (5, ii 0), (8, sv ((sS h n l).drop (16 * k)))] ∧ m = [(0, some ⟨r1, cells 24 [pI .u64 2 r, pI .u64 2 p, pI .u64 3 (wd (accs (k3 r) A (sS h n l) k)), pI .u8 16 ch, pV (.int .i64 cn)], 28⟩), (1, some ⟨r2, cells 24 [pI .u64 2 (fun _ => 0), pI .u64 2 (fun _ => 0), pI .u64 3 (fun _ => 0), pI .u8 16 (fun _ => 0), pV (.int .i64 0)], 28⟩), (2, some ⟨r3, arr .u8 16 h, 26⟩)] ∧ (16 * k ≤ (sS h n l).length)) [(2, ptr r1), (4, ptr r2), (5, ii 0), (8, sv ((sS h n l).drop (16 * 0)))] [(0, some ⟨r1, cells 24 [pI .u64 2 r, pI .u64 2 p, pI .u64 3 (wd (accs (k3 r) A (sS h n l) 0)), pI .u8 16 h, pV (.int .i64 ((n : Int)))], 28⟩), (1, some ⟨r2, cells 24 [pI .u64 2 (fun _ => 0), pI .u64 2 (fun _ => 0), pI .u64 3 (fun _ => 0), pI .u8 16 (fun _ => 0), pV (.int .i64 0)], 28⟩), (2, some ⟨r3, arr .u8 16 h, 26⟩)] ((sS h n l).length - 16 * 0) ⟨rfl, rfl, rfl, rfl, trivial⟩ ⟨rfl, rfl, rfl, trivial⟩ ⟨0, h, (n : Int), rfl, rfl, rfl, by omega⟩ ?_
    rintro kk E m ⟨k, ch, cn, rfl, rfl, rfl, hf0_0⟩
    have hB := accs_lt (R := k3 r) (S := sS h n l) hA k
    have hdl : ((sS h n l).drop (16 * k)).length = (sS h n l).length - 16 * k := List.length_drop
    refine e_seq ?_
    refine e_seq ?_
    refine e_plain ?_
    refine e_move rfl rfl ?_
    refine e_lenStr und9 rfl rfl rfl ?_
    refine e_ge rfl rfl rfl ?_
    refine e_nil ?_
    refine e_cond rfl ?_ ?_
    · intro hc1
      have hc1 := of_decide_eq_true hc1
      refine e_skip ?_
      refine e_block ?_
      refine e_draw mixed (by kernel_rfl) ?_
      refine e_loadA (i := 0) und28 rfl siz28 rfl rfl (arrv_size _ _) rfl ⟨[], trivial⟩ ?_
      refine e_move rfl rfl ?_
      refine e_sliceStr 0 16 und9 rfl rfl rfl rfl ⟨_, rfl⟩ (by omega) (by omega) rfl ?_
      refine e_call rfl ent29 (soaked_fn r p (wd (accs (k3 r) A (sS h n l) k)) ch cn (((sS h n l).drop (16 * k)).take 16) (by rw [List.length_take]; omega) (take_lt hSb _ _) (wd_lt _ 0) (wd_lt _ 1) (wd2_lt hB) hr0 hr1) rfl rfl ?_
      refine e_as (congrArg (fun z => PV r p (wd (pst (k3 r) z (((sS h n l).drop (16 * k)).take 16))) (fun _ => 0) 0) (w3_wd hB)) ?_
      refine e_move rfl rfl ?_
      refine e_sliceStr 16 ((sS h n l).drop (16 * k)).length und9 rfl rfl rfl ⟨_, rfl⟩ rfl (by omega) (by omega) rfl ?_
      refine e_as (congrArg sv (drop_next _ k)) ?_
      refine e_storeA (i := 0) siz28 rfl rfl (arrv_size _ _) (cells_one ⟨fun _ => rfl, fun _ => rfl, fun _ => rfl, fun _ => rfl, fun _ => rfl, trivial⟩) rfl cells_sz (.inl rfl) ?_
      refine e_assign rfl rfl ?_
      refine e_nil ?_
      refine ⟨_, [(2, ptr r1), (4, ptr r2), (5, ii 0), (8, sv ((sS h n l).drop (16 * (k + 1))))], [(0, some ⟨r1, cells 24 [pI .u64 2 r, pI .u64 2 p, pI .u64 3 (wd (accs (k3 r) A (sS h n l) (k + 1))), pI .u8 16 (fun _ => 0), pV (.int .i64 0)], 28⟩), (1, some ⟨r2, cells 24 [pI .u64 2 (fun _ => 0), pI .u64 2 (fun _ => 0), pI .u64 3 (fun _ => 0), pI .u8 16 (fun _ => 0), pV (.int .i64 0)], 28⟩), (2, some ⟨r3, arr .u8 16 h, 26⟩)], ?_, ⟨rfl, rfl, rfl, rfl, trivial⟩, ⟨rfl, rfl, rfl, trivial⟩, k + 1, fun _ => 0, 0, rfl, rfl, rfl, by omega⟩
      omega
    · intro hc1
      have hc1 := of_decide_eq_false hc1
      have hk : k = (sS h n l).length / 16 := by omega
      subst hk
      refine e_exit ?_
      refine e_seq ?_
      refine e_plain ?_
      refine e_build0 zer26 und26 sis5 rfl ?_
      refine e_move rfl rfl ?_
      refine e_lenStr und9 rfl rfl rfl ?_
      refine e_fld (7) und28 rfl siz26 rfl rfl rfl ?_
      refine e_stC (i := 0) 3 siz26 rfl rfl rfl rfl (by decide) (.inl rfl) ?_
      refine e_fld (23) und28 rfl siz3 rfl rfl rfl ?_
      refine e_stV (i := 0) 4 siz3 rfl rfl rfl rfl rfl (by decide) (.inl rfl) ?_
      refine e_nil ?_
      refine e_seq ?_
      refine e_plain ?_
      refine e_fld (7) und28 rfl siz26 rfl rfl rfl ?_
      refine e_sliceA 0 16 und26 siz5 rfl rfl rfl rfl rfl (by omega) (by omega) (by omega) rfl ?_
      refine e_move rfl rfl ?_
      refine e_copyC (i := 0) 3 und33 siz5 rfl rfl (fun b hb => hSb b (List.mem_of_mem_drop hb)) rfl rfl (Nat.le_of_ble_eq_true rfl) (by decide) rfl ?_
      refine e_nil ?_
      refine e_seq ?_
      refine e_plain ?_
      refine e_loadA (i := 0) und28 rfl siz28 rfl rfl (arrv_size _ _) rfl ⟨[], trivial⟩ ?_
      refine e_as (Eq.trans (show _ = PV r p (wd (accs (k3 r) A (sS h n l) ((sS h n l).length / 16))) (fun i => if i < min ((sS h n l).drop (16 * ((sS h n l).length / 16))).length 16 then ((sS h n l).drop (16 * ((sS h n l).length / 16))).getD i 0 else 0) (((sS h n l).drop (16 * ((sS h n l).length / 16))).length : Int) from rfl) (congrArg (fun z => PV r p (wd (accs (k3 r) A (sS h n l) ((sS h n l).length / 16))) z (((sS h n l).drop (16 * ((sS h n l).length / 16))).length : Int)) (held_all _ (by omega)))) ?_
      refine e_storeA (i := 1) siz28 rfl rfl (arrv_size _ _) (cells_one ⟨fun _ => rfl, fun _ => rfl, fun _ => rfl, fun _ => rfl, fun _ => rfl, trivial⟩) rfl cells_sz (.inl rfl) ?_
      refine e_assign rfl rfl ?_
      refine e_nil ?_
      refine e_ret ?_
      exact ⟨_, _, rfl, .cell (i := 1) rfl rfl und28 rfl siz28 (arrv_size _ _), .tmp rfl⟩

end Go.Proofs.Ytmnmhmpklknleaa
