/-
  Walks, written by a program of ours off the loaded functions.
-/
import Derived.Test.YthhcgeoldjmpaaaW4
import Derived.Test.YthhcgeoldjmpaaaPts
namespace Go.Proofs.Ythhcgeoldjmpaaa
open Go Go.RowKit


theorem ent19 : enters Try.prog 19 = true := by kernel_rfl
theorem ent20 : enters Try.prog 20 = true := by kernel_rfl
theorem ent21 : enters Try.prog 21 = true := by kernel_rfl
theorem ent26 : enters Try.prog 26 = true := by kernel_rfl
theorem ent27 : enters Try.prog 27 = true := by kernel_rfl
theorem ent28 : enters Try.prog 28 = true := by kernel_rfl
theorem ent31 : enters Try.prog 31 = true := by kernel_rfl
theorem ent34 : enters Try.prog 34 = true := by kernel_rfl
theorem ent35 : enters Try.prog 35 = true := by kernel_rfl
theorem siz23 : (Try.prog.info? 23).map (·.size) = some 32 := by kernel_rfl
theorem siz39 : (Try.prog.info? 39).map (·.size) = some 8 := by kernel_rfl
theorem siz41 : (Try.prog.info? 41).map (·.size) = some 16 := by kernel_rfl
theorem und23 : Try.prog.underlying 23 = some (.array 32 5) := by kernel_rfl
theorem und39 : Try.prog.underlying 39 = some (.array 2 36) := by kernel_rfl
theorem und41 : Try.prog.underlying 41 = some (.array 2 39) := by kernel_rfl
theorem zer23 : (Try.prog.info? 23).bind (·.zero) = some (.agg (arr .u8 32 fun _ => 0)) := by kernel_rfl
theorem zer39 : (Try.prog.info? 39).bind (·.zero) = some (.agg (arr .u64 8 fun _ => 0)) := by kernel_rfl
theorem zer41 : (Try.prog.info? 41).bind (·.zero) = some (.agg (arr .u64 16 fun _ => 0)) := by kernel_rfl

variable {G : Mem}

set_option maxHeartbeats 400000 in
theorem ladd_fn (a b : Nat) (ha : a < PP) (hb : b < PP) : Fn Try.prog G 27 #[fe a, fe b] (fe ((a + b) % PP)) := by
  refine fn1 (n := 14) Try.func27 rfl rfl (by simp) (argE [fe a, fe b] 0) (argE_ok _) ?_
  refine e_seq ?_
  refine e_plain ?_
  refine e_box 0 rfl rfl fun r1 => ?_
  refine e_box 1 rfl rfl fun r2 => ?_
  refine e_alloc 2 zer36 rfl fun r3 => ?_
  refine e_nil ?_
  refine e_seq ?_
  refine e_plain ?_
  refine e_loadA (i := 0) und36 rfl siz36 rfl rfl (arr_size _ _ _) rfl ⟨[], trivial⟩ ?_
  refine e_loadA (i := 1) und36 rfl siz36 rfl rfl (arr_size _ _ _) rfl ⟨[], trivial⟩ ?_
  refine e_call rfl ent34 (add_ok a b ha hb) rfl rfl ?_
  refine e_move rfl rfl ?_
  refine e_extract rfl rfl rfl ?_
  refine e_extract rfl rfl rfl ?_
  refine e_alloc 3 zer36 rfl fun r4 => ?_
  refine e_storeA (i := 3) siz36 rfl rfl (arr_size _ _ _) arr_one rfl (arr_sz _ _ _ _ _) (.inl rfl) ?_
  refine e_assign rfl rfl ?_
  refine e_nil ?_
  refine e_seq ?_
  refine e_plain ?_
  refine e_loadA (i := 3) und36 rfl siz36 rfl rfl (arr_size _ _ _) rfl ⟨[], trivial⟩ ?_
  refine e_storeA (i := 2) siz36 rfl rfl (arr_size _ _ _) arr_one rfl (arr_sz _ _ _ _ _) (.inl rfl) ?_
  refine e_nil ?_
  refine e_ret ?_
  exact ⟨_, rfl, .cell (i := 2) rfl rfl und36 rfl siz36 (arr_size _ _ _)⟩

set_option maxHeartbeats 400000 in
theorem lsub_fn (a b : Nat) (ha : a < PP) (hb : b < PP) : Fn Try.prog G 28 #[fe a, fe b] (fe ((a + PP - b) % PP)) := by
  refine fn1 (n := 14) Try.func28 rfl rfl (by simp) (argE [fe a, fe b] 0) (argE_ok _) ?_
  refine e_seq ?_
  refine e_plain ?_
  refine e_box 0 rfl rfl fun r1 => ?_
  refine e_box 1 rfl rfl fun r2 => ?_
  refine e_alloc 2 zer36 rfl fun r3 => ?_
  refine e_nil ?_
  refine e_seq ?_
  refine e_plain ?_
  refine e_loadA (i := 0) und36 rfl siz36 rfl rfl (arr_size _ _ _) rfl ⟨[], trivial⟩ ?_
  refine e_loadA (i := 1) und36 rfl siz36 rfl rfl (arr_size _ _ _) rfl ⟨[], trivial⟩ ?_
  refine e_call rfl ent35 (sub_ok a b ha hb) rfl rfl ?_
  refine e_move rfl rfl ?_
  refine e_extract rfl rfl rfl ?_
  refine e_extract rfl rfl rfl ?_
  refine e_alloc 3 zer36 rfl fun r4 => ?_
  refine e_storeA (i := 3) siz36 rfl rfl (arr_size _ _ _) arr_one rfl (arr_sz _ _ _ _ _) (.inl rfl) ?_
  refine e_assign rfl rfl ?_
  refine e_nil ?_
  refine e_seq ?_
  refine e_plain ?_
  refine e_loadA (i := 3) und36 rfl siz36 rfl rfl (arr_size _ _ _) rfl ⟨[], trivial⟩ ?_
  refine e_storeA (i := 2) siz36 rfl rfl (arr_size _ _ _) arr_one rfl (arr_sz _ _ _ _ _) (.inl rfl) ?_
  refine e_nil ?_
  refine e_ret ?_
  exact ⟨_, rfl, .cell (i := 2) rfl rfl und36 rfl siz36 (arr_size _ _ _)⟩

set_option maxHeartbeats 400000 in
theorem lmul_fn (a b : Nat) (ha : a < PP) (hb : b < PP) : Fn Try.prog G 21 #[fe a, fe b] (fe (a * b % PP)) := by
  refine fn1 (n := 14) Try.func21 rfl rfl (by simp) (argE [fe a, fe b] 0) (argE_ok _) ?_
  refine e_seq ?_
  refine e_plain ?_
  refine e_box 0 rfl rfl fun r1 => ?_
  refine e_box 1 rfl rfl fun r2 => ?_
  refine e_alloc 2 zer36 rfl fun r3 => ?_
  refine e_nil ?_
  refine e_seq ?_
  refine e_plain ?_
  refine e_loadA (i := 0) und36 rfl siz36 rfl rfl (arr_size _ _ _) rfl ⟨[], trivial⟩ ?_
  refine e_loadA (i := 1) und36 rfl siz36 rfl rfl (arr_size _ _ _) rfl ⟨[], trivial⟩ ?_
  refine e_call rfl ent31 (mul_ok a b ha hb) rfl rfl ?_
  refine e_move rfl rfl ?_
  refine e_extract rfl rfl rfl ?_
  refine e_extract rfl rfl rfl ?_
  refine e_alloc 3 zer36 rfl fun r4 => ?_
  refine e_storeA (i := 3) siz36 rfl rfl (arr_size _ _ _) arr_one rfl (arr_sz _ _ _ _ _) (.inl rfl) ?_
  refine e_assign rfl rfl ?_
  refine e_nil ?_
  refine e_seq ?_
  refine e_plain ?_
  refine e_loadA (i := 3) und36 rfl siz36 rfl rfl (arr_size _ _ _) rfl ⟨[], trivial⟩ ?_
  refine e_storeA (i := 2) siz36 rfl rfl (arr_size _ _ _) arr_one rfl (arr_sz _ _ _ _ _) (.inl rfl) ?_
  refine e_nil ?_
  refine e_ret ?_
  exact ⟨_, rfl, .cell (i := 2) rfl rfl und36 rfl siz36 (arr_size _ _ _)⟩

set_option maxHeartbeats 400000 in
theorem lsquare_fn (a : Nat) (ha : a < PP) : Fn Try.prog G 26 #[fe a] (fe (a * a % PP)) := by
  refine fn1 (n := 6) Try.func26 rfl rfl (by simp) (argE [fe a] 0) (argE_ok _) ?_
  refine e_seq ?_
  refine e_plain ?_
  refine e_box 0 rfl rfl fun r1 => ?_
  refine e_alloc 1 zer36 rfl fun r2 => ?_
  refine e_nil ?_
  refine e_seq ?_
  refine e_plain ?_
  refine e_loadA (i := 0) und36 rfl siz36 rfl rfl (arr_size _ _ _) rfl ⟨[], trivial⟩ ?_
  refine e_loadA (i := 0) und36 rfl siz36 rfl rfl (arr_size _ _ _) rfl ⟨[], trivial⟩ ?_
  refine e_call rfl ent21 (lmul_fn a a ha ha) rfl rfl ?_
  refine e_storeA (i := 1) siz36 rfl rfl (arr_size _ _ _) arr_one rfl (arr_sz _ _ _ _ _) (.inl rfl) ?_
  refine e_nil ?_
  refine e_ret ?_
  exact ⟨_, rfl, .cell (i := 1) rfl rfl und36 rfl siz36 (arr_size _ _ _)⟩

set_option maxHeartbeats 400000 in
theorem twice_fn (p : Nat × Nat) (h : Lt2 p) : Fn Try.prog G 17 #[ptv p] (ptv (nDbl p)) := by
  obtain ⟨pl, hpl⟩ : ∃ pl, pl = (p.1 + p.2) % PP * ((p.1 + p.2) % PP) % PP := ⟨_, rfl⟩
  have hplL : pl < PP := by rw [hpl]; exact Nat.mod_lt _ (by decide)
  obtain ⟨mi, hmi⟩ : ∃ mi, mi = (p.1 + PP - p.2) % PP * ((p.1 + PP - p.2) % PP) % PP := ⟨_, rfl⟩
  have hmiL : mi < PP := by rw [hmi]; exact Nat.mod_lt _ (by decide)
  obtain ⟨re, hre⟩ : ∃ re, re = (pl + PP - mi) % PP := ⟨_, rfl⟩
  have hreL : re < PP := by rw [hre]; exact Nat.mod_lt _ (by decide)
  refine fn1 (n := 32) Try.func17 rfl rfl (by simp) (argE [ptv p] 0) (argE_ok _) ?_
  refine e_seq ?_
  refine e_plain ?_
  refine e_box 0 rfl rfl fun r1 => ?_
  refine e_alloc 1 zer39 rfl fun r2 => ?_
  refine e_nil ?_
  refine e_seq ?_
  refine e_plain ?_
  refine e_at (0) (j := 0) und39 siz36 rfl rfl (by omega) (by omega) rfl ?_
  refine e_loadS (i := 0) und36 rfl siz36 rfl rfl (by omega) rfl ⟨[], trivial⟩ ?_
  refine e_as (pt_0 _) ?_
  refine e_at (4) (j := 1) und39 siz36 rfl rfl (by omega) (by omega) rfl ?_
  refine e_loadS (i := 0) und36 rfl siz36 rfl rfl (by omega) rfl ⟨[], trivial⟩ ?_
  refine e_as (pt_4 _) ?_
  refine e_call rfl ent27 (ladd_fn _ _ h.1 h.2) rfl rfl ?_
  refine e_call rfl ent26 (lsquare_fn _ (Nat.mod_lt _ (by decide))) rfl rfl ?_
  refine e_as (congrArg fe hpl.symm) ?_
  refine e_alloc 2 zer36 rfl fun r3 => ?_
  refine e_storeA (i := 2) siz36 rfl rfl (arr_size _ _ _) arr_one rfl (arr_sz _ _ _ _ _) (.inl rfl) ?_
  refine e_nil ?_
  refine e_seq ?_
  refine e_plain ?_
  refine e_at (0) (j := 0) und39 siz36 rfl rfl (by omega) (by omega) rfl ?_
  refine e_loadS (i := 0) und36 rfl siz36 rfl rfl (by omega) rfl ⟨[], trivial⟩ ?_
  refine e_as (pt_0 _) ?_
  refine e_at (4) (j := 1) und39 siz36 rfl rfl (by omega) (by omega) rfl ?_
  refine e_loadS (i := 0) und36 rfl siz36 rfl rfl (by omega) rfl ⟨[], trivial⟩ ?_
  refine e_as (pt_4 _) ?_
  refine e_call rfl ent28 (lsub_fn _ _ h.1 h.2) rfl rfl ?_
  refine e_call rfl ent26 (lsquare_fn _ (Nat.mod_lt _ (by decide))) rfl rfl ?_
  refine e_as (congrArg fe hmi.symm) ?_
  refine e_alloc 3 zer36 rfl fun r4 => ?_
  refine e_storeA (i := 3) siz36 rfl rfl (arr_size _ _ _) arr_one rfl (arr_sz _ _ _ _ _) (.inl rfl) ?_
  refine e_nil ?_
  refine e_seq ?_
  refine e_plain ?_
  refine e_loadA (i := 2) und36 rfl siz36 rfl rfl (arr_size _ _ _) rfl ⟨[], trivial⟩ ?_
  refine e_loadA (i := 3) und36 rfl siz36 rfl rfl (arr_size _ _ _) rfl ⟨[], trivial⟩ ?_
  refine e_call rfl ent28 (lsub_fn _ _ hplL hmiL) rfl rfl ?_
  refine e_as (congrArg fe hre.symm) ?_
  refine e_alloc 4 zer36 rfl fun r5 => ?_
  refine e_storeA (i := 4) siz36 rfl rfl (arr_size _ _ _) arr_one rfl (arr_sz _ _ _ _ _) (.inl rfl) ?_
  refine e_nil ?_
  refine e_seq ?_
  refine e_draw mixed (by kernel_rfl) ?_
  refine e_loadA (i := 2) und36 rfl siz36 rfl rfl (arr_size _ _ _) rfl ⟨[], trivial⟩ ?_
  refine e_loadA (i := 3) und36 rfl siz36 rfl rfl (arr_size _ _ _) rfl ⟨[], trivial⟩ ?_
  refine e_call rfl ent21 (lmul_fn _ _ hplL hmiL) rfl rfl ?_
  refine e_as (congrArg fe (dbl_x h.2 hpl hmi)) ?_
  refine e_loadA (i := 4) und36 rfl siz36 rfl rfl (arr_size _ _ _) rfl ⟨[], trivial⟩ ?_
  refine e_loadA (i := 2) und36 rfl siz36 rfl rfl (arr_size _ _ _) rfl ⟨[], trivial⟩ ?_
  refine e_build (arr .u64 4 (upd (fun _ => 0) 0 121665)) zer36 und36 siz34 rfl rfl rfl ?_
  refine e_as (fe_one 121665 (by decide)) ?_
  refine e_loadA (i := 4) und36 rfl siz36 rfl rfl (arr_size _ _ _) rfl ⟨[], trivial⟩ ?_
  refine e_call rfl ent21 (lmul_fn _ _ (by decide) hreL) rfl rfl ?_
  refine e_call rfl ent27 (ladd_fn _ _ hplL (Nat.mod_lt _ (by decide))) rfl rfl ?_
  refine e_call rfl ent21 (lmul_fn _ _ hreL (Nat.mod_lt _ (by decide))) rfl rfl ?_
  refine e_as (congrArg fe (dbl_z h.2 hpl hmi hre)) ?_
  refine e_buildZ _ zer39 und39 siz36 rfl (fill_pt _ _) rfl ?_
  refine e_storeA (i := 1) siz39 rfl rfl (arr_size _ _ _) arr_one rfl (arr_sz _ _ _ _ _) (.inl rfl) ?_
  refine e_nil ?_
  refine e_ret ?_
  exact ⟨_, rfl, .cell (i := 1) rfl rfl und39 rfl siz39 (arr_size _ _ _)⟩

set_option maxHeartbeats 400000 in
theorem lsum_fn (L : (Nat × Nat) × (Nat × Nat)) (U : Nat) (h : Lt2 L.1 ∧ Lt2 L.2) (hU : U < PP) : Fn Try.prog G 18 #[rgv L, fe U] (ptv (nWith U L.1 L.2)) := by
  obtain ⟨a, ha⟩ : ∃ a, a = (L.2.1 + PP - L.2.2) % PP * ((L.1.1 + L.1.2) % PP) % PP := ⟨_, rfl⟩
  have haL : a < PP := by rw [ha]; exact Nat.mod_lt _ (by decide)
  obtain ⟨b, hb⟩ : ∃ b, b = (L.2.1 + L.2.2) % PP * ((L.1.1 + PP - L.1.2) % PP) % PP := ⟨_, rfl⟩
  have hbL : b < PP := by rw [hb]; exact Nat.mod_lt _ (by decide)
  refine fn1 (n := 48) Try.func18 rfl rfl (by simp) (argE [rgv L, fe U] 0) (argE_ok _) ?_
  refine e_seq ?_
  refine e_plain ?_
  refine e_box 0 rfl rfl fun r1 => ?_
  refine e_box 1 rfl rfl fun r2 => ?_
  refine e_alloc 2 zer39 rfl fun r3 => ?_
  refine e_nil ?_
  refine e_seq ?_
  refine e_draw mixed (by kernel_rfl) ?_
  refine e_at (8) (j := 1) und41 siz39 rfl rfl (by omega) (by omega) rfl ?_
  refine e_at (8) (j := 0) und39 siz36 rfl rfl (by omega) (by omega) rfl ?_
  refine e_loadS (i := 0) und36 rfl siz36 rfl rfl (by omega) rfl ⟨[], trivial⟩ ?_
  refine e_as (rg_8 _) ?_
  refine e_at (8) (j := 1) und41 siz39 rfl rfl (by omega) (by omega) rfl ?_
  refine e_at (12) (j := 1) und39 siz36 rfl rfl (by omega) (by omega) rfl ?_
  refine e_loadS (i := 0) und36 rfl siz36 rfl rfl (by omega) rfl ⟨[], trivial⟩ ?_
  refine e_as (rg_12 _) ?_
  refine e_call rfl ent28 (lsub_fn _ _ h.2.1 h.2.2) rfl rfl ?_
  refine e_at (0) (j := 0) und41 siz39 rfl rfl (by omega) (by omega) rfl ?_
  refine e_at (0) (j := 0) und39 siz36 rfl rfl (by omega) (by omega) rfl ?_
  refine e_loadS (i := 0) und36 rfl siz36 rfl rfl (by omega) rfl ⟨[], trivial⟩ ?_
  refine e_as (rg_0 _) ?_
  refine e_at (0) (j := 0) und41 siz39 rfl rfl (by omega) (by omega) rfl ?_
  refine e_at (4) (j := 1) und39 siz36 rfl rfl (by omega) (by omega) rfl ?_
  refine e_loadS (i := 0) und36 rfl siz36 rfl rfl (by omega) rfl ⟨[], trivial⟩ ?_
  refine e_as (rg_4 _) ?_
  refine e_call rfl ent27 (ladd_fn _ _ h.1.1 h.1.2) rfl rfl ?_
  refine e_call rfl ent21 (lmul_fn _ _ (Nat.mod_lt _ (by decide)) (Nat.mod_lt _ (by decide))) rfl rfl ?_
  refine e_as (congrArg fe ha.symm) ?_
  refine e_alloc 3 zer36 rfl fun r4 => ?_
  refine e_storeA (i := 3) siz36 rfl rfl (arr_size _ _ _) arr_one rfl (arr_sz _ _ _ _ _) (.inl rfl) ?_
  refine e_nil ?_
  refine e_seq ?_
  refine e_draw mixed (by kernel_rfl) ?_
  refine e_at (8) (j := 1) und41 siz39 rfl rfl (by omega) (by omega) rfl ?_
  refine e_at (8) (j := 0) und39 siz36 rfl rfl (by omega) (by omega) rfl ?_
  refine e_loadS (i := 0) und36 rfl siz36 rfl rfl (by omega) rfl ⟨[], trivial⟩ ?_
  refine e_as (rg_8 _) ?_
  refine e_at (8) (j := 1) und41 siz39 rfl rfl (by omega) (by omega) rfl ?_
  refine e_at (12) (j := 1) und39 siz36 rfl rfl (by omega) (by omega) rfl ?_
  refine e_loadS (i := 0) und36 rfl siz36 rfl rfl (by omega) rfl ⟨[], trivial⟩ ?_
  refine e_as (rg_12 _) ?_
  refine e_call rfl ent27 (ladd_fn _ _ h.2.1 h.2.2) rfl rfl ?_
  refine e_at (0) (j := 0) und41 siz39 rfl rfl (by omega) (by omega) rfl ?_
  refine e_at (0) (j := 0) und39 siz36 rfl rfl (by omega) (by omega) rfl ?_
  refine e_loadS (i := 0) und36 rfl siz36 rfl rfl (by omega) rfl ⟨[], trivial⟩ ?_
  refine e_as (rg_0 _) ?_
  refine e_at (0) (j := 0) und41 siz39 rfl rfl (by omega) (by omega) rfl ?_
  refine e_at (4) (j := 1) und39 siz36 rfl rfl (by omega) (by omega) rfl ?_
  refine e_loadS (i := 0) und36 rfl siz36 rfl rfl (by omega) rfl ⟨[], trivial⟩ ?_
  refine e_as (rg_4 _) ?_
  refine e_call rfl ent28 (lsub_fn _ _ h.1.1 h.1.2) rfl rfl ?_
  refine e_call rfl ent21 (lmul_fn _ _ (Nat.mod_lt _ (by decide)) (Nat.mod_lt _ (by decide))) rfl rfl ?_
  refine e_as (congrArg fe hb.symm) ?_
  refine e_alloc 4 zer36 rfl fun r5 => ?_
  refine e_storeA (i := 4) siz36 rfl rfl (arr_size _ _ _) arr_one rfl (arr_sz _ _ _ _ _) (.inl rfl) ?_
  refine e_nil ?_
  refine e_seq ?_
  refine e_draw mixed (by kernel_rfl) ?_
  refine e_loadA (i := 3) und36 rfl siz36 rfl rfl (arr_size _ _ _) rfl ⟨[], trivial⟩ ?_
  refine e_loadA (i := 4) und36 rfl siz36 rfl rfl (arr_size _ _ _) rfl ⟨[], trivial⟩ ?_
  refine e_call rfl ent27 (ladd_fn _ _ haL hbL) rfl rfl ?_
  refine e_call rfl ent26 (lsquare_fn _ (Nat.mod_lt _ (by decide))) rfl rfl ?_
  refine e_loadA (i := 1) und36 rfl siz36 rfl rfl (arr_size _ _ _) rfl ⟨[], trivial⟩ ?_
  refine e_loadA (i := 3) und36 rfl siz36 rfl rfl (arr_size _ _ _) rfl ⟨[], trivial⟩ ?_
  refine e_loadA (i := 4) und36 rfl siz36 rfl rfl (arr_size _ _ _) rfl ⟨[], trivial⟩ ?_
  refine e_call rfl ent28 (lsub_fn _ _ haL hbL) rfl rfl ?_
  refine e_call rfl ent26 (lsquare_fn _ (Nat.mod_lt _ (by decide))) rfl rfl ?_
  refine e_call rfl ent21 (lmul_fn _ _ hU (Nat.mod_lt _ (by decide))) rfl rfl ?_
  refine e_buildZ _ zer39 und39 siz36 rfl (fill_pt _ _) rfl ?_
  refine e_as (congrArg ptv ((with_ab h.1.2 h.2.2 U ha hb).symm.trans (with_turns h.1.2 h.2.2 U))) ?_
  refine e_storeA (i := 2) siz39 rfl rfl (arr_size _ _ _) arr_one rfl (arr_sz _ _ _ _ _) (.inl rfl) ?_
  refine e_nil ?_
  refine e_ret ?_
  exact ⟨_, rfl, .cell (i := 2) rfl rfl und39 rfl siz39 (arr_size _ _ _)⟩

set_option maxHeartbeats 400000 in
theorem lswap_fn (L : (Nat × Nat) × (Nat × Nat)) (n : Nat) (hn : n ≤ 1) : Fn Try.prog G 16 #[rgv L, u n] (rgv (swp n L)) := by
  refine fn1 (n := 55) Try.func16 rfl rfl (by simp) (argE [rgv L, u n] 0) (argE_ok _) ?_
  refine e_seq ?_
  refine e_plain ?_
  refine e_box 0 rfl rfl fun r1 => ?_
  refine e_alloc 1 zer41 rfl fun r2 => ?_
  refine e_nil ?_
  refine e_seq ?_
  refine e_seq ?_
  refine e_plain ?_
  refine e_move rfl rfl ?_
  refine e_nil ?_
  refine e_block ?_
  refine e_loop (fun kk E m => ∃ (k : Nat) (s : Nat → Nat), kk = 2 - k ∧ E = [(1, u n), (2, ptr r1), (4, ptr r2), (8, ii k)] ∧ m = [(0, ⟨r1, arr .u64 16 s, 41⟩), (1, ⟨r2, arr .u64 16 (fun _ => 0), 41⟩)] ∧ (k ≤ 2) ∧ (∀ t, t < 16 → s t = swt n (rgf L) (4 * k) t)) [(1, u n), (2, ptr r1), (4, ptr r2), (8, ii 0)] [(0, ⟨r1, arr .u64 16 (rgf L), 41⟩), (1, ⟨r2, arr .u64 16 (fun _ => 0), 41⟩)] (2 - 0) ⟨rfl, rfl, rfl, rfl, trivial⟩ ⟨rfl, rfl, trivial⟩ ⟨0, rgf L, rfl, rfl, rfl, by omega, fun t _ => (swt_none n (rgf L) t).symm⟩ ?_
  rintro kk E m ⟨k, s, rfl, rfl, rfl, hf0_0, hf0_1⟩
  refine e_seq ?_
  refine e_plain ?_
  refine e_lt rfl rfl rfl ?_
  refine e_nil ?_
  refine e_seq ?_
  refine e_cond rfl ?_ ?_
  · intro hc0
    have hc0 := of_decide_eq_true hc0
    refine e_skip ?_
    refine e_seq ?_
    refine e_block ?_
    refine e_seq ?_
    refine e_plain ?_
    refine e_move rfl rfl ?_
    refine e_assign rfl rfl ?_
    refine e_nil ?_
    refine e_seq ?_
    refine e_plain ?_
    refine e_move rfl rfl ?_
    refine e_nil ?_
    refine e_block ?_
    refine e_loop (fun kk E m => ∃ (j : Nat) (s2 : Nat → Nat), kk = 4 - j ∧ E = [(1, u n), (2, ptr r1), (4, ptr r2), (8, ii k), (5, ii k), (11, ii j)] ∧ m = [(0, ⟨r1, arr .u64 16 s2, 41⟩), (1, ⟨r2, arr .u64 16 (fun _ => 0), 41⟩)] ∧ (j ≤ 4) ∧ (∀ t, t < 16 → s2 t = swt n (rgf L) (4 * k + j) t)) [(1, u n), (2, ptr r1), (4, ptr r2), (8, ii k), (5, ii k), (11, ii 0)] [(0, ⟨r1, arr .u64 16 s, 41⟩), (1, ⟨r2, arr .u64 16 (fun _ => 0), 41⟩)] (4 - 0) ⟨rfl, rfl, rfl, rfl, rfl, rfl, trivial⟩ ⟨rfl, rfl, trivial⟩ ⟨0, s, rfl, rfl, rfl, by omega, hf0_1⟩ ?_
    rintro kk E m ⟨j, s2, rfl, rfl, rfl, hf1_0, hf1_1⟩
    refine e_seq ?_
    refine e_plain ?_
    refine e_lt rfl rfl rfl ?_
    refine e_nil ?_
    refine e_seq ?_
    refine e_cond rfl ?_ ?_
    · intro hc1
      have hc1 := of_decide_eq_true hc1
      refine e_skip ?_
      refine e_seq ?_
      refine e_block ?_
      refine e_seq ?_
      refine e_plain ?_
      refine e_move rfl rfl ?_
      refine e_assign rfl rfl ?_
      refine e_nil ?_
      refine e_seq ?_
      refine e_draw mixed (by kernel_rfl) ?_
      refine e_move rfl rfl ?_
      refine e_move rfl rfl ?_
      refine e_at (0) (j := 0) und41 siz39 rfl rfl (by omega) (by omega) rfl ?_
      refine e_at (4 * k) und39 siz36 rfl rfl (by omega) (by omega) rfl ?_
      refine e_at (4 * k + j) und36 siz34 rfl rfl (by omega) (by omega) rfl ?_
      refine e_load1 (i := 0) und34 rfl rfl rfl (arr_get (by omega)) rfl ⟨[], trivial⟩ ?_
      refine e_move rfl rfl ?_
      refine e_move rfl rfl ?_
      refine e_at (8) (j := 1) und41 siz39 rfl rfl (by omega) (by omega) rfl ?_
      refine e_at (8 + 4 * k) und39 siz36 rfl rfl (by omega) (by omega) rfl ?_
      refine e_at (8 + (4 * k + j)) und36 siz34 rfl rfl (by omega) (by omega) rfl ?_
      refine e_load1 (i := 0) und34 rfl rfl rfl (arr_get (by omega)) rfl ⟨[], trivial⟩ ?_
      refine e_xor_u rfl rfl rfl  ?_
      refine e_move rfl rfl ?_
      refine e_neg_u rfl rfl (by omega) ?_
      refine e_and_u rfl rfl rfl  ?_
      refine e_assign rfl rfl ?_
      refine e_nil ?_
      refine e_seq ?_
      refine e_draw mixed (by kernel_rfl) ?_
      refine e_move rfl rfl ?_
      refine e_move rfl rfl ?_
      refine e_at (0) (j := 0) und41 siz39 rfl rfl (by omega) (by omega) rfl ?_
      refine e_at (4 * k) und39 siz36 rfl rfl (by omega) (by omega) rfl ?_
      refine e_at (4 * k + j) und36 siz34 rfl rfl (by omega) (by omega) rfl ?_
      refine e_load1 (i := 0) und34 rfl rfl rfl (arr_get (by omega)) rfl ⟨[], trivial⟩ ?_
      refine e_move rfl rfl ?_
      refine e_xor_u rfl rfl rfl  ?_
      refine e_at (0) (j := 0) und41 siz39 rfl rfl (by omega) (by omega) rfl ?_
      refine e_at (4 * k) und39 siz36 rfl rfl (by omega) (by omega) rfl ?_
      refine e_at (4 * k + j) und36 siz34 rfl rfl (by omega) (by omega) rfl ?_
      refine e_storeN (i := 0) siz34 rfl rfl rfl (by omega) (.inl rfl) ?_
      refine e_nil ?_
      refine e_draw mixed (by kernel_rfl) ?_
      refine e_move rfl rfl ?_
      refine e_move rfl rfl ?_
      refine e_at (8) (j := 1) und41 siz39 rfl rfl (by omega) (by omega) rfl ?_
      refine e_at (8 + 4 * k) und39 siz36 rfl rfl (by omega) (by omega) rfl ?_
      refine e_at (8 + (4 * k + j)) und36 siz34 rfl rfl (by omega) (by omega) rfl ?_
      refine e_load1 (i := 0) und34 rfl rfl rfl (arr_get (by omega)) rfl ⟨[], trivial⟩ ?_
      refine e_move rfl rfl ?_
      refine e_xor_u rfl rfl rfl  ?_
      refine e_at (8) (j := 1) und41 siz39 rfl rfl (by omega) (by omega) rfl ?_
      refine e_at (8 + 4 * k) und39 siz36 rfl rfl (by omega) (by omega) rfl ?_
      refine e_at (8 + (4 * k + j)) und36 siz34 rfl rfl (by omega) (by omega) rfl ?_
      refine e_storeN (i := 0) siz34 rfl rfl rfl (by omega) (.inl rfl) ?_
      refine e_nil ?_
      refine e_plain ?_
      refine e_add_i (q := 1) rfl rfl rfl (by omega) ?_
      refine e_move rfl rfl ?_
      refine e_nil ?_
      refine ⟨_, [(1, u n), (2, ptr r1), (4, ptr r2), (8, ii k), (5, ii k), (11, ii (j + 1))], [(0, ⟨r1, arr .u64 16 (upd (upd s2 (4 * k + j) _) (8 + (4 * k + j)) _), 41⟩), (1, ⟨r2, arr .u64 16 (fun _ => 0), 41⟩)], ?_, ⟨rfl, rfl, rfl, rfl, rfl, rfl, trivial⟩, ⟨rfl, rfl, trivial⟩, j + 1, upd (upd s2 (4 * k + j) _) (8 + (4 * k + j)) _, rfl, rfl, rfl, by omega, swap_step (c := 4 * k + j) hn (rgf_lt L) (by omega) hf1_1 _ _ _ rfl rfl rfl⟩
      omega
    · intro hc1
      have hc1 := of_decide_eq_false hc1
      have hj4 : j = 4 := by omega
      subst hj4
      refine e_exit ?_
      refine e_plain ?_
      refine e_add_i (q := 1) rfl rfl rfl (by omega) ?_
      refine e_move rfl rfl ?_
      refine e_nil ?_
      refine ⟨_, [(1, u n), (2, ptr r1), (4, ptr r2), (8, ii (k + 1))], [(0, ⟨r1, arr .u64 16 s2, 41⟩), (1, ⟨r2, arr .u64 16 (fun _ => 0), 41⟩)], ?_, ⟨rfl, rfl, rfl, rfl, trivial⟩, ⟨rfl, rfl, trivial⟩, k + 1, s2, rfl, rfl, rfl, by omega, by rw [show 4 * (k + 1) = 4 * k + 4 by omega]; exact hf1_1⟩
      omega
  · intro hc0
    have hc0 := of_decide_eq_false hc0
    have hk2 : k = 2 := by omega
    subst hk2
    refine e_exit ?_
    refine e_seq ?_
    refine e_plain ?_
    refine e_loadA (i := 0) und41 rfl siz41 rfl rfl (arr_size _ _ _) rfl ⟨[], trivial⟩ ?_
    refine e_storeA (i := 1) siz41 rfl rfl (arr_size _ _ _) arr_one rfl (arr_sz _ _ _ _ _) (.inl rfl) ?_
    refine e_nil ?_
    refine e_ret ?_
    rw [rgv, ← swap_end hf0_1]
    exact ⟨_, rfl, .cell (i := 1) rfl rfl und41 rfl siz41 (arr_size _ _ _)⟩

set_option maxHeartbeats 400000 in
theorem ltells_fn (f : Nat → Nat) (hf : ∀ j, j < 32 → f j < 256) : Fn Try.prog G 14 #[.agg (arr .u8 32 f)] (.bool (!allEq 32 f (fun _ => 0))) := by
  refine fn1 (n := 16) Try.func14 rfl rfl (by simp) (argE [.agg (arr .u8 32 f)] 0) (argE_ok _) ?_
  refine e_seq ?_
  refine e_plain ?_
  refine e_box 0 rfl rfl fun r1 => ?_
  refine e_assign rfl rfl ?_
  refine e_nil ?_
  refine e_seq ?_
  refine e_plain ?_
  refine e_assign rfl rfl ?_
  refine e_nil ?_
  refine e_seq ?_
  refine e_seq ?_
  refine e_plain ?_
  refine e_loadA (i := 0) und23 rfl siz23 rfl rfl (arr_size _ _ _) rfl ⟨[], trivial⟩ ?_
  refine e_move rfl rfl ?_
  refine e_nil ?_
  refine e_block ?_
  refine e_loop (fun kk E m => ∃ (k : Nat) (s : Nat), kk = 32 - k ∧ E = [(3, by8 s), (6, .agg (arr .u8 32 f)), (7, ii k)] ∧ m = [(0, ⟨r1, arr .u8 32 f, 23⟩)] ∧ (k ≤ 32) ∧ (s < 256) ∧ (s = 0 ↔ ∀ j, j < k → f j = 0)) [(3, by8 0), (6, .agg (arr .u8 32 f)), (7, ii 0)] [(0, ⟨r1, arr .u8 32 f, 23⟩)] (32 - 0) ⟨rfl, rfl, rfl, trivial⟩ ⟨rfl, trivial⟩ ⟨0, 0, rfl, rfl, rfl, by omega, by decide, ⟨fun _ j hj => absurd hj (Nat.not_lt_zero j), fun _ => rfl⟩⟩ ?_
  rintro kk E m ⟨k, s, rfl, rfl, rfl, hf0_0, hf0_1, hf0_2⟩
  refine e_seq ?_
  refine e_plain ?_
  refine e_lt rfl rfl rfl ?_
  refine e_nil ?_
  refine e_seq ?_
  refine e_cond rfl ?_ ?_
  · intro hc0
    have hc0 := of_decide_eq_true hc0
    refine e_skip ?_
    refine e_seq ?_
    refine e_block ?_
    refine e_seq ?_
    refine e_plain ?_
    refine e_idx und23 und5 siz5 rfl rfl (by omega) rfl ?_
    refine e_assign rfl rfl ?_
    refine e_nil ?_
    refine e_plain ?_
    refine e_move rfl rfl ?_
    refine e_move rfl rfl ?_
    refine e_or_b rfl rfl rfl  ?_
    refine e_assign rfl rfl ?_
    refine e_nil ?_
    refine e_plain ?_
    refine e_add_i (q := 1) rfl rfl rfl (by omega) ?_
    refine e_move rfl rfl ?_
    refine e_nil ?_
    refine ⟨_, [(3, by8 _), (6, .agg (arr .u8 32 f)), (7, ii (k + 1))], [(0, ⟨r1, arr .u8 32 f, 23⟩)], ?_, ⟨rfl, rfl, rfl, trivial⟩, ⟨rfl, trivial⟩, k + 1, _, rfl, rfl, rfl, by omega, Nat.mod_lt _ (by decide), tells_step hf0_1 (hf k (by omega)) hf0_2⟩
    omega
  · intro hc0
    have hc0 := of_decide_eq_false hc0
    have hk : k = 32 := by omega
    subst hk
    refine e_exit ?_
    refine e_seq ?_
    refine e_plain ?_
    refine e_move rfl rfl ?_
    refine e_ne rfl rfl rfl ?_
    refine e_as (congrArg Value.bool (tells_end hf0_2)) ?_
    refine e_assign rfl rfl ?_
    refine e_nil ?_
    refine e_ret ?_
    exact ⟨_, rfl, .tmp rfl⟩

set_option maxHeartbeats 400000 in
theorem lvalue_fn (p : Nat × Nat) (h : Lt2 p) : Fn Try.prog G 13 #[ptv p] (by32 (nMul p.1 (p.2 ^ EE % PP))) := by
  refine fn1 (n := 22) Try.func13 rfl rfl (by simp) (argE [ptv p] 0) (argE_ok _) ?_
  refine e_seq ?_
  refine e_plain ?_
  refine e_box 0 rfl rfl fun r1 => ?_
  refine e_alloc 1 zer23 rfl fun r2 => ?_
  refine e_nil ?_
  refine e_seq ?_
  refine e_plain ?_
  refine e_at (4) (j := 1) und39 siz36 rfl rfl (by omega) (by omega) rfl ?_
  refine e_loadS (i := 0) und36 rfl siz36 rfl rfl (by omega) rfl ⟨[], trivial⟩ ?_
  refine e_as (pt_4 _) ?_
  refine e_call rfl ent19 (inv_ok _ h.2) rfl rfl ?_
  refine e_move rfl rfl ?_
  refine e_extract rfl rfl rfl ?_
  refine e_extract rfl rfl rfl ?_
  refine e_alloc 2 zer36 rfl fun r3 => ?_
  refine e_storeA (i := 2) siz36 rfl rfl (arr_size _ _ _) arr_one rfl (arr_sz _ _ _ _ _) (.inl rfl) ?_
  refine e_assign rfl rfl ?_
  refine e_nil ?_
  refine e_seq ?_
  refine e_plain ?_
  refine e_at (0) (j := 0) und39 siz36 rfl rfl (by omega) (by omega) rfl ?_
  refine e_loadS (i := 0) und36 rfl siz36 rfl rfl (by omega) rfl ⟨[], trivial⟩ ?_
  refine e_as (pt_0 _) ?_
  refine e_loadA (i := 2) und36 rfl siz36 rfl rfl (arr_size _ _ _) rfl ⟨[], trivial⟩ ?_
  refine e_call rfl ent21 (lmul_fn _ _ h.1 (Nat.mod_lt _ (by decide))) rfl rfl ?_
  refine e_call rfl ent20 (bytes_ok _ (Nat.mod_lt _ (by decide))) rfl rfl ?_
  refine e_move rfl rfl ?_
  refine e_extract rfl rfl rfl ?_
  refine e_extract rfl rfl rfl ?_
  refine e_alloc 3 zer22 rfl fun r4 => ?_
  refine e_storeA (i := 3) siz22 rfl rfl (arr_size _ _ _) arr_one rfl (arr_sz _ _ _ _ _) (.inl rfl) ?_
  refine e_assign rfl rfl ?_
  refine e_nil ?_
  refine e_seq ?_
  refine e_plain ?_
  refine e_loadA (i := 3) und22 rfl siz22 rfl rfl (arr_size _ _ _) rfl ⟨[], trivial⟩ ?_
  refine e_storeA (i := 1) siz23 rfl rfl (arr_size _ _ _) arr_one rfl (arr_sz _ _ _ _ _) (.inl rfl) ?_
  refine e_nil ?_
  refine e_ret ?_
  exact ⟨_, rfl, .cell (i := 1) rfl rfl und23 rfl siz23 (arr_size _ _ _)⟩

set_option maxHeartbeats 400000 in
theorem lclamp_fn (f : Nat → Nat) (hf : ∀ j, j < 32 → f j < 256) : Fn Try.prog G 9 #[.agg (arr .u8 32 f)] (.agg (arr .u8 32 (clam f))) := by
  refine fn1 (n := 16) Try.func9 rfl rfl (by simp) (argE [.agg (arr .u8 32 f)] 0) (argE_ok _) ?_
  refine e_seq ?_
  refine e_plain ?_
  refine e_box 0 rfl rfl fun r1 => ?_
  refine e_alloc 1 zer23 rfl fun r2 => ?_
  refine e_nil ?_
  refine e_seq ?_
  refine e_plain ?_
  refine e_index0 (j := 0) und23 siz5 rfl rfl (by omega) rfl ?_
  refine e_load1 (i := 0) und5 rfl rfl rfl (arr_get (by omega)) rfl ⟨[], trivial⟩ ?_
  refine e_and_b (q := 248) rfl rfl rfl  ?_
  refine e_index0 (j := 0) und23 siz5 rfl rfl (by omega) rfl ?_
  refine e_storeN (i := 0) siz5 rfl rfl rfl (by omega) (.inl rfl) ?_
  refine e_nil ?_
  refine e_seq ?_
  refine e_plain ?_
  refine e_index0 (j := 31) und23 siz5 rfl rfl (by omega) rfl ?_
  refine e_load1 (i := 0) und5 rfl rfl rfl (arr_get (by omega)) rfl ⟨[], trivial⟩ ?_
  refine e_and_b (q := 127) rfl rfl rfl  ?_
  refine e_index0 (j := 31) und23 siz5 rfl rfl (by omega) rfl ?_
  refine e_storeN (i := 0) siz5 rfl rfl rfl (by omega) (.inl rfl) ?_
  refine e_nil ?_
  refine e_seq ?_
  refine e_plain ?_
  refine e_index0 (j := 31) und23 siz5 rfl rfl (by omega) rfl ?_
  refine e_load1 (i := 0) und5 rfl rfl rfl (arr_get (by omega)) rfl ⟨[], trivial⟩ ?_
  refine e_or_b (q := 64) rfl rfl rfl  ?_
  refine e_index0 (j := 31) und23 siz5 rfl rfl (by omega) rfl ?_
  refine e_storeN (i := 0) siz5 rfl rfl rfl (by omega) (.inl rfl) ?_
  refine e_nil ?_
  refine e_seq ?_
  refine e_plain ?_
  refine e_loadA (i := 0) und23 rfl siz23 rfl rfl (arr_size _ _ _) rfl ⟨[], trivial⟩ ?_
  refine e_storeA (i := 1) siz23 rfl rfl (arr_size _ _ _) arr_one rfl (arr_sz _ _ _ _ _) (.inl rfl) ?_
  refine e_nil ?_
  refine e_ret ?_
  rw [← clam_eq hf rfl rfl rfl]
  exact ⟨_, rfl, .cell (i := 1) rfl rfl und23 rfl siz23 (arr_size _ _ _)⟩

end Go.Proofs.Ythhcgeoldjmpaaa
