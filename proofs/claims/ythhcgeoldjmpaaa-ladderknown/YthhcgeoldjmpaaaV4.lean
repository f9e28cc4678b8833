/-
  Walks, written by a program of ours off the loaded functions.
-/
import Derived.Test.YthhcgeoldjmpaaaV2
import Derived.Test.YthhcgeoldjmpaaaKn
namespace Go.Proofs.Ythhcgeoldjmpaaa
open Go Go.RowKit


theorem ent8 : enters Try.prog 8 = true := by kernel_rfl
theorem ent10 : enters Try.prog 10 = true := by kernel_rfl
theorem siz9 : (Try.prog.info? 9).map (·.size) = some 1 := by kernel_rfl
theorem und9 : Try.prog.underlying 9 = some (.string) := by kernel_rfl
theorem und30 : Try.prog.underlying 30 = some (.slice 23) := by kernel_rfl
theorem und31 : Try.prog.underlying 31 = some (.slice 5) := by kernel_rfl
theorem und32 : Try.prog.underlying 32 = some (.slice 9) := by kernel_rfl
theorem zer9 : (Try.prog.info? 9).bind (·.zero) = some (.string ByteArray.empty) := by kernel_rfl

variable {G : Mem}

set_option maxHeartbeats 400000 in
theorem picked2_fn (z : Int) : Fn Try.prog G 10 #[.int .i64 z, ii 2] (.int .i64 ((pk2 z : Nat) : Int)) := by
  have htm := tm2 z
  refine fn1 (n := 14) Try.func10 rfl rfl (by simp) (argE [.int .i64 z, ii 2] 0) (argE_ok _) ?_
  refine e_seq ?_
  refine e_plain ?_
  refine e_assign rfl rfl ?_
  refine e_nil ?_
  refine e_seq ?_
  refine e_plain ?_
  refine e_move rfl rfl ?_
  refine e_move rfl rfl ?_
  refine e_rem_z rfl rfl rfl (by decide) ?_
  refine e_as (congrArg (Value.int .i64) (show z.tmod ((2 : Nat) : Int) = z.tmod 2 from rfl)) ?_
  refine e_assign rfl rfl ?_
  refine e_nil ?_
  refine e_seq ?_
  refine e_seq ?_
  refine e_plain ?_
  refine e_move rfl rfl ?_
  refine e_lt rfl rfl rfl ?_
  refine e_nil ?_
  refine e_cond rfl ?_ ?_
  · intro hc0
    have hc0 := of_decide_eq_true hc0
    refine e_plain ?_
    refine e_move rfl rfl ?_
    refine e_move rfl rfl ?_
    refine e_add_z (q := 2) rfl rfl rfl (by omega) (by omega) ?_
    refine e_as (congrArg (Value.int .i64) (pk2_neg hc0)) ?_
    refine e_assign rfl rfl ?_
    refine e_nil ?_
    refine e_seq ?_
    refine e_plain ?_
    refine e_move rfl rfl ?_
    refine e_assign rfl rfl ?_
    refine e_nil ?_
    refine e_ret ?_
    exact ⟨_, rfl, .tmp rfl⟩
  · intro hc0
    have hc0 := of_decide_eq_false hc0
    rw [← pk2_pos hc0]
    refine e_skip ?_
    refine e_seq ?_
    refine e_plain ?_
    refine e_move rfl rfl ?_
    refine e_assign rfl rfl ?_
    refine e_nil ?_
    refine e_ret ?_
    exact ⟨_, rfl, .tmp rfl⟩

set_option maxHeartbeats 400000 in
theorem known_0 (z : Int) (hz : pk2 z = 0) : Fn Try.prog G 6 #[.int .i64 z] (.bool true) := by
  refine fn1 (n := 21) Try.func6 rfl rfl (by simp) (argE [.int .i64 z] 0) (argE_ok _) ?_
  refine e_seq ?_
  refine e_plain ?_
  refine e_assign rfl rfl ?_
  refine e_nil ?_
  refine e_seq ?_
  refine e_plain ?_
  refine e_move rfl rfl ?_
  refine e_call rfl ent10 (picked2_fn z) rfl rfl ?_
  refine e_as (congrArg ii hz) ?_
  refine e_assign rfl rfl ?_
  refine e_nil ?_
  refine e_seq ?_
  refine e_plain ?_
  refine e_build (arr .u8 32 kA) zer23 und23 siz5 rfl (by kernel_rfl) rfl ?_
  refine e_build (arr .u8 32 kB) zer23 und23 siz5 rfl (by kernel_rfl) rfl ?_
  refine e_buildSl 0 (arr .u8 64 kAB) und30 siz23 zer23 (by decide) (by decide) rfl (by kernel_rfl) rfl fun r1 => ?_
  refine e_move rfl rfl ?_
  refine e_atSl (0) und30 siz23 rfl rfl (by omega) rfl rfl ?_
  refine e_loadS (i := 0) und23 rfl siz23 rfl rfl (by omega) rfl ⟨[], trivial⟩ ?_
  refine e_as kAB_0 ?_
  refine e_call rfl ent8 (lbase_fn kA kA_lt) rfl rfl ?_
  refine e_as (congrArg by32 known_a) ?_
  refine e_alloc 1 zer23 rfl fun r2 => ?_
  refine e_storeA (i := 1) siz23 rfl rfl (arr_size _ _ _) arr_one rfl (arr_sz _ _ _ _ _) (.inl rfl) ?_
  refine e_nil ?_
  refine e_seq ?_
  refine e_draw mixed (by kernel_rfl) ?_
  refine e_sliceA 0 4 und23 siz5 rfl rfl rfl rfl ⟨_, rfl⟩ (by omega) (by omega) (by omega) rfl ?_
  refine e_conv_str (i := 1) und31 und5 und9 rfl rfl (by omega) rfl ⟨[], trivial⟩ ?_
  refine e_buildSl 2 #[Value.string (ByteArray.mk #[133, 32, 240, 9]), Value.string (ByteArray.mk #[222, 158, 219, 125])] und32 siz9 zer9 (by decide) (by decide) rfl (by kernel_rfl) rfl fun r3 => ?_
  refine e_move rfl rfl ?_
  refine e_atSl (0) und32 siz9 rfl rfl (by omega) rfl rfl ?_
  refine e_load1 (i := 2) und9 rfl rfl rfl rfl rfl ⟨[], trivial⟩ ?_
  refine e_eqS rfl rfl rfl ?_
  refine e_as (congrArg Value.bool str_a) ?_
  refine e_assign rfl rfl ?_
  refine e_nil ?_
  refine e_ret ?_
  exact ⟨_, rfl, .tmp rfl⟩

set_option maxHeartbeats 400000 in
theorem known_1 (z : Int) (hz : pk2 z = 1) : Fn Try.prog G 6 #[.int .i64 z] (.bool true) := by
  refine fn1 (n := 21) Try.func6 rfl rfl (by simp) (argE [.int .i64 z] 0) (argE_ok _) ?_
  refine e_seq ?_
  refine e_plain ?_
  refine e_assign rfl rfl ?_
  refine e_nil ?_
  refine e_seq ?_
  refine e_plain ?_
  refine e_move rfl rfl ?_
  refine e_call rfl ent10 (picked2_fn z) rfl rfl ?_
  refine e_as (congrArg ii hz) ?_
  refine e_assign rfl rfl ?_
  refine e_nil ?_
  refine e_seq ?_
  refine e_plain ?_
  refine e_build (arr .u8 32 kA) zer23 und23 siz5 rfl (by kernel_rfl) rfl ?_
  refine e_build (arr .u8 32 kB) zer23 und23 siz5 rfl (by kernel_rfl) rfl ?_
  refine e_buildSl 0 (arr .u8 64 kAB) und30 siz23 zer23 (by decide) (by decide) rfl (by kernel_rfl) rfl fun r1 => ?_
  refine e_move rfl rfl ?_
  refine e_atSl (32) und30 siz23 rfl rfl (by omega) rfl rfl ?_
  refine e_loadS (i := 0) und23 rfl siz23 rfl rfl (by omega) rfl ⟨[], trivial⟩ ?_
  refine e_as kAB_32 ?_
  refine e_call rfl ent8 (lbase_fn kB kB_lt) rfl rfl ?_
  refine e_as (congrArg by32 known_b) ?_
  refine e_alloc 1 zer23 rfl fun r2 => ?_
  refine e_storeA (i := 1) siz23 rfl rfl (arr_size _ _ _) arr_one rfl (arr_sz _ _ _ _ _) (.inl rfl) ?_
  refine e_nil ?_
  refine e_seq ?_
  refine e_draw mixed (by kernel_rfl) ?_
  refine e_sliceA 0 4 und23 siz5 rfl rfl rfl rfl ⟨_, rfl⟩ (by omega) (by omega) (by omega) rfl ?_
  refine e_conv_str (i := 1) und31 und5 und9 rfl rfl (by omega) rfl ⟨[], trivial⟩ ?_
  refine e_buildSl 2 #[Value.string (ByteArray.mk #[133, 32, 240, 9]), Value.string (ByteArray.mk #[222, 158, 219, 125])] und32 siz9 zer9 (by decide) (by decide) rfl (by kernel_rfl) rfl fun r3 => ?_
  refine e_move rfl rfl ?_
  refine e_atSl (1) und32 siz9 rfl rfl (by omega) rfl rfl ?_
  refine e_load1 (i := 2) und9 rfl rfl rfl rfl rfl ⟨[], trivial⟩ ?_
  refine e_eqS rfl rfl rfl ?_
  refine e_as (congrArg Value.bool str_b) ?_
  refine e_assign rfl rfl ?_
  refine e_nil ?_
  refine e_ret ?_
  exact ⟨_, rfl, .tmp rfl⟩

end Go.Proofs.Ythhcgeoldjmpaaa
