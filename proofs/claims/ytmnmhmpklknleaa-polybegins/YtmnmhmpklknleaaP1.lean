/-
  Walks, written by a program of ours off the loaded functions.
-/
import Derived.Test.YtmnmhmpklknleaaP0
namespace Go.Proofs.Ytmnmhmpklknleaa
open Go Go.RowKit


theorem siz23 : (Try.prog.info? 23).map (·.size) = some 1 := by kernel_rfl
theorem siz25 : (Try.prog.info? 25).map (·.size) = some 3 := by kernel_rfl
theorem siz54 : (Try.prog.info? 54).map (·.size) = some 5 := by kernel_rfl
theorem und25 : Try.prog.underlying 25 = some (.array 3 23) := by kernel_rfl
theorem und54 : Try.prog.underlying 54 = some (.array 5 23) := by kernel_rfl
theorem zer25 : (Try.prog.info? 25).bind (·.zero) = some (.agg (arr .u64 3 fun _ => 0)) := by kernel_rfl
theorem zer54 : (Try.prog.info? 54).bind (·.zero) = some (.agg (arr .u64 5 fun _ => 0)) := by kernel_rfl

variable {G : Mem}

set_option maxHeartbeats 400000 in
theorem partsOf_fn (f : Nat → Nat) (h0 : f 0 < 18446744073709551616) (h1 : f 1 < 18446744073709551616) (h2 : f 2 < 4) : Fn Try.prog G 25 #[.agg (arr .u64 3 f)] (p5 (w3 f)) := by
  refine fn1 (n := 30) Try.func25 rfl rfl (by simp) (argE [.agg (arr .u64 3 f)] 0) (argE_ok _) ?_
  refine e_seq ?_
  refine e_plain ?_
  refine e_box 0 rfl rfl fun r1 => ?_
  refine e_alloc 1 zer54 rfl fun r2 => ?_
  refine e_nil ?_
  refine e_seq ?_
  refine e_plain ?_
  refine e_index0 (j := 0) und25 siz23 rfl rfl (by omega) rfl ?_
  refine e_load1 (i := 0) und23 rfl rfl rfl (arr_get (by omega)) rfl ⟨[], trivial⟩ ?_
  refine e_and_u (q := 67108863) rfl rfl rfl  ?_
  refine e_as (congrArg u (po0 (f := f))) ?_
  refine e_index0 (j := 0) und25 siz23 rfl rfl (by omega) rfl ?_
  refine e_load1 (i := 0) und23 rfl rfl rfl (arr_get (by omega)) rfl ⟨[], trivial⟩ ?_
  refine e_shr_u (s := 26) rfl rfl rfl (by omega) ?_
  refine e_and_u (q := 67108863) rfl rfl rfl  ?_
  refine e_as (congrArg u (po1 (f := f))) ?_
  refine e_index0 (j := 0) und25 siz23 rfl rfl (by omega) rfl ?_
  refine e_load1 (i := 0) und23 rfl rfl rfl (arr_get (by omega)) rfl ⟨[], trivial⟩ ?_
  refine e_shr_u (s := 52) rfl rfl rfl (by omega) ?_
  refine e_index0 (j := 1) und25 siz23 rfl rfl (by omega) rfl ?_
  refine e_load1 (i := 0) und23 rfl rfl rfl (arr_get (by omega)) rfl ⟨[], trivial⟩ ?_
  refine e_shl_u (s := 12) rfl rfl rfl (by omega) ?_
  refine e_or_u rfl rfl rfl  ?_
  refine e_and_u (q := 67108863) rfl rfl rfl  ?_
  refine e_as (congrArg u (po2 h0)) ?_
  refine e_index0 (j := 1) und25 siz23 rfl rfl (by omega) rfl ?_
  refine e_load1 (i := 0) und23 rfl rfl rfl (arr_get (by omega)) rfl ⟨[], trivial⟩ ?_
  refine e_shr_u (s := 14) rfl rfl rfl (by omega) ?_
  refine e_and_u (q := 67108863) rfl rfl rfl  ?_
  refine e_as (congrArg u (po3 h0)) ?_
  refine e_index0 (j := 1) und25 siz23 rfl rfl (by omega) rfl ?_
  refine e_load1 (i := 0) und23 rfl rfl rfl (arr_get (by omega)) rfl ⟨[], trivial⟩ ?_
  refine e_shr_u (s := 40) rfl rfl rfl (by omega) ?_
  refine e_index0 (j := 2) und25 siz23 rfl rfl (by omega) rfl ?_
  refine e_load1 (i := 0) und23 rfl rfl rfl (arr_get (by omega)) rfl ⟨[], trivial⟩ ?_
  refine e_shl_u (s := 24) rfl rfl rfl (by omega) ?_
  refine e_or_u rfl rfl rfl  ?_
  refine e_as (congrArg u (po4 h0 h1 h2)) ?_
  refine e_build (arr .u64 5 (d26 (w3 f))) zer54 und54 siz23 rfl rfl rfl ?_
  refine e_storeA (i := 1) siz54 rfl rfl (arr_size _ _ _) arr_one rfl (arr_sz _ _ _ _ _) (.inl rfl) ?_
  refine e_nil ?_
  refine e_ret ?_
  exact ⟨_, rfl, .cell (i := 1) rfl rfl und54 rfl siz54 (arr_size _ _ _)⟩

set_option maxHeartbeats 400000 in
theorem whole_fn (x : Nat) (hx : x < 2 ^ 130) : Fn Try.prog G 27 #[p5 x] (.agg (arr .u64 3 (wd x))) := by
  refine fn1 (n := 28) Try.func27 rfl rfl (by simp) (argE [p5 x] 0) (argE_ok _) ?_
  refine e_seq ?_
  refine e_plain ?_
  refine e_box 0 rfl rfl fun r1 => ?_
  refine e_alloc 1 zer25 rfl fun r2 => ?_
  refine e_nil ?_
  refine e_seq ?_
  refine e_plain ?_
  refine e_index0 (j := 0) und54 siz23 rfl rfl (by omega) rfl ?_
  refine e_load1 (i := 0) und23 rfl rfl rfl (arr_get (by omega)) rfl ⟨[], trivial⟩ ?_
  refine e_index0 (j := 1) und54 siz23 rfl rfl (by omega) rfl ?_
  refine e_load1 (i := 0) und23 rfl rfl rfl (arr_get (by omega)) rfl ⟨[], trivial⟩ ?_
  refine e_shl_u (s := 26) rfl rfl rfl (by omega) ?_
  refine e_or_u rfl rfl rfl  ?_
  refine e_index0 (j := 2) und54 siz23 rfl rfl (by omega) rfl ?_
  refine e_load1 (i := 0) und23 rfl rfl rfl (arr_get (by omega)) rfl ⟨[], trivial⟩ ?_
  refine e_shl_u (s := 52) rfl rfl rfl (by omega) ?_
  refine e_or_u rfl rfl rfl  ?_
  refine e_as (congrArg u (wh0 hx)) ?_
  refine e_index0 (j := 2) und54 siz23 rfl rfl (by omega) rfl ?_
  refine e_load1 (i := 0) und23 rfl rfl rfl (arr_get (by omega)) rfl ⟨[], trivial⟩ ?_
  refine e_shr_u (s := 12) rfl rfl rfl (by omega) ?_
  refine e_index0 (j := 3) und54 siz23 rfl rfl (by omega) rfl ?_
  refine e_load1 (i := 0) und23 rfl rfl rfl (arr_get (by omega)) rfl ⟨[], trivial⟩ ?_
  refine e_shl_u (s := 14) rfl rfl rfl (by omega) ?_
  refine e_or_u rfl rfl rfl  ?_
  refine e_index0 (j := 4) und54 siz23 rfl rfl (by omega) rfl ?_
  refine e_load1 (i := 0) und23 rfl rfl rfl (arr_get (by omega)) rfl ⟨[], trivial⟩ ?_
  refine e_shl_u (s := 40) rfl rfl rfl (by omega) ?_
  refine e_or_u rfl rfl rfl  ?_
  refine e_as (congrArg u (wh1 hx)) ?_
  refine e_index0 (j := 4) und54 siz23 rfl rfl (by omega) rfl ?_
  refine e_load1 (i := 0) und23 rfl rfl rfl (arr_get (by omega)) rfl ⟨[], trivial⟩ ?_
  refine e_shr_u (s := 24) rfl rfl rfl (by omega) ?_
  refine e_as (congrArg u (wh2 hx)) ?_
  refine e_build (arr .u64 3 (wd x)) zer25 und25 siz23 rfl rfl rfl ?_
  refine e_storeA (i := 1) siz25 rfl rfl (arr_size _ _ _) arr_one rfl (arr_sz _ _ _ _ _) (.inl rfl) ?_
  refine e_nil ?_
  refine e_ret ?_
  exact ⟨_, rfl, .cell (i := 1) rfl rfl und25 rfl siz25 (arr_size _ _ _)⟩

end Go.Proofs.Ytmnmhmpklknleaa
