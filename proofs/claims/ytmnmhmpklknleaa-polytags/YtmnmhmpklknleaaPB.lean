/-
  Walks, written by a program of ours off the loaded functions.
-/
import Derived.Test.YtmnmhmpklknleaaPA
import Derived.Test.YtmnmhmpklknleaaPol6
namespace Go.Proofs.Ytmnmhmpklknleaa
open Go Go.RowKit


theorem ent17 : enters Try.prog 17 = true := by kernel_rfl
theorem ent18 : enters Try.prog 18 = true := by kernel_rfl
theorem ent19 : enters Try.prog 19 = true := by kernel_rfl
theorem eqg26 : Try.prog.eqGuardType Try.prog.depth 26 = false := by kernel_rfl
theorem siz22 : (Try.prog.info? 22).map (·.size) = some 32 := by kernel_rfl
theorem und22 : Try.prog.underlying 22 = some (.array 32 5) := by kernel_rfl

variable {G : Mem}

set_option maxHeartbeats 2000000 in
theorem polyTags_fn (f : Nat → Nat) (hf : ∀ j, j < 32 → f j < 256) (v : Value) (l : List Nat) (hv : Shows G 1 v l.length (l.map by8)) (hb : ∀ b ∈ l, b < 256) (hl : l.length ≤ 140737488351232) (hT : ∀ (G : Mem) (f : Nat → Nat) (v : Value) (l : List Nat), (∀ j, j < 32 → f j < 256) → (∀ b ∈ l, b < 256) → l.length ≤ 140737488351232 → Shows G 1 v l.length (l.map by8) → Fn Try.prog G 17 #[.agg (arr .u8 32 f), v] (.agg (arr .u8 16 (ptg f l)))) : Fn Try.prog G 6 #[.agg (arr .u8 32 f), v] (.bool true) := by
  refine fn1 (n := 17) Try.func6 rfl rfl (by simp) (argE [.agg (arr .u8 32 f), v] 0) (argE_ok _) ?_
  refine e_seq ?_
  refine e_plain ?_
  refine e_box 0 rfl rfl fun r1 => ?_
  refine e_assign rfl rfl ?_
  refine e_nil ?_
  refine e_seq ?_
  refine e_plain ?_
  refine e_loadA (i := 0) und22 rfl siz22 rfl rfl (arr_size _ _ _) rfl ⟨[], trivial⟩ ?_
  refine e_move rfl rfl ?_
  refine e_call rfl ent17 (hT G f v l hf hb hl hv) rfl rfl ?_
  refine e_alloc 1 zer26 rfl fun r2 => ?_
  refine e_storeA (i := 1) siz26 rfl rfl (arr_size _ _ _) arr_one rfl (arr_sz _ _ _ _ _) (.inl rfl) ?_
  refine e_nil ?_
  refine e_seq ?_
  refine e_plain ?_
  refine e_loadA (i := 0) und22 rfl siz22 rfl rfl (arr_size _ _ _) rfl ⟨[], trivial⟩ ?_
  refine e_move rfl rfl ?_
  refine e_conv_strV hv seenG und33 und5 und9 rfl rfl rfl ?_
  refine e_call rfl ent18 (tag_fn f hf l hb hl) rfl rfl ?_
  refine e_alloc 2 zer26 rfl fun r3 => ?_
  refine e_storeA (i := 2) siz26 rfl rfl (arr_size _ _ _) arr_one rfl (arr_sz _ _ _ _ _) (.inl rfl) ?_
  refine e_nil ?_
  refine e_seq ?_
  refine e_plain ?_
  refine e_loadA (i := 1) und26 rfl siz26 rfl rfl (arr_size _ _ _) rfl ⟨[], trivial⟩ ?_
  refine e_loadA (i := 2) und26 rfl siz26 rfl rfl (arr_size _ _ _) rfl ⟨[], trivial⟩ ?_
  refine e_eqA und26 und5 siz5 eqg26 rfl rfl rfl ?_
  refine e_as (congrArg Value.bool (allEq_iff.2 (fun _ _ => rfl))) ?_
  refine e_assign rfl rfl ?_
  refine e_nil ?_
  refine e_ret ?_
  exact ⟨_, rfl, .tmp rfl⟩

set_option maxHeartbeats 400000 in
theorem picked_fn (z : Int) (m : Nat) (hm : 0 < m) (hm2 : m < 4294967296) : Fn Try.prog G 19 #[.int .i64 z, ii m] (ii (pkn z m)) := by
  have htm := tmod_bd z hm
  refine fn1 (n := 14) Try.func19 rfl rfl (by simp) (argE [.int .i64 z, ii m] 0) (argE_ok _) ?_
  refine e_seq ?_
  refine e_plain ?_
  refine e_assign rfl rfl ?_
  refine e_nil ?_
  refine e_seq ?_
  refine e_plain ?_
  refine e_move rfl rfl ?_
  refine e_move rfl rfl ?_
  refine e_rem_z rfl rfl rfl (by omega) ?_
  refine e_assign rfl rfl ?_
  refine e_nil ?_
  refine e_seq ?_
  refine e_seq ?_
  refine e_plain ?_
  refine e_move rfl rfl ?_
  refine e_lt rfl rfl rfl ?_
  refine e_nil ?_
  refine e_cond rfl ?_ ?_
  · intro hc0
    have hc0 := of_decide_eq_true hc0
    refine e_plain ?_
    refine e_move rfl rfl ?_
    refine e_move rfl rfl ?_
    refine e_add_z rfl rfl rfl (by omega) (by omega) ?_
    refine e_as (congrArg (Value.int .i64) (pkn_neg hm hc0)) ?_
    refine e_assign rfl rfl ?_
    refine e_nil ?_
    refine e_seq ?_
    refine e_plain ?_
    refine e_move rfl rfl ?_
    refine e_assign rfl rfl ?_
    refine e_nil ?_
    refine e_ret ?_
    exact ⟨_, rfl, .tmp rfl⟩
  · intro hc0
    have hc0 := of_decide_eq_false hc0
    rw [ii, ← pkn_pos hm hc0]
    refine e_skip ?_
    refine e_seq ?_
    refine e_plain ?_
    refine e_move rfl rfl ?_
    refine e_assign rfl rfl ?_
    refine e_nil ?_
    refine e_ret ?_
    exact ⟨_, rfl, .tmp rfl⟩

set_option maxHeartbeats 2000000 in
theorem polyKnown_fn (z : Int) (hT : ∀ (G : Mem) (f : Nat → Nat) (v : Value) (l : List Nat), (∀ j, j < 32 → f j < 256) → (∀ b ∈ l, b < 256) → l.length ≤ 140737488351232 → Shows G 1 v l.length (l.map by8) → Fn Try.prog G 17 #[.agg (arr .u8 32 f), v] (.agg (arr .u8 16 (ptg f l)))) : Fn Try.prog G 8 #[.int .i64 z] (.bool true) := by
  have hp := pkn_lt z (show 0 < 8 by decide)
  have hpo := pk_out (pkn z 8) hp
  refine fn1 (n := 19) Try.func8 rfl rfl (by simp) (argE [.int .i64 z] 0) (argE_ok _) ?_
  refine e_seq ?_
  refine e_plain ?_
  refine e_assign rfl rfl ?_
  refine e_nil ?_
  refine e_seq ?_
  refine e_plain ?_
  refine e_build (arr .u8 32 pkk) zer46 und46 siz5 rfl (by kernel_rfl) rfl ?_
  refine e_alloc 0 zer46 rfl fun r1 => ?_
  refine e_storeA (i := 0) siz46 rfl rfl (arr_size _ _ _) arr_one rfl (arr_sz _ _ _ _ _) (.inl rfl) ?_
  refine e_nil ?_
  refine e_seq ?_
  refine e_plainR ⟨[], 1, [33]⟩ ?_
  refine e_loadA (i := 0) und46 rfl siz46 rfl rfl (arr_size _ _ _) rfl ⟨[], trivial⟩ ?_
  refine e_buildSl 1 ((pkm.map by8).toArray) und33 siz5 zer5 (by decide) (by decide) rfl (by kernel_rfl) rfl fun r2 => ?_
  refine e_conv_mark 1 und33 und5 rfl rfl rfl rfl ?_
  refine e_callV [⟨r2, (pkm.map by8).toArray, 5⟩] rfl rfl ent17 ⟨⟨1, rfl⟩, trivial⟩ (hT [⟨r2, (pkm.map by8).toArray, 5⟩] pkk _ pkm pkk_lt pkm_lt pkm_le (shows_new _ _ (by rfl))) rfl rfl rfl ?_
  refine e_alloc 2 zer26 rfl fun r3 => ?_
  refine e_storeA (i := 2) siz26 rfl rfl (arr_size _ _ _) arr_one rfl (arr_sz _ _ _ _ _) (.inl rfl) ?_
  refine e_nil ?_
  refine e_seq ?_
  refine e_plain ?_
  refine e_move rfl rfl ?_
  refine e_call rfl ent19 (picked_fn z 8 (by decide) (by decide)) rfl rfl ?_
  refine e_assign rfl rfl ?_
  refine e_nil ?_
  refine e_seq ?_
  refine e_draw mixed (by kernel_rfl) ?_
  refine e_move rfl rfl ?_
  refine e_index0 und26 siz5 rfl rfl (by omega) rfl ?_
  refine e_load1 (i := 2) und5 rfl rfl rfl (arr_get (by omega)) rfl ⟨[], trivial⟩ ?_
  refine e_as (congrArg by8 hpo) ?_
  refine e_move rfl rfl ?_
  refine e_idxStr (l := [168, 6, 29, 193, 48, 81, 54, 198]) und9 rfl rfl (show pkA[pkn z 8]? = some (pkA.getD (pkn z 8) 0) by rw [List.getD_eq_getElem?_getD, List.getElem?_eq_getElem (show pkn z 8 < pkA.length from hp)]; rfl) (by rw [← hpo]; exact ptg_lt _ _ _) rfl ?_
  refine e_eq rfl rfl rfl ?_
  refine e_as (congrArg Value.bool (decide_eq_true rfl)) ?_
  refine e_assign rfl rfl ?_
  refine e_nil ?_
  refine e_ret ?_
  exact ⟨_, rfl, .tmp rfl⟩

end Go.Proofs.Ytmnmhmpklknleaa
