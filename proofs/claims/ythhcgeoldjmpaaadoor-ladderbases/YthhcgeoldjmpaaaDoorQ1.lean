/-
  Walks, written by a program of ours off the loaded functions.
-/
import Derived.Test.YthhcgeoldjmpaaaDoorR6
import Derived.Test.YthhcgeoldjmpaaaDoorPt2
namespace Go.Proofs.YthhcgeoldjmpaaaDoor
open Go Go.RowKit


theorem ent15 : enters Tryd.prog 15 = true := by kernel_rfl
theorem ent29 : enters Tryd.prog 29 = true := by kernel_rfl
theorem ent30 : enters Tryd.prog 30 = true := by kernel_rfl
theorem ent44 : enters Tryd.prog 44 = true := by kernel_rfl
theorem ent45 : enters Tryd.prog 45 = true := by kernel_rfl
theorem pls43 (w : World) : (((#[.mk "x" 41 0 false "" "signet/signetref" 0, .mk "z" 41 16 false "" "signet/signetref" 128] : Array Field).mapM fun f => do pure (f.offset, ← sizeOf f.type) : Sem (Array (Nat × Nat)))).run Tryd.prog w = .ok #[(0, 16), (16, 16)] w := places_run (l := [(0, 16), (16, 16)]) (by kernel_rfl) w
theorem siz43 : (Tryd.prog.info? 43).map (·.size) = some 32 := by kernel_rfl
theorem und43 : Tryd.prog.underlying 43 = some (.struct #[.mk "x" 41 0 false "" "signet/signetref" 0, .mk "z" 41 16 false "" "signet/signetref" 128]) := by kernel_rfl
theorem zer43 : (Tryd.prog.info? 43).bind (·.zero) = some (.agg (arr .u64 32 fun _ => 0)) := by kernel_rfl

variable {G : Mem}

set_option maxHeartbeats 400000 in
theorem rclamp_fn (f : Nat → Nat) (hf : ∀ j, j < 32 → f j < 256) : Fn Tryd.prog G 7 #[.agg (arr .u8 32 f)] (.agg (arr .u8 32 (clam f))) := by
  have hf0 := hf 0 (by decide)
  refine fn1 (n := 16) Tryd.func7 rfl rfl (by simp) (argE [.agg (arr .u8 32 f)] 0) (argE_ok _) ?_
  refine e_seq ?_
  refine e_plain ?_
  refine e_box 0 rfl rfl fun r1 => ?_
  refine e_alloc 1 zer23 rfl fun r2 => ?_
  refine e_nil ?_
  refine e_seq ?_
  refine e_plain ?_
  refine e_index0 (j := 0) und23 siz5 rfl rfl (by omega) rfl ?_
  refine e_load1 (i := 0) und5 rfl rfl rfl (arr_get (by omega)) rfl ⟨[], trivial⟩ ?_
  refine e_index0 (j := 0) und23 siz5 rfl rfl (by omega) rfl ?_
  refine e_load1 (i := 0) und5 rfl rfl rfl (arr_get (by omega)) rfl ⟨[], trivial⟩ ?_
  refine e_rem_b (q := 8) rfl rfl rfl (by omega) ?_
  refine e_sub_b rfl rfl rfl (by omega) ?_
  refine e_index0 (j := 0) und23 siz5 rfl rfl (by omega) rfl ?_
  refine e_storeN (i := 0) siz5 rfl rfl rfl (by omega) (.inl rfl) ?_
  refine e_nil ?_
  refine e_seq ?_
  refine e_plain ?_
  refine e_index0 (j := 31) und23 siz5 rfl rfl (by omega) rfl ?_
  refine e_load1 (i := 0) und5 rfl rfl rfl (arr_get (by omega)) rfl ⟨[], trivial⟩ ?_
  refine e_rem_b (q := 64) rfl rfl rfl (by omega) ?_
  refine e_add_b (q := 64) rfl rfl rfl  ?_
  refine e_index0 (j := 31) und23 siz5 rfl rfl (by omega) rfl ?_
  refine e_storeN (i := 0) siz5 rfl rfl rfl (by omega) (.inl rfl) ?_
  refine e_nil ?_
  refine e_seq ?_
  refine e_plain ?_
  refine e_loadA (i := 0) und23 rfl siz23 rfl rfl (arr_size _ _ _) rfl ⟨[], trivial⟩ ?_
  refine e_storeA (i := 1) siz23 rfl rfl (arr_size _ _ _) arr_one rfl (arr_sz _ _ _ _ _) (.inl rfl) ?_
  refine e_nil ?_
  refine e_ret ?_
  rw [← clam_ref hf rfl rfl]
  exact ⟨_, rfl, .cell (i := 1) rfl rfl und23 rfl siz23 (arr_size _ _ _)⟩

set_option maxHeartbeats 1000000 in
theorem rdouble_fn (p : Nat × Nat) (h : Lt2 p) : Fn Tryd.prog [⟨0, arr .u64 16 (d16 PP), 41⟩] 30 #[p2v p] (p2v (nDbl p)) := by
  obtain ⟨a, ha⟩ : ∃ a, a = (p.1 + p.2) % PP := ⟨_, rfl⟩
  have haL : a < PP := by rw [ha]; exact Nat.mod_lt _ (by decide)
  obtain ⟨b, hb⟩ : ∃ b, b = (p.1 + (PP - p.2) % PP) % PP := ⟨_, rfl⟩
  have hbL : b < PP := by rw [hb]; exact Nat.mod_lt _ (by decide)
  obtain ⟨s, hs⟩ : ∃ s, s = a * a % PP := ⟨_, rfl⟩
  have hsL : s < PP := by rw [hs]; exact Nat.mod_lt _ (by decide)
  obtain ⟨d, hd⟩ : ∃ d, d = b * b % PP := ⟨_, rfl⟩
  have hdL : d < PP := by rw [hd]; exact Nat.mod_lt _ (by decide)
  obtain ⟨e, he⟩ : ∃ e, e = (s + (PP - d) % PP) % PP := ⟨_, rfl⟩
  have heL : e < PP := by rw [he]; exact Nat.mod_lt _ (by decide)
  have hfin : (s * d % PP, e * ((d + 121666 * e % PP) % PP) % PP) = nDbl p := by rw [he, hs, hd, ha, hb]; rfl
  refine fn1 (n := 40) Tryd.func30 rfl rfl (by simp) (argE [p2v p] 0) (argE_ok _) ?_
  refine e_seq ?_
  refine e_plain ?_
  refine e_box 0 rfl rfl fun r1 => ?_
  refine e_alloc 1 zer43 rfl fun r2 => ?_
  refine e_nil ?_
  refine e_seq ?_
  refine e_draw mixed (by kernel_rfl) ?_
  refine e_fld (0) und43 rfl siz41 rfl rfl rfl ?_
  refine e_loadS (i := 0) und41 rfl siz41 rfl rfl (by omega) rfl ⟨[], trivial⟩ ?_
  refine e_as (p2_0 _) ?_
  refine e_fld (16) und43 rfl siz41 rfl rfl rfl ?_
  refine e_loadS (i := 0) und41 rfl siz41 rfl rfl (by omega) rfl ⟨[], trivial⟩ ?_
  refine e_as (p2_16 _) ?_
  refine e_call rfl ent44 (sum_fn _ _ (lt256 h.1) (lt256 h.2)) rfl rfl ?_
  refine e_as (congrArg dg ha.symm) ?_
  refine e_fld (0) und43 rfl siz41 rfl rfl rfl ?_
  refine e_loadS (i := 0) und41 rfl siz41 rfl rfl (by omega) rfl ⟨[], trivial⟩ ?_
  refine e_as (p2_0 _) ?_
  refine e_fld (16) und43 rfl siz41 rfl rfl rfl ?_
  refine e_loadS (i := 0) und41 rfl siz41 rfl rfl (by omega) rfl ⟨[], trivial⟩ ?_
  refine e_as (p2_16 _) ?_
  refine e_call rfl ent45 (opp_fn _ (Nat.le_of_lt h.2)) rfl rfl ?_
  refine e_call rfl ent44 (sum_fn _ _ (lt256 h.1) (lt256 (Nat.mod_lt _ (by decide)))) rfl rfl ?_
  refine e_as (congrArg dg hb.symm) ?_
  refine e_alloc 2 zer41 rfl fun r3 => ?_
  refine e_alloc 3 zer41 rfl fun r4 => ?_
  refine e_storeA (i := 2) siz41 rfl rfl (arr_size _ _ _) arr_one rfl (arr_sz _ _ _ _ _) (.inl rfl) ?_
  refine e_storeA (i := 3) siz41 rfl rfl (arr_size _ _ _) arr_one rfl (arr_sz _ _ _ _ _) (.inl rfl) ?_
  refine e_nil ?_
  refine e_seq ?_
  refine e_draw mixed (by kernel_rfl) ?_
  refine e_loadA (i := 2) und41 rfl siz41 rfl rfl (arr_size _ _ _) rfl ⟨[], trivial⟩ ?_
  refine e_loadA (i := 2) und41 rfl siz41 rfl rfl (arr_size _ _ _) rfl ⟨[], trivial⟩ ?_
  refine e_call rfl ent20 (prod16_fn _ _ (lt256 haL) (lt256 haL)) rfl rfl ?_
  refine e_as (congrArg dg hs.symm) ?_
  refine e_loadA (i := 3) und41 rfl siz41 rfl rfl (arr_size _ _ _) rfl ⟨[], trivial⟩ ?_
  refine e_loadA (i := 3) und41 rfl siz41 rfl rfl (arr_size _ _ _) rfl ⟨[], trivial⟩ ?_
  refine e_call rfl ent20 (prod16_fn _ _ (lt256 hbL) (lt256 hbL)) rfl rfl ?_
  refine e_as (congrArg dg hd.symm) ?_
  refine e_alloc 4 zer41 rfl fun r5 => ?_
  refine e_alloc 5 zer41 rfl fun r6 => ?_
  refine e_storeA (i := 4) siz41 rfl rfl (arr_size _ _ _) arr_one rfl (arr_sz _ _ _ _ _) (.inl rfl) ?_
  refine e_storeA (i := 5) siz41 rfl rfl (arr_size _ _ _) arr_one rfl (arr_sz _ _ _ _ _) (.inl rfl) ?_
  refine e_nil ?_
  refine e_seq ?_
  refine e_draw mixed (by kernel_rfl) ?_
  refine e_loadA (i := 4) und41 rfl siz41 rfl rfl (arr_size _ _ _) rfl ⟨[], trivial⟩ ?_
  refine e_loadA (i := 5) und41 rfl siz41 rfl rfl (arr_size _ _ _) rfl ⟨[], trivial⟩ ?_
  refine e_call rfl ent45 (opp_fn _ (Nat.le_of_lt hdL)) rfl rfl ?_
  refine e_call rfl ent44 (sum_fn _ _ (lt256 hsL) (lt256 (Nat.mod_lt _ (by decide)))) rfl rfl ?_
  refine e_as (congrArg dg he.symm) ?_
  refine e_alloc 6 zer41 rfl fun r7 => ?_
  refine e_storeA (i := 6) siz41 rfl rfl (arr_size _ _ _) arr_one rfl (arr_sz _ _ _ _ _) (.inl rfl) ?_
  refine e_nil ?_
  refine e_seq ?_
  refine e_draw mixed (by kernel_rfl) ?_
  refine e_loadA (i := 4) und41 rfl siz41 rfl rfl (arr_size _ _ _) rfl ⟨[], trivial⟩ ?_
  refine e_loadA (i := 5) und41 rfl siz41 rfl rfl (arr_size _ _ _) rfl ⟨[], trivial⟩ ?_
  refine e_call rfl ent20 (prod16_fn _ _ (lt256 hsL) (lt256 hdL)) rfl rfl ?_
  refine e_loadA (i := 6) und41 rfl siz41 rfl rfl (arr_size _ _ _) rfl ⟨[], trivial⟩ ?_
  refine e_loadA (i := 5) und41 rfl siz41 rfl rfl (arr_size _ _ _) rfl ⟨[], trivial⟩ ?_
  refine e_build (arr .u64 16 (upd (upd (fun _ => 0) 0 56130) 1 1)) zer41 und41 siz29 rfl (by kernel_rfl) rfl ?_
  refine e_as dg_a24 ?_
  refine e_loadA (i := 6) und41 rfl siz41 rfl rfl (arr_size _ _ _) rfl ⟨[], trivial⟩ ?_
  refine e_call rfl ent20 (prod16_fn _ _ (by decide) (lt256 heL)) rfl rfl ?_
  refine e_call rfl ent44 (sum_fn _ _ (lt256 hdL) (lt256 (Nat.mod_lt _ (by decide)))) rfl rfl ?_
  refine e_call rfl ent20 (prod16_fn _ _ (lt256 heL) (lt256 (Nat.mod_lt _ (by decide)))) rfl rfl ?_
  refine e_buildS _ zer43 und43 pls43 rfl (fill2 _ _) rfl ?_
  refine e_as (congrArg p2v hfin) ?_
  refine e_storeA (i := 1) siz43 rfl rfl (arr_size _ _ _) arr_one rfl (arr_sz _ _ _ _ _) (.inl rfl) ?_
  refine e_nil ?_
  refine e_ret ?_
  exact ⟨_, rfl, .cell (i := 1) rfl rfl und43 rfl siz43 (arr_size _ _ _)⟩

set_option maxHeartbeats 1000000 in
theorem rwith_fn (p q : Nat × Nat) (U : Nat) (h : Lt2 p) (h2 : Lt2 q) (hU : U < PP) : Fn Tryd.prog [⟨0, arr .u64 16 (d16 PP), 41⟩] 29 #[p2v p, p2v q, dg U] (p2v (nWith U p q)) := by
  obtain ⟨a, ha⟩ : ∃ a, a = ((p.1 + (PP - p.2) % PP) % PP) * ((q.1 + q.2) % PP) % PP := ⟨_, rfl⟩
  have haL : a < PP := by rw [ha]; exact Nat.mod_lt _ (by decide)
  obtain ⟨b, hb⟩ : ∃ b, b = ((p.1 + p.2) % PP) * ((q.1 + (PP - q.2) % PP) % PP) % PP := ⟨_, rfl⟩
  have hbL : b < PP := by rw [hb]; exact Nat.mod_lt _ (by decide)
  obtain ⟨s, hs⟩ : ∃ s, s = (a + b) % PP := ⟨_, rfl⟩
  have hsL : s < PP := by rw [hs]; exact Nat.mod_lt _ (by decide)
  obtain ⟨d, hd⟩ : ∃ d, d = (a + (PP - b) % PP) % PP := ⟨_, rfl⟩
  have hdL : d < PP := by rw [hd]; exact Nat.mod_lt _ (by decide)
  have hfin : (s * s % PP, U * (d * d % PP) % PP) = nWith U p q := by rw [hs, hd, ha, hb]; rfl
  refine fn1 (n := 51) Tryd.func29 rfl rfl (by simp) (argE [p2v p, p2v q, dg U] 0) (argE_ok _) ?_
  refine e_seq ?_
  refine e_plain ?_
  refine e_box 0 rfl rfl fun r1 => ?_
  refine e_box 1 rfl rfl fun r2 => ?_
  refine e_box 2 rfl rfl fun r3 => ?_
  refine e_alloc 3 zer43 rfl fun r4 => ?_
  refine e_nil ?_
  refine e_seq ?_
  refine e_draw mixed (by kernel_rfl) ?_
  refine e_fld (0) und43 rfl siz41 rfl rfl rfl ?_
  refine e_loadS (i := 0) und41 rfl siz41 rfl rfl (by omega) rfl ⟨[], trivial⟩ ?_
  refine e_as (p2_0 _) ?_
  refine e_fld (16) und43 rfl siz41 rfl rfl rfl ?_
  refine e_loadS (i := 0) und41 rfl siz41 rfl rfl (by omega) rfl ⟨[], trivial⟩ ?_
  refine e_as (p2_16 _) ?_
  refine e_call rfl ent45 (opp_fn _ (Nat.le_of_lt h.2)) rfl rfl ?_
  refine e_call rfl ent44 (sum_fn _ _ (lt256 h.1) (lt256 (Nat.mod_lt _ (by decide)))) rfl rfl ?_
  refine e_fld (0) und43 rfl siz41 rfl rfl rfl ?_
  refine e_loadS (i := 1) und41 rfl siz41 rfl rfl (by omega) rfl ⟨[], trivial⟩ ?_
  refine e_as (p2_0 _) ?_
  refine e_fld (16) und43 rfl siz41 rfl rfl rfl ?_
  refine e_loadS (i := 1) und41 rfl siz41 rfl rfl (by omega) rfl ⟨[], trivial⟩ ?_
  refine e_as (p2_16 _) ?_
  refine e_call rfl ent44 (sum_fn _ _ (lt256 h2.1) (lt256 h2.2)) rfl rfl ?_
  refine e_call rfl ent20 (prod16_fn _ _ (lt256 (Nat.mod_lt _ (by decide))) (lt256 (Nat.mod_lt _ (by decide)))) rfl rfl ?_
  refine e_as (congrArg dg ha.symm) ?_
  refine e_alloc 4 zer41 rfl fun r5 => ?_
  refine e_storeA (i := 4) siz41 rfl rfl (arr_size _ _ _) arr_one rfl (arr_sz _ _ _ _ _) (.inl rfl) ?_
  refine e_nil ?_
  refine e_seq ?_
  refine e_draw mixed (by kernel_rfl) ?_
  refine e_fld (0) und43 rfl siz41 rfl rfl rfl ?_
  refine e_loadS (i := 0) und41 rfl siz41 rfl rfl (by omega) rfl ⟨[], trivial⟩ ?_
  refine e_as (p2_0 _) ?_
  refine e_fld (16) und43 rfl siz41 rfl rfl rfl ?_
  refine e_loadS (i := 0) und41 rfl siz41 rfl rfl (by omega) rfl ⟨[], trivial⟩ ?_
  refine e_as (p2_16 _) ?_
  refine e_call rfl ent44 (sum_fn _ _ (lt256 h.1) (lt256 h.2)) rfl rfl ?_
  refine e_fld (0) und43 rfl siz41 rfl rfl rfl ?_
  refine e_loadS (i := 1) und41 rfl siz41 rfl rfl (by omega) rfl ⟨[], trivial⟩ ?_
  refine e_as (p2_0 _) ?_
  refine e_fld (16) und43 rfl siz41 rfl rfl rfl ?_
  refine e_loadS (i := 1) und41 rfl siz41 rfl rfl (by omega) rfl ⟨[], trivial⟩ ?_
  refine e_as (p2_16 _) ?_
  refine e_call rfl ent45 (opp_fn _ (Nat.le_of_lt h2.2)) rfl rfl ?_
  refine e_call rfl ent44 (sum_fn _ _ (lt256 h2.1) (lt256 (Nat.mod_lt _ (by decide)))) rfl rfl ?_
  refine e_call rfl ent20 (prod16_fn _ _ (lt256 (Nat.mod_lt _ (by decide))) (lt256 (Nat.mod_lt _ (by decide)))) rfl rfl ?_
  refine e_as (congrArg dg hb.symm) ?_
  refine e_alloc 5 zer41 rfl fun r6 => ?_
  refine e_storeA (i := 5) siz41 rfl rfl (arr_size _ _ _) arr_one rfl (arr_sz _ _ _ _ _) (.inl rfl) ?_
  refine e_nil ?_
  refine e_seq ?_
  refine e_draw mixed (by kernel_rfl) ?_
  refine e_loadA (i := 4) und41 rfl siz41 rfl rfl (arr_size _ _ _) rfl ⟨[], trivial⟩ ?_
  refine e_loadA (i := 5) und41 rfl siz41 rfl rfl (arr_size _ _ _) rfl ⟨[], trivial⟩ ?_
  refine e_call rfl ent44 (sum_fn _ _ (lt256 haL) (lt256 hbL)) rfl rfl ?_
  refine e_as (congrArg dg hs.symm) ?_
  refine e_loadA (i := 4) und41 rfl siz41 rfl rfl (arr_size _ _ _) rfl ⟨[], trivial⟩ ?_
  refine e_loadA (i := 5) und41 rfl siz41 rfl rfl (arr_size _ _ _) rfl ⟨[], trivial⟩ ?_
  refine e_call rfl ent45 (opp_fn _ (Nat.le_of_lt hbL)) rfl rfl ?_
  refine e_call rfl ent44 (sum_fn _ _ (lt256 haL) (lt256 (Nat.mod_lt _ (by decide)))) rfl rfl ?_
  refine e_as (congrArg dg hd.symm) ?_
  refine e_alloc 6 zer41 rfl fun r7 => ?_
  refine e_alloc 7 zer41 rfl fun r8 => ?_
  refine e_storeA (i := 6) siz41 rfl rfl (arr_size _ _ _) arr_one rfl (arr_sz _ _ _ _ _) (.inl rfl) ?_
  refine e_storeA (i := 7) siz41 rfl rfl (arr_size _ _ _) arr_one rfl (arr_sz _ _ _ _ _) (.inl rfl) ?_
  refine e_nil ?_
  refine e_seq ?_
  refine e_draw mixed (by kernel_rfl) ?_
  refine e_loadA (i := 6) und41 rfl siz41 rfl rfl (arr_size _ _ _) rfl ⟨[], trivial⟩ ?_
  refine e_loadA (i := 6) und41 rfl siz41 rfl rfl (arr_size _ _ _) rfl ⟨[], trivial⟩ ?_
  refine e_call rfl ent20 (prod16_fn _ _ (lt256 hsL) (lt256 hsL)) rfl rfl ?_
  refine e_loadA (i := 2) und41 rfl siz41 rfl rfl (arr_size _ _ _) rfl ⟨[], trivial⟩ ?_
  refine e_loadA (i := 7) und41 rfl siz41 rfl rfl (arr_size _ _ _) rfl ⟨[], trivial⟩ ?_
  refine e_loadA (i := 7) und41 rfl siz41 rfl rfl (arr_size _ _ _) rfl ⟨[], trivial⟩ ?_
  refine e_call rfl ent20 (prod16_fn _ _ (lt256 hdL) (lt256 hdL)) rfl rfl ?_
  refine e_call rfl ent20 (prod16_fn _ _ (lt256 hU) (lt256 (Nat.mod_lt _ (by decide)))) rfl rfl ?_
  refine e_buildS _ zer43 und43 pls43 rfl (fill2 _ _) rfl ?_
  refine e_as (congrArg p2v hfin) ?_
  refine e_storeA (i := 3) siz43 rfl rfl (arr_size _ _ _) arr_one rfl (arr_sz _ _ _ _ _) (.inl rfl) ?_
  refine e_nil ?_
  refine e_ret ?_
  exact ⟨_, rfl, .cell (i := 3) rfl rfl und43 rfl siz43 (arr_size _ _ _)⟩

set_option maxHeartbeats 400000 in
theorem often_base (f : Nat → Nat) (U : Nat) : Fn Tryd.prog [⟨0, arr .u64 16 (d16 PP), 41⟩] 15 #[.agg (arr .u8 32 f), ii 255, dg U] (.tuple #[p2v (1, 0), p2v (U, 1)]) := by
  refine fn2 (n := 46) Tryd.func15 rfl rfl (by simp) (argE [.agg (arr .u8 32 f), ii 255, dg U] 0) (argE_ok _) ?_
  refine e_seq ?_
  refine e_plain ?_
  refine e_box 0 rfl rfl fun r1 => ?_
  refine e_box 1 rfl rfl fun r2 => ?_
  refine e_alloc 2 zer43 rfl fun r3 => ?_
  refine e_alloc 3 zer43 rfl fun r4 => ?_
  refine e_nil ?_
  refine e_seq ?_
  refine e_seq ?_
  refine e_plain ?_
  refine e_move rfl rfl ?_
  refine e_eq rfl rfl rfl ?_
  refine e_as (congrArg Value.bool (decide_eq_true rfl)) ?_
  refine e_nil ?_
  refine e_cond rfl ?_ ?_
  · intro hc0
    refine e_seq ?_
    refine e_drawR ⟨[r3, r4], 1⟩ mixed (by kernel_rfl) ?_
    refine e_build (arr .u64 16 (upd (fun _ => 0) 0 1)) zer41 und41 siz29 rfl (by kernel_rfl) rfl ?_
    refine e_as (dg_one 1 (by decide)) ?_
    refine e_buildS _ zer43 und43 pls43 rfl (fill_x _) rfl ?_
    refine e_as p2_one ?_
    refine e_loadA (i := 1) und41 rfl siz41 rfl rfl (arr_size _ _ _) rfl ⟨[2, 3], rfl, rfl, rfl, rfl, trivial⟩ ?_
    refine e_build (arr .u64 16 (upd (fun _ => 0) 0 1)) zer41 und41 siz29 rfl (by kernel_rfl) rfl ?_
    refine e_as (dg_one 1 (by decide)) ?_
    refine e_buildS _ zer43 und43 pls43 rfl (fill2 _ _) rfl ?_
    refine e_storeA (i := 2) siz43 rfl rfl (arr_size _ _ _) arr_one rfl (arr_sz _ _ _ _ _) (.inr (by simp)) ?_
    refine e_storeA (i := 3) siz43 rfl rfl (arr_size _ _ _) arr_one rfl (arr_sz _ _ _ _ _) (.inr (by simp)) ?_
    refine e_nil ?_
    refine e_ret ?_
    exact ⟨_, _, rfl, .cell (i := 2) rfl rfl und43 rfl siz43 (arr_size _ _ _), .cell (i := 3) rfl rfl und43 rfl siz43 (arr_size _ _ _)⟩
  · intro hc0
    cases hc0

set_option maxHeartbeats 400000 in
theorem often_step (f : Nat → Nat) (U i : Nat) (L : (Nat × Nat) × (Nat × Nat)) (hf : ∀ j, j < 32 → f j < 256) (hU : U < PP) (hi : i < 255) (hL : Lt2 L.1 ∧ Lt2 L.2) (ih : Fn Tryd.prog [⟨0, arr .u64 16 (d16 PP), 41⟩] 15 #[.agg (arr .u8 32 f), ii (i + 1), dg U] (.tuple #[p2v L.1, p2v L.2])) : Fn Tryd.prog [⟨0, arr .u64 16 (d16 PP), 41⟩] 15 #[.agg (arr .u8 32 f), ii i, dg U] (.tuple #[p2v (nStep U (vb f 32 / 2 ^ i % 2) L).1, p2v (nStep U (vb f 32 / 2 ^ i % 2) L).2]) := by
  have hbit := vb_bit hf i hi
  refine fn2 (n := 46) Tryd.func15 rfl rfl (by simp) (argE [.agg (arr .u8 32 f), ii i, dg U] 0) (argE_ok _) ?_
  refine e_seq ?_
  refine e_plain ?_
  refine e_box 0 rfl rfl fun r1 => ?_
  refine e_box 1 rfl rfl fun r2 => ?_
  refine e_alloc 2 zer43 rfl fun r3 => ?_
  refine e_alloc 3 zer43 rfl fun r4 => ?_
  refine e_nil ?_
  refine e_seq ?_
  refine e_seq ?_
  refine e_plain ?_
  refine e_move rfl rfl ?_
  refine e_eq rfl rfl rfl ?_
  refine e_as (congrArg Value.bool (decide_eq_false (by omega))) ?_
  refine e_nil ?_
  refine e_cond rfl ?_ ?_
  · intro hc0
    cases hc0
  · intro hc0
    refine e_skip ?_
    refine e_seq ?_
    refine e_plain ?_
    refine e_loadA (i := 0) und23 rfl siz23 rfl rfl (arr_size _ _ _) rfl ⟨[], trivial⟩ ?_
    refine e_move rfl rfl ?_
    refine e_add_i (q := 1) rfl rfl rfl (by omega) ?_
    refine e_loadA (i := 1) und41 rfl siz41 rfl rfl (arr_size _ _ _) rfl ⟨[], trivial⟩ ?_
    refine e_call rfl ent15 ih rfl rfl ?_
    refine e_move rfl rfl ?_
    refine e_extract rfl rfl rfl ?_
    refine e_extract rfl rfl rfl ?_
    refine e_alloc 4 zer43 rfl fun r5 => ?_
    refine e_alloc 5 zer43 rfl fun r6 => ?_
    refine e_storeA (i := 4) siz43 rfl rfl (arr_size _ _ _) arr_one rfl (arr_sz _ _ _ _ _) (.inl rfl) ?_
    refine e_storeA (i := 5) siz43 rfl rfl (arr_size _ _ _) arr_one rfl (arr_sz _ _ _ _ _) (.inl rfl) ?_
    refine e_nil ?_
    refine e_seq ?_
    refine e_seq ?_
    refine e_plain ?_
    refine e_move rfl rfl ?_
    refine e_quo_i (q := 8) rfl rfl rfl (by omega) (by omega) ?_
    refine e_index0 und23 siz5 rfl rfl (by omega) rfl ?_
    refine e_load1 (i := 0) und5 rfl rfl rfl (arr_get (by omega)) rfl ⟨[], trivial⟩ ?_
    refine e_move rfl rfl ?_
    refine e_rem_i (q := 8) rfl rfl rfl (by omega) ?_
    refine e_shr_b rfl rfl rfl (by omega) ?_
    refine e_rem_b (q := 2) rfl rfl rfl (by omega) ?_
    refine e_eq rfl rfl rfl ?_
    refine e_nil ?_
    refine e_cond rfl ?_ ?_
    · intro hc1
      have hc1 := of_decide_eq_true hc1
      rw [nStep_yes (by omega)]
      refine e_seq ?_
      refine e_drawR ⟨[r3, r4], 1⟩ mixed (by kernel_rfl) ?_
      refine e_loadA (i := 4) und43 rfl siz43 rfl rfl (arr_size _ _ _) rfl ⟨[2, 3], rfl, rfl, rfl, rfl, trivial⟩ ?_
      refine e_loadA (i := 5) und43 rfl siz43 rfl rfl (arr_size _ _ _) rfl ⟨[2, 3], rfl, rfl, rfl, rfl, trivial⟩ ?_
      refine e_loadA (i := 1) und41 rfl siz41 rfl rfl (arr_size _ _ _) rfl ⟨[2, 3], rfl, rfl, rfl, rfl, trivial⟩ ?_
      refine e_call rfl ent29 (rwith_fn L.1 L.2 U hL.1 hL.2 hU) rfl rfl ?_
      refine e_loadA (i := 5) und43 rfl siz43 rfl rfl (arr_size _ _ _) rfl ⟨[2, 3], rfl, rfl, rfl, rfl, trivial⟩ ?_
      refine e_call rfl ent30 (rdouble_fn L.2 hL.2) rfl rfl ?_
      refine e_storeA (i := 2) siz43 rfl rfl (arr_size _ _ _) arr_one rfl (arr_sz _ _ _ _ _) (.inr (by simp)) ?_
      refine e_storeA (i := 3) siz43 rfl rfl (arr_size _ _ _) arr_one rfl (arr_sz _ _ _ _ _) (.inr (by simp)) ?_
      refine e_nil ?_
      refine e_ret ?_
      exact ⟨_, _, rfl, .cell (i := 2) rfl rfl und43 rfl siz43 (arr_size _ _ _), .cell (i := 3) rfl rfl und43 rfl siz43 (arr_size _ _ _)⟩
    · intro hc1
      have hc1 := of_decide_eq_false hc1
      rw [nStep_no (by omega)]
      refine e_skip ?_
      refine e_seq ?_
      refine e_drawR ⟨[r3, r4], 1⟩ mixed (by kernel_rfl) ?_
      refine e_loadA (i := 4) und43 rfl siz43 rfl rfl (arr_size _ _ _) rfl ⟨[2, 3], rfl, rfl, rfl, rfl, trivial⟩ ?_
      refine e_call rfl ent30 (rdouble_fn L.1 hL.1) rfl rfl ?_
      refine e_loadA (i := 4) und43 rfl siz43 rfl rfl (arr_size _ _ _) rfl ⟨[2, 3], rfl, rfl, rfl, rfl, trivial⟩ ?_
      refine e_loadA (i := 5) und43 rfl siz43 rfl rfl (arr_size _ _ _) rfl ⟨[2, 3], rfl, rfl, rfl, rfl, trivial⟩ ?_
      refine e_loadA (i := 1) und41 rfl siz41 rfl rfl (arr_size _ _ _) rfl ⟨[2, 3], rfl, rfl, rfl, rfl, trivial⟩ ?_
      refine e_call rfl ent29 (rwith_fn L.1 L.2 U hL.1 hL.2 hU) rfl rfl ?_
      refine e_storeA (i := 2) siz43 rfl rfl (arr_size _ _ _) arr_one rfl (arr_sz _ _ _ _ _) (.inr (by simp)) ?_
      refine e_storeA (i := 3) siz43 rfl rfl (arr_size _ _ _) arr_one rfl (arr_sz _ _ _ _ _) (.inr (by simp)) ?_
      refine e_nil ?_
      refine e_ret ?_
      exact ⟨_, _, rfl, .cell (i := 2) rfl rfl und43 rfl siz43 (arr_size _ _ _), .cell (i := 3) rfl rfl und43 rfl siz43 (arr_size _ _ _)⟩

end Go.Proofs.YthhcgeoldjmpaaaDoor
