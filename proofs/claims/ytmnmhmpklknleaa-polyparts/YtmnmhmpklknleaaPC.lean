/-
  Walks, written by a program of ours off the loaded functions.
-/
import Derived.Test.YtmnmhmpklknleaaPB
import Derived.Test.YtmnmhmpklknleaaPol7
import Derived.Test.YtmnmhmpklknleaaEnvD
namespace Go.Proofs.Ytmnmhmpklknleaa
open Go Go.RowKit


theorem byt5 : (Try.prog.info? 5).map (·.bytes) = some 1 := by kernel_rfl
theorem ent9 : enters Try.prog 9 = true := by kernel_rfl
theorem ent10 : enters Try.prog 10 = true := by kernel_rfl
theorem ent13 : enters Try.prog 13 = true := by kernel_rfl
theorem ent15 : enters Try.prog 15 = true := by kernel_rfl
theorem siz33 : (Try.prog.info? 33).map (·.size) = some 1 := by kernel_rfl
theorem und44 : Try.prog.underlying 44 = some (.slice 33) := by kernel_rfl
theorem zer22 : (Try.prog.info? 22).bind (·.zero) = some (.agg (arr .u8 32 fun _ => 0)) := by kernel_rfl
theorem zer33 : (Try.prog.info? 33).bind (·.zero) = some (.slice none 0 0) := by kernel_rfl

variable {G : Mem}

set_option maxHeartbeats 4000000 in
theorem polyParts_fn (f : Nat → Nat) (hf : ∀ j, j < 32 → f j < 256) (v : Value) (l0 : List Nat) (zc zm : Int) (hv : Shows G 1 v l0.length (l0.map by8)) (hb : ∀ b ∈ l0, b < 256) (hBg : ∀ (G : Mem) (f : Nat → Nat), (∀ j, j < 32 → f j < 256) → Fn Try.prog G 9 #[.agg (arr .u8 32 f)] (stP f [])) (hAd : ∀ (G : Mem) (f : Nat → Nat) (m : List Nat) (v : Value) (l : List Nat), (∀ j, j < 32 → f j < 256) → (∀ b ∈ m, b < 256) → (∀ b ∈ l, b < 256) → l.length ≤ 140737488351232 → Shows G 1 v l.length (l.map by8) → Fn Try.prog G 13 #[stP f m, v] (.tuple #[stP f (m ++ l), ii 0])) (hCk : ∀ (G : Mem) (f : Nat → Nat) (m : List Nat), (∀ j, j < 32 → f j < 256) → (∀ b ∈ m, b < 256) → Fn Try.prog G 10 #[stP f m] (ii 0)) (hCb : ∀ (G : Mem), Fn Try.prog G 10 #[PV (fun _ => 0) (fun _ => 0) (fun _ => 0) (fun _ => 0) 16] (ii 9)) (hEn : ∀ (G : Mem) (f : Nat → Nat) (m : List Nat), (∀ j, j < 32 → f j < 256) → (∀ b ∈ m, b < 256) → Fn Try.prog G 15 #[stP f m] (.tuple #[.agg (arr .u8 16 (ptg f m)), ii 0])) (hT : ∀ (G : Mem) (f : Nat → Nat) (v : Value) (l : List Nat), (∀ j, j < 32 → f j < 256) → (∀ b ∈ l, b < 256) → l.length ≤ 140737488351232 → Shows G 1 v l.length (l.map by8) → Fn Try.prog G 17 #[.agg (arr .u8 32 f), v] (.agg (arr .u8 16 (ptg f l)))) : Fn Try.prog G 7 #[.agg (arr .u8 32 f), v, .int .i64 zc, .int .i64 zm] (.bool true) := by
  obtain ⟨l, hl⟩ : ∃ l, l = l0.take 200 := ⟨_, rfl⟩
  have hll : l.length ≤ 200 := by rw [hl]; simp; omega
  have hlb : ∀ x ∈ l, x < 256 := fun x hx => hb x (by rw [hl] at hx; exact List.mem_of_mem_take hx)
  have hv1 : Shows G 1 (slPart 1 v 0 (min l0.length 200)) l.length (l.map by8) := hv.cut (by omega) (by omega) (by rw [hl, List.drop_zero, Nat.sub_zero]; rcases Nat.le_total l0.length 200 with h | h; rw [Nat.min_eq_left h, List.take_length, List.take_of_length_le h]; rw [Nat.min_eq_right h])
  obtain ⟨i, hi⟩ : ∃ i, i = pkn zc (l.length + 1) := ⟨_, rfl⟩
  have hi1 : i < l.length + 1 := by rw [hi]; exact pkn_lt zc (by omega)
  obtain ⟨q, hq⟩ : ∃ q, q = pkn zm (l.length - i + 1) := ⟨_, rfl⟩
  have hq1 : q < l.length - i + 1 := by rw [hq]; exact pkn_lt zm (by omega)
  obtain ⟨j, hj⟩ : ∃ j, j = i + q := ⟨_, rfl⟩
  refine fn1 (n := 116) Try.func7 rfl rfl (by simp) (argE [.agg (arr .u8 32 f), v, .int .i64 zc, .int .i64 zm] 0) (argE_ok _) ?_
  refine e_seq ?_
  refine e_plain ?_
  refine e_box 0 rfl rfl fun r1 => ?_
  refine e_assign rfl rfl ?_
  refine e_nil ?_
  refine e_seq ?_
  refine e_plain ?_
  refine e_move rfl rfl ?_
  refine e_move rfl rfl ?_
  refine e_lenV hv und33 rfl rfl rfl ?_
  refine e_min (q := 200) rfl rfl rfl rfl ?_
  refine e_sliceV 0 (min l0.length 200) hv und33 siz5 rfl rfl rfl rfl ⟨_, rfl⟩ (by omega) (by omega) rfl ?_
  refine e_assign rfl rfl ?_
  refine e_nil ?_
  refine e_seq ?_
  refine e_plain ?_
  refine e_move rfl rfl ?_
  refine e_move rfl rfl ?_
  refine e_lenV hv1 und33 rfl rfl rfl ?_
  refine e_add_i (q := 1) rfl rfl rfl (by omega) ?_
  refine e_call rfl ent19 (picked_fn zc (l.length + 1) (by omega) (by omega)) rfl rfl ?_
  refine e_as (congrArg ii hi.symm) ?_
  refine e_assign rfl rfl ?_
  refine e_nil ?_
  refine e_seq ?_
  refine e_plain ?_
  refine e_move rfl rfl ?_
  refine e_move rfl rfl ?_
  refine e_move rfl rfl ?_
  refine e_lenV hv1 und33 rfl rfl rfl ?_
  refine e_move rfl rfl ?_
  refine e_sub_in rfl rfl rfl (by omega) (by omega) ?_
  refine e_add_i (q := 1) rfl rfl rfl (by omega) ?_
  refine e_call rfl ent19 (picked_fn zm (l.length - i + 1) (by omega) (by omega)) rfl rfl ?_
  refine e_as (congrArg ii hq.symm) ?_
  refine e_add_i rfl rfl rfl (by omega) ?_
  refine e_as (congrArg ii hj.symm) ?_
  refine e_assign rfl rfl ?_
  refine e_nil ?_
  refine e_seq ?_
  refine e_plain ?_
  refine e_loadA (i := 0) und22 rfl siz22 rfl rfl (arr_size _ _ _) rfl ⟨[], trivial⟩ ?_
  refine e_call rfl ent9 (hBg G f hf) rfl rfl ?_
  refine e_alloc 1 zer28 rfl fun r2 => ?_
  refine e_storeA (i := 1) siz28 rfl rfl (arrv_size _ _) (cells_one ⟨fun _ => rfl, fun _ => rfl, fun _ => rfl, fun _ => rfl, fun _ => rfl, trivial⟩) rfl cells_sz (.inl rfl) ?_
  refine e_nil ?_
  refine e_seq ?_
  refine e_seq ?_
  refine e_draw mixed (by kernel_rfl) ?_
  refine e_move rfl rfl ?_
  refine e_move rfl rfl ?_
  refine e_sliceV 0 i hv1 und33 siz5 rfl rfl rfl rfl ⟨_, rfl⟩ (by omega) (by omega) rfl ?_
  refine e_move rfl rfl ?_
  refine e_move rfl rfl ?_
  refine e_move rfl rfl ?_
  refine e_sliceV i j hv1 und33 siz5 rfl rfl rfl ⟨_, rfl⟩ ⟨_, rfl⟩ (by omega) (by omega) rfl ?_
  refine e_move rfl rfl ?_
  refine e_move rfl rfl ?_
  refine e_sliceV j l.length hv1 und33 siz5 rfl rfl rfl ⟨_, rfl⟩ rfl (by omega) (by omega) rfl ?_
  refine e_buildSl 2 (arrv 3 (fun x => slPart 1 (slPart 1 v 0 (min l0.length 200)) (cut3 i j l.length x) (cut3 i j l.length (x + 1)))) und44 siz33 zer33 (by decide) (by decide) rfl ((fill3 (by simp) (shows_one (hv1.part (by omega) (by omega))) (shows_one (hv1.part (by omega) (by omega))) (shows_one (hv1.part (by omega) (by omega)))).trans rfl) rfl fun r3 => ?_
  refine e_lenV (arrv_shows r3 3 (fun x => slPart 1 (slPart 1 v 0 (min l0.length 200)) (cut3 i j l.length x) (cut3 i j l.length (x + 1))) 33) und44 rfl rfl rfl ?_
  refine e_move rfl rfl ?_
  refine e_nil ?_
  refine e_block ?_
  refine e_loopK [(1, _), (4, _), (11, _), (51, _), (52, _)] [(0, _), (2, _)] (fun kk E m => ∃ (x : Nat), kk = 3 - x ∧ E = [(53, ii x)] ∧ m = [(1, some ⟨r2, cP f (l.take (cut3 i j l.length x)), 28⟩)] ∧ (x ≤ 3)) [(53, ii 0)] [(1, some ⟨r2, cP f (l.take (cut3 i j l.length 0)), 28⟩)] (3 - 0) ⟨rfl, rfl, rfl, rfl, rfl, rfl, trivial⟩ ⟨rfl, rfl, rfl, trivial⟩ ⟨0, rfl, rfl, rfl, by omega⟩ ?_
  rintro kk E m ⟨x, rfl, rfl, rfl, hf0_0⟩
  simp only [catE, catL]
  have hcl := fun (h : x < 3) => cut3_le (i := i) (j := j) (n := l.length) (x := x) (by omega) (by omega) h
  refine e_seq ?_
  refine e_plain ?_
  refine e_lt rfl rfl rfl ?_
  refine e_nil ?_
  refine e_seq ?_
  refine e_cond rfl ?_ ?_
  · intro hc0
    have hc0 : x < 3 := by have := of_decide_eq_true hc0; omega
    refine e_skip ?_
    refine e_seq ?_
    refine e_block ?_
    refine e_seq ?_
    refine e_plain ?_
    refine e_atV (arrv_shows r3 3 (fun x => slPart 1 (slPart 1 v 0 (min l0.length 200)) (cut3 i j l.length x) (cut3 i j l.length (x + 1))) 33) und44 siz33 rfl rfl (by omega) rfl ?_
    refine e_as (congrArg (slAddr _) (Nat.mul_one _)) ?_
    refine e_loadV (arrv_shows r3 3 (fun x => slPart 1 (slPart 1 v 0 (min l0.length 200)) (cut3 i j l.length x) (cut3 i j l.length (x + 1))) 33) (seen1 2 rfl ⟨[], trivial⟩) und33 rfl rfl (arrv_nth (by omega)) rfl ?_
    refine e_assign rfl rfl ?_
    refine e_nil ?_
    refine e_seq ?_
    refine e_plain ?_
    refine e_loadA (i := 1) und28 rfl siz28 rfl rfl (arrv_size _ _) rfl ⟨[], trivial⟩ ?_
    refine e_move rfl rfl ?_
    refine e_call rfl ent13 (hAd G f (l.take (cut3 i j l.length x)) _ ((l.drop (cut3 i j l.length x)).take ((cut3 i j l.length (x + 1)) - (cut3 i j l.length x))) hf (fun b h => hlb b (List.mem_of_mem_take h)) (fun b h => hlb b (List.mem_of_mem_drop (List.mem_of_mem_take h))) (by rw [List.length_take, List.length_drop]; omega) (Shows.cut (i := (cut3 i j l.length x)) (j := (cut3 i j l.length (x + 1))) hv1 (hcl hc0).1 (hcl hc0).2 rfl)) rfl rfl ?_
    refine e_as (congrArg (fun z => Value.tuple #[stP f z, ii 0]) (take_part l (hcl hc0).1)) ?_
    refine e_move rfl rfl ?_
    refine e_extract rfl rfl rfl ?_
    refine e_extract rfl rfl rfl ?_
    refine e_alloc 3 zer28 rfl fun r4 => ?_
    refine e_storeA (i := 3) siz28 rfl rfl (arrv_size _ _) (cells_one ⟨fun _ => rfl, fun _ => rfl, fun _ => rfl, fun _ => rfl, fun _ => rfl, trivial⟩) rfl cells_sz (.inl rfl) ?_
    refine e_assign rfl rfl ?_
    refine e_nil ?_
    refine e_seq ?_
    refine e_seq ?_
    refine e_plain ?_
    refine e_move rfl rfl ?_
    refine e_ne rfl rfl rfl ?_
    refine e_as (congrArg Value.bool (decide_eq_false (fun h => h rfl))) ?_
    refine e_move rfl rfl ?_
    refine e_yes rfl rfl rfl ?_
    refine e_loadA (i := 3) und28 rfl siz28 rfl rfl (arrv_size _ _) rfl ⟨[], trivial⟩ ?_
    refine e_yes rfl rfl rfl ?_
    refine e_call rfl ent10 (hCk G f (l.take (cut3 i j l.length (x + 1))) hf (fun b h => hlb b (List.mem_of_mem_take h))) rfl rfl ?_
    refine e_yes rfl rfl rfl ?_
    refine e_ne rfl rfl rfl ?_
    refine e_as (congrArg Value.bool (decide_eq_false (fun h => h rfl))) ?_
    refine e_pickF rfl rfl rfl rfl ?_
    refine e_move rfl rfl ?_
    refine e_yes rfl rfl rfl ?_
    refine e_fld (23) und28 rfl siz3 rfl rfl rfl ?_
    refine e_yes rfl rfl rfl ?_
    refine e_ldV1 (i := 3) 4 und3 rfl rfl rfl rfl (by decide) rfl ⟨[], trivial⟩ ?_
    refine e_yes rfl rfl rfl ?_
    refine e_fld (23) und28 rfl siz3 rfl rfl rfl ?_
    refine e_yes rfl rfl rfl ?_
    refine e_ldV1 (i := 1) 4 und3 rfl rfl rfl rfl (by decide) rfl ⟨[], trivial⟩ ?_
    refine e_yes rfl rfl rfl ?_
    refine e_move rfl rfl ?_
    refine e_yes rfl rfl rfl ?_
    refine e_lenV (Shows.cut (i := (cut3 i j l.length x)) (j := (cut3 i j l.length (x + 1))) (l' := ((l.drop (cut3 i j l.length x)).take ((cut3 i j l.length (x + 1)) - (cut3 i j l.length x)))) hv1 (hcl hc0).1 (hcl hc0).2 rfl) und33 rfl rfl rfl ?_
    refine e_yes rfl rfl rfl ?_
    refine e_add_i rfl rfl rfl (by rw [rem16_len, List.length_take, List.length_take, List.length_drop]; omega) ?_
    refine e_yes rfl rfl rfl ?_
    refine e_rem_i (q := 16) rfl rfl rfl (by omega) ?_
    refine e_yes rfl rfl rfl ?_
    refine e_ne rfl rfl rfl ?_
    refine e_as (congrArg Value.bool (decide_eq_false (by have h1 := (hcl hc0).1; have h2 := (hcl hc0).2; rw [rem16_len, rem16_len, List.length_take, List.length_take, List.length_take, List.length_drop]; omega))) ?_
    refine e_pickF rfl rfl rfl rfl ?_
    refine e_nil ?_
    refine e_cond rfl ?_ ?_
    · intro hc1
      cases hc1
    · intro hc1
      refine e_skip ?_
      refine e_plain ?_
      refine e_loadA (i := 3) und28 rfl siz28 rfl rfl (arrv_size _ _) rfl ⟨[], trivial⟩ ?_
      refine e_storeA (i := 1) siz28 rfl rfl (arrv_size _ _) (cells_one ⟨fun _ => rfl, fun _ => rfl, fun _ => rfl, fun _ => rfl, fun _ => rfl, trivial⟩) rfl cells_sz (.inl rfl) ?_
      refine e_nil ?_
      refine e_plain ?_
      refine e_add_i (q := 1) rfl rfl rfl (by omega) ?_
      refine e_move rfl rfl ?_
      refine e_nil ?_
      refine ⟨_, [(53, ii (x + 1))], [(1, some ⟨r2, cP f (l.take (cut3 i j l.length (x + 1))), 28⟩)], ?_, ⟨rfl, rfl, rfl, rfl, rfl, rfl, trivial⟩, ⟨rfl, rfl, rfl, trivial⟩, x + 1, rfl, rfl, rfl, by omega⟩
      omega
  · intro hc0
    have hc0 := of_decide_eq_false hc0
    have hz0 : x = 3 := by omega
    subst hz0
    rw [show l.take (cut3 i j l.length 3) = l from List.take_length]
    refine e_exit ?_
    refine e_seq ?_
    refine e_plain ?_
    refine e_loadA (i := 1) und28 rfl siz28 rfl rfl (arrv_size _ _) rfl ⟨[], trivial⟩ ?_
    refine e_call rfl ent15 (hEn G f l hf hlb) rfl rfl ?_
    refine e_move rfl rfl ?_
    refine e_extract rfl rfl rfl ?_
    refine e_extract rfl rfl rfl ?_
    refine e_alloc 3 zer26 rfl fun r4 => ?_
    refine e_storeA (i := 3) siz26 rfl rfl (arr_size _ _ _) arr_one rfl (arr_sz _ _ _ _ _) (.inl rfl) ?_
    refine e_assign rfl rfl ?_
    refine e_nil ?_
    refine e_seq ?_
    refine e_plain ?_
    refine e_loadA (i := 0) und22 rfl siz22 rfl rfl (arr_size _ _ _) rfl ⟨[], trivial⟩ ?_
    refine e_alloc 4 zer22 rfl fun r5 => ?_
    refine e_storeA (i := 4) siz22 rfl rfl (arr_size _ _ _) arr_one rfl (arr_sz _ _ _ _ _) (.inl rfl) ?_
    refine e_nil ?_
    refine e_seq ?_
    refine e_draw mixed (by kernel_rfl) ?_
    refine e_sliceA 0 16 und22 siz5 rfl rfl rfl rfl ⟨_, rfl⟩ (by omega) (by omega) (by omega) rfl ?_
    refine e_make 5 (l := 16) und33 siz5 byt5 zer5 rfl rfl rfl (by omega) (by omega) rfl fun r6 => ?_
    refine e_copyB (i := 4) und33 siz5 (made_shows _ _ _) (seen1 5 rfl ⟨[], trivial⟩) rfl rfl rfl (by omega) rfl ?_
    refine e_nil ?_
    refine e_seq ?_
    refine e_plain ?_
    refine e_loadA (i := 4) und22 rfl siz22 rfl rfl (arr_size _ _ _) rfl ⟨[], trivial⟩ ?_
    refine e_as (show _ = Value.agg (arr .u8 32 (half0 f)) from rfl) ?_
    refine e_move rfl rfl ?_
    refine e_call rfl ent17 (hT G (half0 f) (slPart 1 v 0 (min l0.length 200)) l (half0_lt hf) hlb (by omega) hv1) rfl rfl ?_
    refine e_alloc 6 zer26 rfl fun r7 => ?_
    refine e_storeA (i := 6) siz26 rfl rfl (arr_size _ _ _) arr_one rfl (arr_sz _ _ _ _ _) (.inl rfl) ?_
    refine e_nil ?_
    refine e_seq ?_
    refine e_draw mixed (by kernel_rfl) ?_
    refine e_move rfl rfl ?_
    refine e_eq rfl rfl rfl ?_
    refine e_as (congrArg Value.bool (decide_eq_true rfl)) ?_
    refine e_move rfl rfl ?_
    refine e_yes rfl rfl rfl ?_
    refine e_loadA (i := 3) und26 rfl siz26 rfl rfl (arr_size _ _ _) rfl ⟨[], trivial⟩ ?_
    refine e_yes rfl rfl rfl ?_
    refine e_loadA (i := 0) und22 rfl siz22 rfl rfl (arr_size _ _ _) rfl ⟨[], trivial⟩ ?_
    refine e_yes rfl rfl rfl ?_
    refine e_move rfl rfl ?_
    refine e_yes rfl rfl rfl ?_
    refine e_call rfl ent17 (hT G f (slPart 1 v 0 (min l0.length 200)) l hf hlb (by omega) hv1) rfl rfl ?_
    refine e_yes rfl rfl rfl ?_
    refine e_eqA und26 und5 siz5 eqg26 rfl rfl rfl ?_
    refine e_as (congrArg Value.bool (allEq_iff.2 (fun _ _ => rfl))) ?_
    refine e_pickT rfl rfl rfl rfl ?_
    refine e_move rfl rfl ?_
    refine e_yes rfl rfl rfl ?_
    refine e_sliceA 0 16 und26 siz5 rfl rfl rfl rfl rfl (by omega) (by omega) (by omega) rfl ?_
    refine e_yes rfl rfl rfl ?_
    refine e_conv_str (i := 6) und33 und5 und9 rfl rfl (by omega) rfl rfl ⟨[], trivial⟩ ?_
    refine e_as ((conv_from (ptg (half0 f) l) 0 16).trans (congrArg sv (ptg_half0 hf l))) ?_
    refine e_yes rfl rfl rfl ?_
    refine e_sliceA 16 32 und22 siz5 rfl rfl rfl ⟨_, rfl⟩ rfl (by omega) (by omega) (by omega) rfl ?_
    refine e_yes rfl rfl rfl ?_
    refine e_conv_str (i := 0) und33 und5 und9 rfl rfl (by omega) rfl rfl ⟨[], trivial⟩ ?_
    refine e_as (conv_from f 16 16) ?_
    refine e_yes rfl rfl rfl ?_
    refine e_eqStr rfl rfl rfl (range_lt (f := fun j => f (16 + j)) (fun j hj => hf _ (by omega))) (range_lt (f := fun j => f (16 + j)) (fun j hj => hf _ (by omega))) ?_
    refine e_as (congrArg Value.bool (decide_eq_true rfl)) ?_
    refine e_pickT rfl rfl rfl rfl ?_
    refine e_move rfl rfl ?_
    refine e_yes rfl rfl rfl ?_
    refine e_buildS (cells 24 [pI .u64 2 (fun _ => 0), pI .u64 2 (fun _ => 0), pI .u64 3 (fun _ => 0), pI .u8 16 (fun _ => 0), pV (.int .i64 16)]) zer28 und28 pls28 rfl rfl rfl ?_
    refine e_yes rfl rfl rfl ?_
    refine e_call rfl ent10 (hCb G) rfl rfl ?_
    refine e_yes rfl rfl rfl ?_
    refine e_eq rfl rfl rfl ?_
    refine e_as (congrArg Value.bool (decide_eq_true rfl)) ?_
    refine e_pickT rfl rfl rfl rfl ?_
    refine e_assign rfl rfl ?_
    refine e_nil ?_
    refine e_ret ?_
    exact ⟨_, rfl, .tmp rfl⟩

end Go.Proofs.Ytmnmhmpklknleaa
