/- The second form of the card of signetlaw.PatternParses: for a name of at most 1048576 bytes it returns true, and its argument reads as it did. -/
import Derived.Test.YtejejmhbhegneaaDoorRows
import Derived.Test.YtejejmhbhegneaaDoorTie
import Derived.Test.YtejejmhbhegneaaDoorCards
import Derived.Test.YtejejmhbhegneaaDoorKW7
import Derived.Test.YtejejmhbhegneaaDoorKW8
import Derived.Test.YtejejmhbhegneaaDoorKW4
import Derived.Test.YtejejmhbhegneaaDoorKW2
import Derived.Test.YtejejmhbhegneaaDoorKW3
import Derived.SevenTiedAt
import Derived.LaidMore
import Derived.Lay
import Derived.Stop.Joined
import Derived.Deep.DeepHandedRow
import Derived.Deep.DeepWitnessRowRef
namespace Go.Proofs.YtejejmhbhegneaaDoor
open Go.ChangeShapes Go.WideShapes Go.ChangeAt Go.RowKit

theorem patternParses_own : ownKnob Tryd.prog.godebug = none := by kernel_rfl
theorem patternParses_laid : laidOutB Tryd.prog = true := by kernel_rfl
theorem patternParses_und9 : Tryd.prog.underlying 9 = some (.string) := by kernel_rfl
theorem patternParses_glob {W : World} (h : laidMetH Tryd.prog Rows.patternParsesUptoRow.laid W) : MemR [(⟨1, arr .u8 256 asp, 77⟩ : Blk)] W := by
  have hv := laid_metH (by kernel_rfl) h
  exact (memR_cons (laid_strings_asciiSpace_rin (hv _ (List.mem_of_getElem? (i := 2) rfl))) memR_nil)
theorem pat_szs {b : List Nat} {ps : List Int} (h0 : (pwith b ps).1 = 0) : (wt b ps).length ≤ 9223372036854775807 ∧ (wq b ps 0).length ≤ 9223372036854775807 ∧ (wq b ps 1).length ≤ 9223372036854775807 ∧ ∀ q ∈ wt b ps, q.length ≤ 9223372036854775807 := by
  have hs := pwith_short h0
  have s0 := (short_at (i := 0) hs.1).2
  have s1 := (short_at (i := 1) hs.1).2
  have t0 : (wq b ps 0).length ≤ 8 * ((pwith b ps).2.getD 0 []).length := toks_len _
  have t1 : (wq b ps 1).length ≤ 8 * ((pwith b ps).2.getD 1 []).length := toks_len _
  exact ⟨by simp only [List.length_map, List.length_drop]; omega, by omega, by omega, fun q hq => by have := toks_small hs.1 q hq; omega⟩
theorem patternParses_all {G : Mem} (n : List Nat) (m : Int) (hn8 : ∀ b ∈ n, b < 256) (hz : n.length < 4294967281) : Fn Tryd.prog ((⟨1, arr .u8 256 asp, 77⟩ : Blk) :: (MLB m :: G)) 4 #[sv n] (.bool true) := by
  have hmid : ∀ b ∈ midN n, b < 256 := fun b hb => hn8 b (List.mem_of_mem_drop (List.mem_of_mem_take hb))
  have nil0 : Shows (MLB m :: G) 1 nilS ([] : List Int).length (([] : List Int).map iv) := .inl ⟨rfl, rfl, none, 0, rfl, fun _ => rfl⟩
  cases hb : bad1 n with
  | true => exact patternParses_err n 3 ((dp_bad n m hn8 hz hb).more (fun x hx => List.mem_cons_of_mem _ hx)) (named_bad n m hn8 hz hb)
  | false =>
    cases hi : ixp (midN n) with
    | none =>
      by_cases he : (pwith (midN n) (ci [])).1 = 0
      · have hs := pat_szs he
        exact patternParses_ok n (midN n) _ [] _ _ _ hmid ⟨hs.1, by simp, hs.2.1, hs.2.2.1, hs.2.2.2⟩ ((dp_n_ok n m hn8 hz hb hi he).wide (fun x hx => List.mem_cons_of_mem _ hx)) (named_n_ok n m hn8 hz hb hi he)
      · exact patternParses_err n _ ((dp_n_err n m hn8 hz hb hi _ (dwith_bad (midN n) nilS [] _ hmid nil0 (by simp) rfl he)).more (fun x hx => List.mem_cons_of_mem _ hx)) (named_n_err n m hn8 hz hb hi _ rfl he)
    | some i =>
      have hmp := mods_pieces ((midN n).drop i).length ((midN n).drop i) (Nat.le_refl _)
      cases hm : mods ((midN n).drop i ++ [43]) with
      | none => exact patternParses_err n 3 ((dp_form n m hn8 hz hb i hi (hmp.symm.trans hm)).more (fun x hx => List.mem_cons_of_mem _ hx)) (named_p_form n m hn8 hz i hb hi hm)
      | some ds =>
        have hal := hmp.symm.trans hm
        by_cases he : (pwith ((midN n).take i) (ci ds)).1 = 0
        · have hs := pat_szs he
          have h4 := (pwith_in he).2.1
          exact patternParses_ok n ((midN n).take i) _ ds _ _ _ (fun b hb => hmid b (List.mem_of_mem_take hb)) ⟨hs.1, by simp only [ci, List.length_map] at h4; omega, hs.2.1, hs.2.2.1, hs.2.2.2⟩ ((dp_p_ok n m hn8 hz hb i hi ds hal he).wide (fun x hx => List.mem_cons_of_mem _ hx)) (named_p_ok n m hn8 hz i ds hb hi hm he)
        · by_cases hp : ptext ((midN n).take i) = []
          · have h5 : (pwith ((midN n).take i) (ci ds)).1 = 5 := by rw [pwith, if_pos hp]
            exact patternParses_err n 5 ((dp_p_none n m hn8 hz hb i hi ds hal hp).more (fun x hx => List.mem_cons_of_mem _ hx)) (named_p_err n m hn8 hz i ds hb hi hm _ h5 (by decide))
          · exact patternParses_err n _ ((dp_p_err n m hn8 hz hb i hi ds hal hp _ (by rw [pwith_take5]) he).more (fun x hx => List.mem_cons_of_mem _ hx)) (named_p_err n m hn8 hz i ds hb hi hm _ rfl he)

theorem patternParses_laidm (os : Os) : laidMetH Tryd.prog Rows.patternParsesUptoRow.laid ((World.laidAll Tryd.prog os Rows.patternParsesUptoRow.laid).forCall (fun _ _ => 0) ⟨#[], #[.string ByteArray.empty], []⟩).memory := by
  rw [MakeChecks.laidMetH_plain _ _ _ (by kernel_rfl)]; exact laidMet_laidAll _ (by kernel_rfl) (by kernel_rfl)
set_option maxRecDepth 100000 in
theorem patternParses_lifted (os : Os) (started : os.Started) (H : Type) (enc : TypeId × Value → H) (F : Stop.Interp) :
    ReturnsInHanded {} Tryd.checked os 4 .any ((Rows.OpenSpec.upto Rows.patternParsesSpec).preRow enc Tryd.prog Tryd.f4 Rows.patternParsesUptoRow.domain false Rows.patternParsesUptoRow.laid)
      (((Rows.OpenSpec.upto Rows.patternParsesSpec).at F).post enc Tryd.prog Tryd.f4 false true false false) := by
  refine returnsInHanded_of_row (C := Tryd.checked) (s := Rows.OpenSpec.upto Rows.patternParsesSpec) patternParses_own started (by kernel_rfl) Tryd.func4
    (witness_row_atRef (enc := enc) (C := Tryd.checked) false (World.laidAll Tryd.prog os Rows.patternParsesUptoRow.laid) #[.string ByteArray.empty] (World.laidAll_os _ _ _) (by kernel_rfl) (by kernel_rfl) (by kernel_rfl)
      (OpenSpec.preRow_of_cond 8 (show DataW.whole enc Tryd.prog ((World.laidAll Tryd.prog os Rows.patternParsesUptoRow.laid).forCall (fun _ _ => 0) ⟨#[], #[.string ByteArray.empty], []⟩).memory Tryd.f4.params.toList Rows.patternParsesSpec.vars false (#[.string ByteArray.empty] : Array Value).toList 8 = some ([.lit (.string [])], [], []) by kernel_rfl) (by kernel_rfl) (fun k hk => by cases hk; kernel_rfl) (by kernel_rfl) (patternParses_laidm os))) ?_
  intro W base args ds gs before hval0 hW _ hcond hwt hL hsh9 _
  have hval : ∀ (j : Nat) t v, Tryd.f4.params[j]? = some t → args[j]? = some v → Value.okWide Tryd.prog W .any base t v := hval0
  have hW' := hW
  obtain ⟨p, q, hA0, hV, rfl, hfz, hnd⟩ := hW
  have hA : DataW.TrodAll enc Tryd.prog W 0 (fun _ => true) true Tryd.f4.params.toList args.toList ds p := hA0
  rw [Tryd.params4] at hA hval
  have hplt := DataW.TrodAll.lt hA
  obtain ⟨v0, d0, rfl, rfl, h0⟩ := trodAll_one hA
  obtain ⟨rfl, rfl⟩ := trodVars_none hV
  have hk0 := h0
  obtain ⟨l0, rfl, hl0, hm0⟩ := open_str patternParses_und9 (hval 0 9 v0 rfl rfl) h0
  have hu0 := bulk_str patternParses_und9 hk0 (bulk_of (hcond _ rfl) (j := 0) rfl)
  obtain ⟨m90, hM90⟩ := shape_int (t := 3) (zero := #[.int .i64 0]) hsh9 (g := 2) (by decide +kernel) (by kernel_rfl) rfl (by kernel_rfl) (by kernel_rfl) (by kernel_rfl)
  clear hA0 hval0
  simp only [List.append_nil] at hW'
  refine ((patternParses_all (G := []) l0 m90 hl0 (by omega)) W (memR_app (patternParses_glob hL) (memR_cons hM90 memR_nil))).mono fun e W' ⟨he, hb⟩ => ?_
  subst he
  exact ⟨_, rfl, _, _, _, [], _, [], hW', trodAll_mk1 (shut_bool Tryd.underlying4 _), trodAll_mk1 (Below.trod patternParses_laid (by kernel_rfl) (of_decide_eq_true (by kernel_rfl)) hk0 hb (fun x hx => hplt x (by first | exact absurd hx List.not_mem_nil | simp [hx]))), rfl, hb.frame _, fun h => by cases h⟩

theorem patternParses_holds : Rows.PatternParsesUptoSaid :=
  OpenClaim.holds_of_cond 4 Tryd.f4 rfl rfl rfl rfl rfl rfl rfl ⟨rfl, rfl, rfl, rfl, rfl⟩ rfl rfl rfl rfl rfl (by kernel_rfl) Tryd.func4 (by kernel_rfl)
    (of_decide_eq_true (by kernel_rfl)) (by unfold Func.isWrapper; first | (rw [if_pos (by decide +kernel)]; kernel_rfl) | (rw [if_neg (by decide +kernel)]; exact ⟨rfl, rfl⟩))
    (fun os started H enc _ F => by rw [OpenClaim.pre_eq_preRow]; exact patternParses_lifted os started H enc F)
theorem patternParses_card : Rows.PatternParsesUptoCardSaid :=
  Claim7.holds_tied_plain_at .later [] [.data, .listed, .data, .pinned] true (true, "abcc41a5866173744392233e0a89f17f8a56ebd04b4e5f7859af495e89c627a0") false patternParses_holds (fun _ h => by cases h) (by kernel_rfl) (fun _ h => by cases h) patternParsesUpto_row_tie rfl ⟨rfl, rfl⟩ (by kernel_rfl) rfl
    (fun f fn hf hfn => by
      obtain rfl : f = 4 := Option.some.inj ((show Tryd.prog.funcNamed Tryd.f4.name = some 4 by kernel_rfl).symm.trans hf) |>.symm
      obtain rfl : fn = Tryd.f4 := (Option.some.inj (Tryd.func4.symm.trans hfn)).symm
      exact ⟨by kernel_rfl, fun j t ht => by
        rw [Tryd.params4] at ht
        have hm : t ∈ [9] := by have h9 := Array.mem_of_getElem? ht; simpa using h9
        have hall : ([9].all fun u => !Tryd.prog.wantsStandIn u) = true := by kernel_rfl
        exact (show Tryd.prog.wantsStandIn t = false by simpa using List.all_eq_true.1 hall t hm)⟩)
    (by kernel_rfl)
#print axioms patternParses_card
end Go.Proofs.YtejejmhbhegneaaDoor
