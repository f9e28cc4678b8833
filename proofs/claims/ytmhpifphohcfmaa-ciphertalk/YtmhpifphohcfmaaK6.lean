import Derived.Test.YtmhpifphohcfmaaK5
namespace Go.Proofs.Ytmhpifphohcfmaa
open Go Go.RowKit
variable {G : Mem}
set_option maxHeartbeats 400000 in
theorem sealed_big1 (k nn : Nat → Nat) (va vt : Value) (ad : List Nat) (hva : Sh G va ad) (h : 200 < ad.length) : Fn Try.prog G 25 #[.agg (arr .u8 32 k), .agg (arr .u8 12 nn), va, vt] (.tuple #[nilS, ii 1]) := by
  refine Qf2 Try.func25 ?_
  refine Qs<|Qp<|(Qh 0) fun r1=>(Qh 1) fun r2=>(Qa)<|(Qa)<|Qn<|Qs<|Qs<|Qp<|(Qm)<|(QC hva)<|(QG)<|(Qat)<|(Qm)<|(Qo)<|(Qo)<|(Qo)<|(QT)<|Qn<|(Qct)<|Qs<|Qp<|(Qa)<|(Qa)<|Qn<|Qr ?_
  exact ⟨_, _, rfl, .tmp rfl, .tmp rfl⟩
set_option maxHeartbeats 400000 in
theorem sealed_big2 (k nn : Nat → Nat) (va vt : Value) (ad tx : List Nat) (hva : Sh G va ad) (hvt : Sh G vt tx) (h : ad.length ≤ 200) (h2 : 800 < tx.length) : Fn Try.prog G 25 #[.agg (arr .u8 32 k), .agg (arr .u8 12 nn), va, vt] (.tuple #[nilS, ii 1]) := by
  refine Qf2 Try.func25 ?_
  refine Qs<|Qp<|(Qh 0) fun r1=>(Qh 1) fun r2=>(Qa)<|(Qa)<|Qn<|Qs<|Qs<|Qp<|(Qm)<|(QC hva)<|(QG)<|(Qaf)<|(Qm)<|(Qy)<|(Qm)<|(Qy)<|(QC hvt)<|(Qy)<|(QG)<|(Qat)<|(QF)<|Qn<|(Qct)<|Qs<|Qp<|(Qa)<|(Qa)<|Qn<|Qr ?_
  exact ⟨_, _, rfl, .tmp rfl, .tmp rfl⟩
set_option maxHeartbeats 2000000 in
theorem sealed_ok (k nn : Nat → Nat) (va vt : Value) (ad tx : List Nat) (hk : L8 32 k) (hn : L8 12 nn) (hva : Sh G va ad) (hvt : Sh G vt tx) (hab : (∀ b ∈ ad, b < 256)) (h : ad.length ≤ 200) (h2 : tx.length ≤ 800) : Fx Try.prog G [] 25 #[.agg (arr .u8 32 k), .agg (arr .u8 12 nn), va, vt] (fun v l1 nw => l1 = [] ∧ ∃ v', v = .tuple #[v', ii 0] ∧ OwnS 5 1 v' (sealL k nn ad tx).length ((sealL k nn ad tx).map by8) nw) := by
  have hsl := strl_len k 1 nn tx 0
  have hse := sealL_len k nn ad tx
  refine QfM Try.func25 ?_
  refine Qs<|Qp<|(Qh 0) fun r1=>(Qh 1) fun r2=>(Qa)<|(Qa)<|Qn<|Qs<|Qs<|Qp<|(Qm)<|(QC hva)<|(QG)<|(Qaf)<|(Qm)<|(Qy)<|(Qm)<|(Qy)<|(QC hvt)<|(Qy)<|(QG)<|(Qaf)<|(QF)<|Qn<|(Qcf)<|Qk<|Qs<|QR ⟨[], 4, [], none⟩<|(Qd 0)<|(Qd 1)<|(Qm) ?_
  refine e_callN 2 (fun v => .tuple #[v, ii 0]) rfl rfl (Un 35) seenG (streamed_ok k 1 nn vt tx hvt hk hn (by decide) (by omega) (by omega)) (by simp only [maxLen]; omega) (by rw [List.length_map, strl_len, Nat.mul_one]) rfl rfl fun v2_1 oz2_1 ho2_1 => ?_
  refine (Qm)<|(Qx)<|(Qx)<|(Qa)<|(Qa)<|Qn<|Qs<|(Qq ⟨[], 1, [31], none⟩)<|(Qm) ?_
  refine e_conv_strV (l := (strl k 1 nn tx 0)) (own_bytes ho2_1) (seenM 2 rfl ⟨[], trivial⟩) (Uu 31) (Uu 5) (Uu 9) rfl rfl rfl ?_
  refine (Qd 0)<|(Qd 1)<|(Qm) ?_
  refine e_conv_strV (l := ad) hva seenG (Uu 31) (Uu 5) (Uu 9) rfl rfl rfl ?_
  refine (Qm) ?_
  refine e_conv_strV (l := (strl k 1 nn tx 0)) (own_bytes ho2_1) (seenM 2 rfl ⟨[], trivial⟩) (Uu 31) (Uu 5) (Uu 9) rfl rfl rfl ?_
  refine e_call rfl (Un 34) (tagOf_fn k nn ad (strl k 1 nn tx 0) hk hn hab (strl_lt _ _ _ _ _) (by omega) (by omega)) rfl rfl ?_
  refine e_catS rfl rfl rfl (by rw [tagl_len]; omega) ?_
  refine e_as (show _ = sv (sealL k nn ad tx) from rfl) ?_
  refine e_conv_own 3 (Uu 9) (Uu 31) (Uu 5) rfl (sealL_lt k nn ad tx) (by simp only [maxLen]; omega) rfl rfl fun v2_2 oz2_2 ho2_2 => ?_
  refine (Qa)<|(Qa)<|Qn<|Qr ?_
  exact ⟨_, _, _, _, 3, rfl, .tmp rfl, .tmp rfl, ho2_2, rfl⟩
set_option maxHeartbeats 400000 in
theorem unsealed_big1 (k nn : Nat → Nat) (va vt : Value) (ad : List Nat) (hva : Sh G va ad) (h : 200 < ad.length) : Fn Try.prog G 23 #[.agg (arr .u8 32 k), .agg (arr .u8 12 nn), va, vt] (.tuple #[nilS, ii 1]) := by
  refine Qf2 Try.func23 ?_
  refine Qs<|Qp<|(Qh 0) fun r1=>(Qh 1) fun r2=>(Qa)<|(Qa)<|Qn<|Qs<|Qs<|Qp<|(Qm)<|(QC hva)<|(QG)<|(Qat)<|(Qm)<|(Qo)<|(Qo)<|(Qo)<|(QT)<|Qn<|(Qct)<|Qs<|Qp<|(Qa)<|(Qa)<|Qn<|Qr ?_
  exact ⟨_, _, rfl, .tmp rfl, .tmp rfl⟩
set_option maxHeartbeats 400000 in
theorem unsealed_big2 (k nn : Nat → Nat) (va vt : Value) (ad tx : List Nat) (hva : Sh G va ad) (hvt : Sh G vt tx) (h : ad.length ≤ 200) (h2 : 816 < tx.length) : Fn Try.prog G 23 #[.agg (arr .u8 32 k), .agg (arr .u8 12 nn), va, vt] (.tuple #[nilS, ii 1]) := by
  refine Qf2 Try.func23 ?_
  refine Qs<|Qp<|(Qh 0) fun r1=>(Qh 1) fun r2=>(Qa)<|(Qa)<|Qn<|Qs<|Qs<|Qp<|(Qm)<|(QC hva)<|(QG)<|(Qaf)<|(Qm)<|(Qy)<|(Qm)<|(Qy)<|(QC hvt)<|(Qy)<|(QG)<|(Qat)<|(QF)<|Qn<|(Qct)<|Qs<|Qp<|(Qa)<|(Qa)<|Qn<|Qr ?_
  exact ⟨_, _, rfl, .tmp rfl, .tmp rfl⟩
set_option maxHeartbeats 400000 in
theorem unsealed_short (k nn : Nat → Nat) (va vt : Value) (ad tx : List Nat) (hva : Sh G va ad) (hvt : Sh G vt tx) (h : ad.length ≤ 200) (h2 : tx.length < 16) : Fn Try.prog G 23 #[.agg (arr .u8 32 k), .agg (arr .u8 12 nn), va, vt] (.tuple #[nilS, ii 4]) := by
  refine Qf2 Try.func23 ?_
  refine Qs<|Qp<|(Qh 0) fun r1=>(Qh 1) fun r2=>(Qa)<|(Qa)<|Qn<|Qs<|Qs<|Qp<|(Qm)<|(QC hva)<|(QG)<|(Qaf)<|(Qm)<|(Qy)<|(Qm)<|(Qy)<|(QC hvt)<|(Qy)<|(QG)<|(Qaf)<|(QF)<|Qn<|(Qcf)<|Qk<|Qs<|Qs<|Qp<|(Qm)<|(QC hvt)<|(Ql)<|(Qat)<|Qn<|(Qct)<|Qs<|Qp<|(Qa)<|(Qa)<|Qn<|Qr ?_
  exact ⟨_, _, rfl, .tmp rfl, .tmp rfl⟩
set_option maxHeartbeats 2000000 in
theorem unsealed_auth (k nn : Nat → Nat) (va vt : Value) (ad tx : List Nat) (hk : L8 32 k) (hn : L8 12 nn) (hva : Sh G va ad) (hvt : Sh G vt tx) (hab : (∀ b ∈ ad, b < 256)) (htb : (∀ b ∈ tx, b < 256)) (h : ad.length ≤ 200) (h2 : 16 ≤ tx.length) (h3 : tx.length ≤ 816) (ho : ¬ opensL k nn ad tx) : Fn Try.prog G 23 #[.agg (arr .u8 32 k), .agg (arr .u8 12 nn), va, vt] (.tuple #[nilS, ii 10]) := by
  have hv1 : Shows G 1 (slPart 1 vt 0 (tx.length - 16)) (tx.take (tx.length - 16)).length ((tx.take (tx.length - 16)).map by8) := hvt.cut (by omega) (by omega) (by simp)
  have hv2 : Shows G 1 (slPart 1 vt (tx.length - 16) tx.length) (tx.drop (tx.length - 16)).length ((tx.drop (tx.length - 16)).map by8) := hvt.cut (by omega) (by omega) (by rw [List.take_of_length_le (by simp)])
  refine Qf2 Try.func23 ?_
  refine Qs<|Qp<|(Qh 0) fun r1=>(Qh 1) fun r2=>(Qa)<|(Qa)<|Qn<|Qs<|Qs<|Qp<|(Qm)<|(QC hva)<|(QG)<|(Qaf)<|(Qm)<|(Qy)<|(Qm)<|(Qy)<|(QC hvt)<|(Qy)<|(QG)<|(Qaf)<|(QF)<|Qn<|(Qcf)<|Qk<|Qs<|Qs<|Qp<|(Qm)<|(QC hvt)<|(Ql)<|(Qaf)<|Qn<|(Qcf)<|Qk<|Qs<|Qp<|(Qm)<|(QC hvt) ?_
  refine e_sub_in (q := 16) rfl rfl rfl (by omega) (by omega) ?_
  refine (Qa)<|Qn<|Qs<|Qs<|(Qg)<|(Qd 0)<|(Qd 1)<|(Qm) ?_
  refine e_conv_strV (l := ad) hva seenG (Uu 31) (Uu 5) (Uu 9) rfl rfl rfl ?_
  refine (Qm)<|(Qm) ?_
  refine e_sliceV 0 (tx.length - 16) hvt (Uu 31) (Uz 5) rfl rfl rfl rfl ⟨_, rfl⟩ (by omega) (by omega) rfl ?_
  refine e_conv_strV (l := (tx.take (tx.length - 16))) hv1 seenG (Uu 31) (Uu 5) (Uu 9) rfl rfl rfl ?_
  refine e_call rfl (Un 34) (tagOf_fn k nn ad (tx.take (tx.length - 16)) hk hn hab (fun x hx => htb x (List.mem_of_mem_take hx)) (by omega) (by simp; omega)) rfl rfl ?_
  refine (Qm)<|(Qm) ?_
  refine e_sliceV (tx.length - 16) tx.length hvt (Uu 31) (Uz 5) rfl rfl rfl ⟨_, rfl⟩ rfl (by omega) (by omega) rfl ?_
  refine e_conv_strV (l := (tx.drop (tx.length - 16))) hv2 seenG (Uu 31) (Uu 5) (Uu 9) rfl rfl rfl ?_
  refine e_neStr rfl rfl rfl (tagl_lt _ _ _ _) (fun x hx => htb x (List.mem_of_mem_drop hx)) ?_
  refine e_as (congrArg Value.bool (decide_eq_true ho)) ?_
  refine Qn<|(Qct)<|Qs<|Qp<|(Qa)<|(Qa)<|Qn<|Qr ?_
  exact ⟨_, _, rfl, .tmp rfl, .tmp rfl⟩
set_option maxHeartbeats 2000000 in
theorem unsealed_ok (k nn : Nat → Nat) (va vt : Value) (ad tx : List Nat) (hk : L8 32 k) (hn : L8 12 nn) (hva : Sh G va ad) (hvt : Sh G vt tx) (hab : (∀ b ∈ ad, b < 256)) (htb : (∀ b ∈ tx, b < 256)) (h : ad.length ≤ 200) (h2 : 16 ≤ tx.length) (h3 : tx.length ≤ 816) (ho : opensL k nn ad tx) : Fx Try.prog G [] 23 #[.agg (arr .u8 32 k), .agg (arr .u8 12 nn), va, vt] (fun v l1 nw => l1 = [] ∧ ∃ v', v = .tuple #[v', ii 0] ∧ OwnS 5 1 v' (openL k nn tx).length ((openL k nn tx).map by8) nw) := by
  have hv1 : Shows G 1 (slPart 1 vt 0 (tx.length - 16)) (tx.take (tx.length - 16)).length ((tx.take (tx.length - 16)).map by8) := hvt.cut (by omega) (by omega) (by simp)
  have hv2 : Shows G 1 (slPart 1 vt (tx.length - 16) tx.length) (tx.drop (tx.length - 16)).length ((tx.drop (tx.length - 16)).map by8) := hvt.cut (by omega) (by omega) (by rw [List.take_of_length_le (by simp)])
  have htl : (tx.take (tx.length - 16)).length = tx.length - 16 := by simp
  have hol := openL_len k nn tx
  refine QfM Try.func23 ?_
  refine Qs<|Qp<|(Qh 0) fun r1=>(Qh 1) fun r2=>(Qa)<|(Qa)<|Qn<|Qs<|Qs<|Qp<|(Qm)<|(QC hva)<|(QG)<|(Qaf)<|(Qm)<|(Qy)<|(Qm)<|(Qy)<|(QC hvt)<|(Qy)<|(QG)<|(Qaf)<|(QF)<|Qn<|(Qcf)<|Qk<|Qs<|Qs<|Qp<|(Qm)<|(QC hvt)<|(Ql)<|(Qaf)<|Qn<|(Qcf)<|Qk<|Qs<|Qp<|(Qm)<|(QC hvt) ?_
  refine e_sub_in (q := 16) rfl rfl rfl (by omega) (by omega) ?_
  refine (Qa)<|Qn<|Qs<|Qs<|(Qg)<|(Qd 0)<|(Qd 1)<|(Qm) ?_
  refine e_conv_strV (l := ad) hva seenG (Uu 31) (Uu 5) (Uu 9) rfl rfl rfl ?_
  refine (Qm)<|(Qm) ?_
  refine e_sliceV 0 (tx.length - 16) hvt (Uu 31) (Uz 5) rfl rfl rfl rfl ⟨_, rfl⟩ (by omega) (by omega) rfl ?_
  refine e_conv_strV (l := (tx.take (tx.length - 16))) hv1 seenG (Uu 31) (Uu 5) (Uu 9) rfl rfl rfl ?_
  refine e_call rfl (Un 34) (tagOf_fn k nn ad (tx.take (tx.length - 16)) hk hn hab (fun x hx => htb x (List.mem_of_mem_take hx)) (by omega) (by simp; omega)) rfl rfl ?_
  refine (Qm)<|(Qm) ?_
  refine e_sliceV (tx.length - 16) tx.length hvt (Uu 31) (Uz 5) rfl rfl rfl ⟨_, rfl⟩ rfl (by omega) (by omega) rfl ?_
  refine e_conv_strV (l := (tx.drop (tx.length - 16))) hv2 seenG (Uu 31) (Uu 5) (Uu 9) rfl rfl rfl ?_
  refine e_neStr rfl rfl rfl (tagl_lt _ _ _ _) (fun x hx => htb x (List.mem_of_mem_drop hx)) ?_
  refine e_as (congrArg Value.bool (decide_eq_false (fun h => h ho))) ?_
  refine Qn<|(Qcf)<|Qk<|Qs<|(Qq ⟨[], 4, [], none⟩)<|(Qd 0)<|(Qd 1)<|(Qm)<|(Qm) ?_
  refine e_sliceV 0 (tx.length - 16) hvt (Uu 31) (Uz 5) rfl rfl rfl rfl ⟨_, rfl⟩ (by omega) (by omega) rfl ?_
  refine e_callN 2 (fun v => .tuple #[v, ii 0]) rfl rfl (Un 35) seenG (streamed_ok k 1 nn _ (tx.take (tx.length - 16)) hv1 hk hn (by decide) (by omega) (by omega)) (by simp only [maxLen]; omega) (by rw [List.length_map, strl_len, Nat.mul_one]) rfl rfl fun v4_1 oz4_1 ho4_1 => ?_
  refine (Qx)<|(Qx)<|(Qa)<|(Qa)<|Qn<|Qr ?_
  exact ⟨_, _, _, _, 2, rfl, .tmp rfl, .tmp rfl, (own_fix ho4_1 (by rw [htl, hol]; omega) rfl), rfl⟩
end Go.Proofs.Ytmhpifphohcfmaa
namespace Go.Proofs.Ytmhpifphohcfmaa
open Go Go.RowKit
theorem eqg23 : Try.prog.eqGuardType Try.prog.depth 23 = false := by kernel_rfl
variable {G : Mem}
set_option maxHeartbeats 400000 in
theorem key_fn (l : List Nat) (hl : ∀ b ∈ l, b < 256) (hn : l.length = 32) : Fn Try.prog G 29 #[sv l] (.agg (arr .u8 32 (fun j => l.getD j 0))) := by
  refine Qf1 Try.func29 ?_
  refine Qs<|Qp<|(QH 0) fun r1=>Qn<|Qs<|Qp<|(QH 1) fun r2=>Qn<|Qs<|Qp ?_
  refine e_sliceA 0 32 (Uu 23) (Uz 5) rfl rfl rfl rfl rfl (by omega) (by omega) (by omega) rfl ?_
  refine (Qm) ?_
  refine e_copyStr (i := 1) (Uu 31) (Uz 5) rfl rfl hl rfl (by omega) rfl ?_
  refine Qn<|Qs<|Qp<|(Qd 1) ?_
  refine e_as (congrArg Value.agg (arr_congr (fun j hj => if_pos (by omega)))) ?_
  refine (Qt 0)<|Qn<|Qr ?_
  exact ⟨_, rfl, .cell (i := 0) rfl rfl (Uu 23) rfl (Uz 23) (arr_size _ _ _)⟩
set_option maxHeartbeats 400000 in
theorem nonceOf_fn (n : Nat) (hn : n < 18446744073709551616) : Fn Try.prog G 24 #[u n] (.agg (arr .u8 12 (nonU n))) := by
  refine Qf1 Try.func24 ?_
  refine Qs<|Qp<|(QH 0) fun r1=>Qn<|Qs<|Qp<|(QH 1) fun r2=>Qn<|Qs<|(Qg) ?_
  refine e_sliceA 4 12 (Uu 51) (Uz 5) rfl rfl rfl ⟨_, rfl⟩ rfl (by omega) (by omega) (by omega) rfl ?_
  refine (Qm) ?_
  refine e_call rfl (Un 36) (low_fn n 8 hn (by decide)) rfl rfl ?_
  refine e_copyStr (i := 1) (Uu 31) (Uz 5) rfl rfl (lowl_lt _ _) rfl (by omega) rfl ?_
  refine Qn<|Qs<|Qp<|(Qd 1) ?_
  refine e_as (congrArg Value.agg (arr_congr (nonU_copy n))) ?_
  refine (Qt 0)<|Qn<|Qr ?_
  exact ⟨_, rfl, .cell (i := 0) rfl rfl (Uu 51) rfl (Uz 51) (arr_size _ _ _)⟩
set_option maxHeartbeats 2000000 in
theorem cfault_fn (has : Bool) (k : Nat → Nat) (n : Nat) : Fn Try.prog G 11 #[CV has k n] (ii (if okC has k n = true then 0 else 9)) := by
  refine Qf1 Try.func11 ?_
  refine Qs<|Qp<|(Qh 0) fun r1=>(Qa)<|Qn<|Qs<|Qs ?_
  rcases ccases has k n with ⟨hk0, hko⟩ | ⟨hk0, hk1, hko⟩ | ⟨hk0, hk1, hk2, hko⟩ | ⟨hk0, hk1, hk2, hko⟩
  · skip
    refine Qp<|(Qf 0)<|(QV 0 0)<|(Q0) ?_
    refine e_as (congrArg (fun z => Value.bool (!z)) hk0) ?_
    refine (Qm)<|(Qo)<|(Qo)<|(Qo)<|(Qo)<|(Qw)<|(Qw)<|(Qw)<|(Qw)<|(Qo)<|(QF)<|Qn ?_
    refine e_cond rfl ?_ ?_
    · intro hc0
      exact absurd hc0 (by decide)
    · intro hc0
      refine Qk<|Qs<|Qp<|(Qa)<|Qn<|Qr ?_
      rw [hko]
      exact ⟨_, rfl, .tmp rfl⟩
  · skip
    refine Qp<|(Qf 0)<|(QV 0 0)<|(Q0) ?_
    refine e_as (congrArg (fun z => Value.bool (!z)) hk0) ?_
    refine (Qm)<|(Qy)<|(Qf 33)<|(Qy)<|(QV 2 0)<|(Qy)<|(QN)<|(Qat)<|(Qy)<|(Qm)<|(Qo)<|(Qo)<|(Qo)<|(Qo)<|(Qy)<|(QT)<|(QT)<|Qn ?_
    refine e_cond rfl ?_ ?_
    · intro hc0
      refine Qs<|Qp<|(Qa)<|Qn<|Qr ?_
      rw [hko]
      exact ⟨_, rfl, .tmp rfl⟩
    · intro hc0
      exact absurd hc0 (by decide)
  · skip
    refine Qp<|(Qf 0)<|(QV 0 0)<|(Q0) ?_
    refine e_as (congrArg (fun z => Value.bool (!z)) hk0) ?_
    refine (Qm)<|(Qy)<|(Qf 33)<|(Qy)<|(QV 2 0)<|(Qy)<|(QN)<|(Qaf)<|(Qy)<|(Qm)<|(Qy)<|(Qf 1)<|(Qy)<|(Qv 1 0)<|(Qy) ?_
    refine e_build0 (Ub 23) (Uu 23) sis5 rfl ?_
    refine (Qy) ?_
    refine e_neA (Uu 23) (Uu 5) (Uz 5) eqg23 rfl rfl rfl ?_
    refine e_as (congrArg (fun z => Value.bool (!z)) hk2) ?_
    refine (Qy)<|(QF)<|(QT)<|Qn ?_
    refine e_cond rfl ?_ ?_
    · intro hc0
      refine Qs<|Qp<|(Qa)<|Qn<|Qr ?_
      rw [hko]
      exact ⟨_, rfl, .tmp rfl⟩
    · intro hc0
      exact absurd hc0 (by decide)
  · skip
    refine Qp<|(Qf 0)<|(QV 0 0)<|(Q0) ?_
    refine e_as (congrArg (fun z => Value.bool (!z)) hk0) ?_
    refine (Qm)<|(Qy)<|(Qf 33)<|(Qy)<|(QV 2 0)<|(Qy)<|(QN)<|(Qaf)<|(Qy)<|(Qm)<|(Qy)<|(Qf 1)<|(Qy)<|(Qv 1 0)<|(Qy) ?_
    refine e_build0 (Ub 23) (Uu 23) sis5 rfl ?_
    refine (Qy) ?_
    refine e_neA (Uu 23) (Uu 5) (Uz 5) eqg23 rfl rfl rfl ?_
    refine e_as (congrArg (fun z => Value.bool (!z)) hk2) ?_
    refine (Qy)<|(QF)<|(QT)<|Qn ?_
    refine e_cond rfl ?_ ?_
    · intro hc0
      exact absurd hc0 (by decide)
    · intro hc0
      refine Qk<|Qs<|Qp<|(Qa)<|Qn<|Qr ?_
      rw [hko]
      exact ⟨_, rfl, .tmp rfl⟩
end Go.Proofs.Ytmhpifphohcfmaa
namespace Go.Proofs.Ytmhpifphohcfmaa
open Go Go.RowKit
theorem pls26 (w : World) : (((#[.mk "Has" 4 0 false "" "" 0, .mk "Key" 23 1 false "" "" 1, .mk "N" 24 33 false "" "" 40] : Array Field).mapM fun f => do pure (f.offset, ← sizeOf f.type) : Sem (Array (Nat × Nat)))).run Try.prog w = .ok #[(0, 1), (1, 32), (33, 1)] w := places_run (l := [(0, 1), (1, 32), (33, 1)]) (by kernel_rfl) w
variable {G : Mem}
set_option maxHeartbeats 2000000 in
theorem used_bad (o has : Bool) (k : Nat → Nat) (n : Nat) (va vt : Value) (hok : okC has k n = false) : Fn Try.prog G 13 #[.bool o, CV has k n, va, vt] (.tuple #[CZ, nilS, ii 9]) := by
  refine Qf3 Try.func13 ?_
  refine Qs<|Qp<|(Qh 0) fun r1=>(QH 1) fun r2=>(Qa)<|(Qa)<|Qn<|Qs<|Qs<|Qp<|(QD 0) ?_
  refine e_call rfl (Un 11) (cfault_fn has k n) rfl rfl ?_
  refine e_as (congrArg ii (show (if okC has k n = true then 0 else 9) = 9 by rw [hok]; rfl)) ?_
  refine (Qa)<|Qn<|Qs<|Qp<|(Qm)<|(QN)<|Qn ?_
  refine e_cond rfl ?_ ?_
  · intro hc0
    refine Qs<|Qp ?_
    refine e_buildS (cells 34 [pV (.bool false), pI .u8 32 (fun _ => 0), pV (.int .u64 0)]) (Ub 26) (Uu 26) pls26 rfl (by kernel_rfl) rfl ?_
    refine (Qm) ?_
    refine e_storeA (i := 1) (Uz 26) rfl rfl (arrv_size _ _) (cells_one ⟨fun _ => rfl, fun _ => rfl, fun _ => rfl, trivial⟩) rfl cells_sz (.inl rfl) ?_
    refine (Qa)<|(Qa)<|Qn<|Qr ?_
    exact ⟨_, _, _, rfl, .cell (i := 1) rfl rfl (Uu 26) rfl (Uz 26) (arrv_size _ _), .tmp rfl, .tmp rfl⟩
  · intro hc0
    exact absurd hc0 (by decide)
set_option maxHeartbeats 2000000 in
theorem used_pbig (o : Bool) (k : Nat → Nat) (n : Nat) (va vt : Value) (tx : List Nat) (hvt : Sh G vt tx) (hok : okC false k n = true) (hl : 800 < tx.length) : Fn Try.prog G 13 #[.bool o, CV false k n, va, vt] (.tuple #[CZ, nilS, ii 1]) := by
  refine Qf3 Try.func13 ?_
  refine Qs<|Qp<|(Qh 0) fun r1=>(QH 1) fun r2=>(Qa)<|(Qa)<|Qn<|Qs<|Qs<|Qp<|(QD 0) ?_
  refine e_call rfl (Un 11) (cfault_fn false k n) rfl rfl ?_
  refine e_as (congrArg ii (show (if okC false k n = true then 0 else 9) = 0 by rw [hok]; rfl)) ?_
  refine (Qa)<|Qn<|Qs<|Qp<|(Qm)<|(QN)<|Qn ?_
  refine e_cond rfl ?_ ?_
  · intro hc0
    exact absurd hc0 (by decide)
  · intro hc0
    refine Qk<|Qs<|Qs<|Qp<|(Qf 0)<|(QV 0 0)<|(Q0)<|Qn ?_
    refine e_cond rfl ?_ ?_
    · intro hc1
      refine Qs<|Qs<|Qp<|(Qm)<|(QC hvt)<|(QG)<|(Qat)<|Qn<|(Qct)<|Qs<|Qp ?_
      refine e_buildS (cells 34 [pV (.bool false), pI .u8 32 (fun _ => 0), pV (.int .u64 0)]) (Ub 26) (Uu 26) pls26 rfl (by kernel_rfl) rfl ?_
      refine e_storeA (i := 1) (Uz 26) rfl rfl (arrv_size _ _) (cells_one ⟨fun _ => rfl, fun _ => rfl, fun _ => rfl, trivial⟩) rfl cells_sz (.inl rfl) ?_
      refine (Qa)<|(Qa)<|Qn<|Qr ?_
      exact ⟨_, _, _, rfl, .cell (i := 1) rfl rfl (Uu 26) rfl (Uz 26) (arrv_size _ _), .tmp rfl, .tmp rfl⟩
    · intro hc1
      exact absurd hc1 (by decide)
set_option maxHeartbeats 2000000 in
theorem used_plain (o : Bool) (k : Nat → Nat) (n : Nat) (va vt : Value) (tx : List Nat) (hvt : Sh G vt tx) (hok : okC false k n = true) (hl : tx.length ≤ 800) : Fn Try.prog G 13 #[.bool o, CV false k n, va, vt] (.tuple #[CV false k n, vt, ii 0]) := by
  refine Qf3 Try.func13 ?_
  refine Qs<|Qp<|(Qh 0) fun r1=>(QH 1) fun r2=>(Qa)<|(Qa)<|Qn<|Qs<|Qs<|Qp<|(QD 0) ?_
  refine e_call rfl (Un 11) (cfault_fn false k n) rfl rfl ?_
  refine e_as (congrArg ii (show (if okC false k n = true then 0 else 9) = 0 by rw [hok]; rfl)) ?_
  refine (Qa)<|Qn<|Qs<|Qp<|(Qm)<|(QN)<|Qn ?_
  refine e_cond rfl ?_ ?_
  · intro hc0
    exact absurd hc0 (by decide)
  · intro hc0
    refine Qk<|Qs<|Qs<|Qp<|(Qf 0)<|(QV 0 0)<|(Q0)<|Qn ?_
    refine e_cond rfl ?_ ?_
    · intro hc1
      refine Qs<|Qs<|Qp<|(Qm)<|(QC hvt)<|(QG)<|(Qaf)<|Qn<|(Qcf)<|Qk<|Qs<|Qp<|(QD 0)<|(Qm) ?_
      refine e_storeA (i := 1) (Uz 26) rfl rfl (arrv_size _ _) (cells_one ⟨fun _ => rfl, fun _ => rfl, fun _ => rfl, trivial⟩) rfl cells_sz (.inl rfl) ?_
      refine (Qa)<|(Qa)<|Qn<|Qr ?_
      exact ⟨_, _, _, rfl, .cell (i := 1) rfl rfl (Uu 26) rfl (Uz 26) (arrv_size _ _), .tmp rfl, .tmp rfl⟩
    · intro hc1
      exact absurd hc1 (by decide)
set_option maxHeartbeats 2000000 in
theorem used_over (o : Bool) (k : Nat → Nat) (n : Nat) (va vt : Value) (hn : n = 18446744073709551615) : Fn Try.prog G 13 #[.bool o, CV true k n, va, vt] (.tuple #[CZ, nilS, ii 11]) := by
  have hok : okC true k n = true := rfl
  refine Qf3 Try.func13 ?_
  refine Qs<|Qp<|(Qh 0) fun r1=>(QH 1) fun r2=>(Qa)<|(Qa)<|Qn<|Qs<|Qs<|Qp<|(QD 0) ?_
  refine e_call rfl (Un 11) (cfault_fn true k n) rfl rfl ?_
  refine e_as (congrArg ii (show (if okC true k n = true then 0 else 9) = 0 by rw [hok]; rfl)) ?_
  refine (Qa)<|Qn<|Qs<|Qp<|(Qm)<|(QN)<|Qn ?_
  refine e_cond rfl ?_ ?_
  · intro hc0
    exact absurd hc0 (by decide)
  · intro hc0
    refine Qk<|Qs<|Qs<|Qp<|(Qf 0)<|(QV 0 0)<|(Q0)<|Qn ?_
    refine e_cond rfl ?_ ?_
    · intro hc1
      exact absurd hc1 (by decide)
    · intro hc1
      refine Qk<|Qs<|Qs<|Qp<|(Qf 33)<|(QV 2 0) ?_
      refine e_add_u (q := 1) rfl rfl rfl  ?_
      refine (Qc) ?_
      refine e_as (congrArg Value.bool (decide_eq_true (by rw [hn]; decide))) ?_
      refine Qn ?_
      refine e_cond rfl ?_ ?_
      · intro hc2
        refine Qs<|Qp ?_
        refine e_buildS (cells 34 [pV (.bool false), pI .u8 32 (fun _ => 0), pV (.int .u64 0)]) (Ub 26) (Uu 26) pls26 rfl (by kernel_rfl) rfl ?_
        refine e_storeA (i := 1) (Uz 26) rfl rfl (arrv_size _ _) (cells_one ⟨fun _ => rfl, fun _ => rfl, fun _ => rfl, trivial⟩) rfl cells_sz (.inl rfl) ?_
        refine (Qa)<|(Qa)<|Qn<|Qr ?_
        exact ⟨_, _, _, rfl, .cell (i := 1) rfl rfl (Uu 26) rfl (Uz 26) (arrv_size _ _), .tmp rfl, .tmp rfl⟩
      · intro hc2
        exact absurd hc2 (by decide)
set_option maxHeartbeats 2000000 in
theorem used_err_true (k : Nat → Nat) (n : Nat) (va vt : Value) (hn : n < 18446744073709551615) (e : Nat) (he : e ≠ 0) (hE : Fn Try.prog G 23 #[.agg (arr .u8 32 k), .agg (arr .u8 12 (nonU n)), va, vt] (.tuple #[nilS, ii e])) : Fn Try.prog G 13 #[.bool true, CV true k n, va, vt] (.tuple #[CZ, nilS, ii e]) := by
  have hok : okC true k n = true := rfl
  refine Qf3 Try.func13 ?_
  refine Qs<|Qp<|(Qh 0) fun r1=>(QH 1) fun r2=>(Qa)<|(Qa)<|Qn<|Qs<|Qs<|Qp<|(QD 0) ?_
  refine e_call rfl (Un 11) (cfault_fn true k n) rfl rfl ?_
  refine e_as (congrArg ii (show (if okC true k n = true then 0 else 9) = 0 by rw [hok]; rfl)) ?_
  refine (Qa)<|Qn<|Qs<|Qp<|(Qm)<|(QN)<|Qn ?_
  refine e_cond rfl ?_ ?_
  · intro hc0
    exact absurd hc0 (by decide)
  · intro hc0
    refine Qk<|Qs<|Qs<|Qp<|(Qf 0)<|(QV 0 0)<|(Q0)<|Qn ?_
    refine e_cond rfl ?_ ?_
    · intro hc1
      exact absurd hc1 (by decide)
    · intro hc1
      refine Qk<|Qs<|Qs<|Qp<|(Qf 33)<|(QV 2 0) ?_
      refine e_add_u (q := 1) rfl rfl rfl  ?_
      refine e_as (congrArg u (Nat.mod_eq_of_lt (show n + 1 < 18446744073709551616 by omega))) ?_
      refine (Qc)<|(Qaf)<|Qn ?_
      refine e_cond rfl ?_ ?_
      · intro hc2
        exact absurd hc2 (by decide)
      · intro hc2
        refine Qk<|Qs<|Qp<|(Qa)<|Qn<|Qs<|Qp<|(Qa)<|Qn<|Qs<|Qs<|Qp<|(Qm)<|Qn ?_
        refine e_cond rfl ?_ ?_
        · intro hc3
          refine (Qg)<|(Qf 1)<|(Qv 1 0)<|(Qf 33)<|(QV 2 0) ?_
          refine e_call rfl (Un 24) (nonceOf_fn n (by omega)) rfl rfl ?_
          refine (Qm)<|(Qm) ?_
          refine e_call rfl (Un 23) hE rfl rfl ?_
          refine (Qm)<|(Qx)<|(Qx)<|(Qa)<|(Qa)<|Qn<|Qs<|Qs<|Qp<|(Qm)<|(QN)<|(Qat)<|Qn ?_
          refine e_cond rfl ?_ ?_
          · intro hc4
            refine Qs<|Qp ?_
            refine e_buildS (cells 34 [pV (.bool false), pI .u8 32 (fun _ => 0), pV (.int .u64 0)]) (Ub 26) (Uu 26) pls26 rfl (by kernel_rfl) rfl ?_
            refine (Qm) ?_
            refine e_storeA (i := 1) (Uz 26) rfl rfl (arrv_size _ _) (cells_one ⟨fun _ => rfl, fun _ => rfl, fun _ => rfl, trivial⟩) rfl cells_sz (.inl rfl) ?_
            refine (Qa)<|(Qa)<|Qn<|Qr ?_
            exact ⟨_, _, _, rfl, .cell (i := 1) rfl rfl (Uu 26) rfl (Uz 26) (arrv_size _ _), .tmp rfl, .tmp rfl⟩
          · intro hc4
            exact absurd hc4 (by decide)
        · intro hc3
          exact absurd hc3 (by decide)
set_option maxHeartbeats 2000000 in
theorem used_err_false (k : Nat → Nat) (n : Nat) (va vt : Value) (hn : n < 18446744073709551615) (e : Nat) (he : e ≠ 0) (hE : Fn Try.prog G 25 #[.agg (arr .u8 32 k), .agg (arr .u8 12 (nonU n)), va, vt] (.tuple #[nilS, ii e])) : Fn Try.prog G 13 #[.bool false, CV true k n, va, vt] (.tuple #[CZ, nilS, ii e]) := by
  have hok : okC true k n = true := rfl
  refine Qf3 Try.func13 ?_
  refine Qs<|Qp<|(Qh 0) fun r1=>(QH 1) fun r2=>(Qa)<|(Qa)<|Qn<|Qs<|Qs<|Qp<|(QD 0) ?_
  refine e_call rfl (Un 11) (cfault_fn true k n) rfl rfl ?_
  refine e_as (congrArg ii (show (if okC true k n = true then 0 else 9) = 0 by rw [hok]; rfl)) ?_
  refine (Qa)<|Qn<|Qs<|Qp<|(Qm)<|(QN)<|Qn ?_
  refine e_cond rfl ?_ ?_
  · intro hc0
    exact absurd hc0 (by decide)
  · intro hc0
    refine Qk<|Qs<|Qs<|Qp<|(Qf 0)<|(QV 0 0)<|(Q0)<|Qn ?_
    refine e_cond rfl ?_ ?_
    · intro hc1
      exact absurd hc1 (by decide)
    · intro hc1
      refine Qk<|Qs<|Qs<|Qp<|(Qf 33)<|(QV 2 0) ?_
      refine e_add_u (q := 1) rfl rfl rfl  ?_
      refine e_as (congrArg u (Nat.mod_eq_of_lt (show n + 1 < 18446744073709551616 by omega))) ?_
      refine (Qc)<|(Qaf)<|Qn ?_
      refine e_cond rfl ?_ ?_
      · intro hc2
        exact absurd hc2 (by decide)
      · intro hc2
        refine Qk<|Qs<|Qp<|(Qa)<|Qn<|Qs<|Qp<|(Qa)<|Qn<|Qs<|Qs<|Qp<|(Qm)<|Qn ?_
        refine e_cond rfl ?_ ?_
        · intro hc3
          exact absurd hc3 (by decide)
        · intro hc3
          refine (Qg)<|(Qf 1)<|(Qv 1 0)<|(Qf 33)<|(QV 2 0) ?_
          refine e_call rfl (Un 24) (nonceOf_fn n (by omega)) rfl rfl ?_
          refine (Qm)<|(Qm) ?_
          refine e_call rfl (Un 25) hE rfl rfl ?_
          refine (Qm)<|(Qx)<|(Qx)<|(Qa)<|(Qa)<|Qn<|Qs<|Qs<|Qp<|(Qm)<|(QN)<|(Qat)<|Qn ?_
          refine e_cond rfl ?_ ?_
          · intro hc4
            refine Qs<|Qp ?_
            refine e_buildS (cells 34 [pV (.bool false), pI .u8 32 (fun _ => 0), pV (.int .u64 0)]) (Ub 26) (Uu 26) pls26 rfl (by kernel_rfl) rfl ?_
            refine (Qm) ?_
            refine e_storeA (i := 1) (Uz 26) rfl rfl (arrv_size _ _) (cells_one ⟨fun _ => rfl, fun _ => rfl, fun _ => rfl, trivial⟩) rfl cells_sz (.inl rfl) ?_
            refine (Qa)<|(Qa)<|Qn<|Qr ?_
            exact ⟨_, _, _, rfl, .cell (i := 1) rfl rfl (Uu 26) rfl (Uz 26) (arrv_size _ _), .tmp rfl, .tmp rfl⟩
          · intro hc4
            exact absurd hc4 (by decide)
set_option maxHeartbeats 2000000 in
theorem used_ok_true (k : Nat → Nat) (n : Nat) (va vt : Value) (hn : n < 18446744073709551615) (out : List Nat) (hm : out.length ≤ maxLen) (hE : Fx Try.prog G [] 23 #[.agg (arr .u8 32 k), .agg (arr .u8 12 (nonU n)), va, vt] (fun v l1 nw => l1 = [] ∧ ∃ v', v = .tuple #[v', ii 0] ∧ OwnS 5 1 v' out.length (out.map by8) nw)) : Fx Try.prog G [] 13 #[.bool true, CV true k n, va, vt] (fun v l1 nw => l1 = [] ∧ ∃ v', v = .tuple #[CV true k (n + 1), v', ii 0] ∧ OwnS 5 1 v' out.length (out.map by8) nw) := by
  have hok : okC true k n = true := rfl
  refine QfO Try.func13 ?_
  refine Qs<|Qp<|(Qh 0) fun r1=>(QH 1) fun r2=>(Qa)<|(Qa)<|Qn<|Qs<|Qs<|Qp<|(QD 0) ?_
  refine e_call rfl (Un 11) (cfault_fn true k n) rfl rfl ?_
  refine e_as (congrArg ii (show (if okC true k n = true then 0 else 9) = 0 by rw [hok]; rfl)) ?_
  refine (Qa)<|Qn<|Qs<|Qp<|(Qm)<|(QN)<|Qn ?_
  refine e_cond rfl ?_ ?_
  · intro hc0
    exact absurd hc0 (by decide)
  · intro hc0
    refine Qk<|Qs<|Qs<|Qp<|(Qf 0)<|(QV 0 0)<|(Q0)<|Qn ?_
    refine e_cond rfl ?_ ?_
    · intro hc1
      exact absurd hc1 (by decide)
    · intro hc1
      refine Qk<|Qs<|Qs<|Qp<|(Qf 33)<|(QV 2 0) ?_
      refine e_add_u (q := 1) rfl rfl rfl  ?_
      refine e_as (congrArg u (Nat.mod_eq_of_lt (show n + 1 < 18446744073709551616 by omega))) ?_
      refine (Qc)<|(Qaf)<|Qn ?_
      refine e_cond rfl ?_ ?_
      · intro hc2
        exact absurd hc2 (by decide)
      · intro hc2
        refine Qk<|Qs<|Qp<|(Qa)<|Qn<|Qs<|Qp<|(Qa)<|Qn<|Qs<|Qs<|Qp<|(Qm)<|Qn ?_
        refine e_cond rfl ?_ ?_
        · intro hc3
          refine (Qq ⟨[], 4, [], none⟩)<|(Qf 1)<|(Qv 1 0)<|(Qf 33)<|(QV 2 0) ?_
          refine e_call rfl (Un 24) (nonceOf_fn n (by omega)) rfl rfl ?_
          refine (Qm)<|(Qm) ?_
          refine e_callN 2 (fun v => .tuple #[v, ii 0]) rfl rfl (Un 23) seenG hE hm (by rw [List.length_map, Nat.mul_one]) rfl rfl fun v5_1 oz5_1 ho5_1 => ?_
          refine (Qm)<|(Qx)<|(Qx)<|(Qa)<|(Qa)<|Qn<|Qs<|Qs<|Qp<|(Qm)<|(QN) ?_
          refine e_as (congrArg Value.bool (decide_eq_false (fun h => h rfl))) ?_
          refine Qn ?_
          refine e_cond rfl ?_ ?_
          · intro hc4
            exact absurd hc4 (by decide)
          · intro hc4
            refine Qk<|Qs<|Qp<|(Qf 1)<|(Qv 1 0)<|(Qf 33)<|(QV 2 0) ?_
            refine e_add_u (q := 1) rfl rfl rfl  ?_
            refine e_as (congrArg u (Nat.mod_eq_of_lt (show n + 1 < 18446744073709551616 by omega))) ?_
            refine e_buildS (cells 34 [pV (.bool true), pI .u8 32 k, pV (u (n + 1))]) (Ub 26) (Uu 26) pls26 rfl (by kernel_rfl) rfl ?_
            refine (Qm) ?_
            refine e_storeA (i := 1) (Uz 26) rfl rfl (arrv_size _ _) (cells_one ⟨fun _ => rfl, fun _ => rfl, fun _ => rfl, trivial⟩) rfl cells_sz (.inl rfl) ?_
            refine (Qa)<|(Qa)<|Qn<|Qr ?_
            exact ⟨_, _, _, _, _, 2, rfl, .cell (i := 1) rfl rfl (Uu 26) rfl (Uz 26) (arrv_size _ _), .tmp rfl, .tmp rfl, ho5_1, rfl⟩
        · intro hc3
          exact absurd hc3 (by decide)
set_option maxHeartbeats 2000000 in
theorem used_ok_false (k : Nat → Nat) (n : Nat) (va vt : Value) (hn : n < 18446744073709551615) (out : List Nat) (hm : out.length ≤ maxLen) (hE : Fx Try.prog G [] 25 #[.agg (arr .u8 32 k), .agg (arr .u8 12 (nonU n)), va, vt] (fun v l1 nw => l1 = [] ∧ ∃ v', v = .tuple #[v', ii 0] ∧ OwnS 5 1 v' out.length (out.map by8) nw)) : Fx Try.prog G [] 13 #[.bool false, CV true k n, va, vt] (fun v l1 nw => l1 = [] ∧ ∃ v', v = .tuple #[CV true k (n + 1), v', ii 0] ∧ OwnS 5 1 v' out.length (out.map by8) nw) := by
  have hok : okC true k n = true := rfl
  refine QfO Try.func13 ?_
  refine Qs<|Qp<|(Qh 0) fun r1=>(QH 1) fun r2=>(Qa)<|(Qa)<|Qn<|Qs<|Qs<|Qp<|(QD 0) ?_
  refine e_call rfl (Un 11) (cfault_fn true k n) rfl rfl ?_
  refine e_as (congrArg ii (show (if okC true k n = true then 0 else 9) = 0 by rw [hok]; rfl)) ?_
  refine (Qa)<|Qn<|Qs<|Qp<|(Qm)<|(QN)<|Qn ?_
  refine e_cond rfl ?_ ?_
  · intro hc0
    exact absurd hc0 (by decide)
  · intro hc0
    refine Qk<|Qs<|Qs<|Qp<|(Qf 0)<|(QV 0 0)<|(Q0)<|Qn ?_
    refine e_cond rfl ?_ ?_
    · intro hc1
      exact absurd hc1 (by decide)
    · intro hc1
      refine Qk<|Qs<|Qs<|Qp<|(Qf 33)<|(QV 2 0) ?_
      refine e_add_u (q := 1) rfl rfl rfl  ?_
      refine e_as (congrArg u (Nat.mod_eq_of_lt (show n + 1 < 18446744073709551616 by omega))) ?_
      refine (Qc)<|(Qaf)<|Qn ?_
      refine e_cond rfl ?_ ?_
      · intro hc2
        exact absurd hc2 (by decide)
      · intro hc2
        refine Qk<|Qs<|Qp<|(Qa)<|Qn<|Qs<|Qp<|(Qa)<|Qn<|Qs<|Qs<|Qp<|(Qm)<|Qn ?_
        refine e_cond rfl ?_ ?_
        · intro hc3
          exact absurd hc3 (by decide)
        · intro hc3
          refine (Qq ⟨[], 4, [], none⟩)<|(Qf 1)<|(Qv 1 0)<|(Qf 33)<|(QV 2 0) ?_
          refine e_call rfl (Un 24) (nonceOf_fn n (by omega)) rfl rfl ?_
          refine (Qm)<|(Qm) ?_
          refine e_callN 2 (fun v => .tuple #[v, ii 0]) rfl rfl (Un 25) seenG hE hm (by rw [List.length_map, Nat.mul_one]) rfl rfl fun v5_1 oz5_1 ho5_1 => ?_
          refine (Qm)<|(Qx)<|(Qx)<|(Qa)<|(Qa)<|Qn<|Qs<|Qs<|Qp<|(Qm)<|(QN) ?_
          refine e_as (congrArg Value.bool (decide_eq_false (fun h => h rfl))) ?_
          refine Qn ?_
          refine e_cond rfl ?_ ?_
          · intro hc4
            exact absurd hc4 (by decide)
          · intro hc4
            refine Qk<|Qs<|Qp<|(Qf 1)<|(Qv 1 0)<|(Qf 33)<|(QV 2 0) ?_
            refine e_add_u (q := 1) rfl rfl rfl  ?_
            refine e_as (congrArg u (Nat.mod_eq_of_lt (show n + 1 < 18446744073709551616 by omega))) ?_
            refine e_buildS (cells 34 [pV (.bool true), pI .u8 32 k, pV (u (n + 1))]) (Ub 26) (Uu 26) pls26 rfl (by kernel_rfl) rfl ?_
            refine (Qm) ?_
            refine e_storeA (i := 1) (Uz 26) rfl rfl (arrv_size _ _) (cells_one ⟨fun _ => rfl, fun _ => rfl, fun _ => rfl, trivial⟩) rfl cells_sz (.inl rfl) ?_
            refine (Qa)<|(Qa)<|Qn<|Qr ?_
            exact ⟨_, _, _, _, _, 2, rfl, .cell (i := 1) rfl rfl (Uu 26) rfl (Uz 26) (arrv_size _ _), .tmp rfl, .tmp rfl, ho5_1, rfl⟩
set_option maxHeartbeats 2000000 in
theorem rekeyed_bad (has : Bool) (k : Nat → Nat) (n : Nat) (hok : okC has k n = false) : Fn Try.prog G 17 #[CV has k n] (.tuple #[CZ, ii 9]) := by
  refine Qf2 Try.func17 ?_
  refine Qs<|Qp<|(Qh 0) fun r1=>(QH 1) fun r2=>(Qa)<|Qn<|Qs<|Qs<|Qp<|(QD 0) ?_
  refine e_call rfl (Un 11) (cfault_fn has k n) rfl rfl ?_
  refine e_as (congrArg ii (show (if okC has k n = true then 0 else 9) = 9 by rw [hok]; rfl)) ?_
  refine (QN) ?_
  refine e_as (congrArg Value.bool (decide_eq_true (by decide))) ?_
  refine (Qm)<|(Qo)<|(Qo)<|(Qo)<|(QT)<|Qn ?_
  refine e_cond rfl ?_ ?_
  · intro hc0
    refine Qs<|Qp ?_
    refine e_buildS (cells 34 [pV (.bool false), pI .u8 32 (fun _ => 0), pV (.int .u64 0)]) (Ub 26) (Uu 26) pls26 rfl (by kernel_rfl) rfl ?_
    refine e_storeA (i := 1) (Uz 26) rfl rfl (arrv_size _ _) (cells_one ⟨fun _ => rfl, fun _ => rfl, fun _ => rfl, trivial⟩) rfl cells_sz (.inl rfl) ?_
    refine (Qa)<|Qn<|Qr ?_
    exact ⟨_, _, rfl, .cell (i := 1) rfl rfl (Uu 26) rfl (Uz 26) (arrv_size _ _), .tmp rfl⟩
  · intro hc0
    exact absurd hc0 (by decide)
set_option maxHeartbeats 2000000 in
theorem rekeyed_none (k : Nat → Nat) (n : Nat) (hok : okC false k n = true) : Fn Try.prog G 17 #[CV false k n] (.tuple #[CZ, ii 9]) := by
  refine Qf2 Try.func17 ?_
  refine Qs<|Qp<|(Qh 0) fun r1=>(QH 1) fun r2=>(Qa)<|Qn<|Qs<|Qs<|Qp<|(QD 0) ?_
  refine e_call rfl (Un 11) (cfault_fn false k n) rfl rfl ?_
  refine e_as (congrArg ii (show (if okC false k n = true then 0 else 9) = 0 by rw [hok]; rfl)) ?_
  refine (QN) ?_
  refine e_as (congrArg Value.bool (decide_eq_false (fun h => h rfl))) ?_
  refine (Qm)<|(Qy)<|(Qf 0)<|(Qy)<|(QV 0 0)<|(Qy)<|(Q0)<|(QF)<|Qn ?_
  refine e_cond rfl ?_ ?_
  · intro hc0
    refine Qs<|Qp ?_
    refine e_buildS (cells 34 [pV (.bool false), pI .u8 32 (fun _ => 0), pV (.int .u64 0)]) (Ub 26) (Uu 26) pls26 rfl (by kernel_rfl) rfl ?_
    refine e_storeA (i := 1) (Uz 26) rfl rfl (arrv_size _ _) (cells_one ⟨fun _ => rfl, fun _ => rfl, fun _ => rfl, trivial⟩) rfl cells_sz (.inl rfl) ?_
    refine (Qa)<|Qn<|Qr ?_
    exact ⟨_, _, rfl, .cell (i := 1) rfl rfl (Uu 26) rfl (Uz 26) (arrv_size _ _), .tmp rfl⟩
  · intro hc0
    exact absurd hc0 (by decide)
set_option maxHeartbeats 2000000 in
theorem rekeyed_ok (k : Nat → Nat) (n : Nat) (hk : L8 32 k) : Fn Try.prog G 17 #[CV true k n] (.tuple #[CV true (rek k) n, ii 0]) := by
  have hok : okC true k n = true := rfl
  have hsl : (sealL k (nonU 18446744073709551615) [] (zrs 32)).length = 48 := by rw [sealL_len, zrs_len]
  refine Qf2 Try.func17 ?_
  refine Qs<|Qp<|(Qh 0) fun r1=>(QH 1) fun r2=>(Qa)<|Qn<|Qs<|Qs<|Qp<|(QD 0) ?_
  refine e_call rfl (Un 11) (cfault_fn true k n) rfl rfl ?_
  refine e_as (congrArg ii (show (if okC true k n = true then 0 else 9) = 0 by rw [hok]; rfl)) ?_
  refine (QN) ?_
  refine e_as (congrArg Value.bool (decide_eq_false (fun h => h rfl))) ?_
  refine (Qm)<|(Qy)<|(Qf 0)<|(Qy)<|(QV 0 0)<|(Qy)<|(Q0)<|(QF)<|Qn ?_
  refine e_cond rfl ?_ ?_
  · intro hc0
    exact absurd hc0 (by decide)
  · intro hc0
    refine Qk<|Qs<|(Qq ⟨[], 4, [31], none⟩)<|(Qf 1)<|(Qv 1 0) ?_
    refine e_call rfl (Un 24) (nonceOf_fn 18446744073709551615 (by decide)) rfl rfl ?_
    refine e_call rfl (Un 28) (noughts_fn 32 (by decide)) rfl rfl ?_
    refine e_conv_own 2 (Uu 9) (Uu 31) (Uu 5) rfl (zrs_lt 32) (by rw [zrs_len]; decide) rfl rfl fun v2_1 oz2_1 ho2_1 => ?_
    refine e_callN 3 (fun v => .tuple #[v, ii 0]) rfl rfl (Un 25) (seenM 2 rfl ⟨[], trivial⟩) (sealed_ok (G := oz2_1.toList) k (nonU 18446744073709551615) _ _ [] (zrs 32) hk (nonU_lt _) (NILG _) (own_bytes ho2_1) (by simp) (by decide) (by rw [zrs_len]; decide)) (by rw [hsl]; decide) (by rw [List.length_map, Nat.mul_one]) rfl rfl fun v2_2 oz2_2 ho2_2 => ?_
    refine (Qm)<|(Qx)<|(Qx)<|(Qa)<|(Qa)<|Qn<|Qs<|Qp<|(Qm) ?_
    refine e_sliceV 0 32 ho2_2.shows (Uu 31) (Uz 5) rfl rfl rfl rfl ⟨_, rfl⟩ (by omega) (by rw [hsl]; decide) rfl ?_
    refine e_conv_strV (l := (rekL k)) (Shows.cut (l' := rekL k) (own_bytes ho2_2) (by decide) (by rw [hsl]; decide) (by simp [rekL])) (seenM 3 rfl ⟨[], trivial⟩) (Uu 31) (Uu 5) (Uu 9) rfl rfl rfl ?_
    refine e_call rfl (Un 29) (key_fn (rekL k) (fun b hb => sealL_lt _ _ _ _ b (List.mem_of_mem_take hb)) (by unfold rekL; rw [List.length_take, hsl]; decide)) rfl rfl ?_
    refine (Qf 1) ?_
    refine e_stC (i := 0) 1 (Uz 23) rfl rfl rfl rfl (by decide) (.inl rfl) ?_
    refine Qn<|Qs<|Qp<|(QD 0) ?_
    refine e_as (show _ = CV true (rek k) n from rfl) ?_
    refine e_storeA (i := 1) (Uz 26) rfl rfl (arrv_size _ _) (cells_one ⟨fun _ => rfl, fun _ => rfl, fun _ => rfl, trivial⟩) rfl cells_sz (.inl rfl) ?_
    refine (Qa)<|Qn<|Qr ?_
    exact ⟨_, _, rfl, .cell (i := 1) rfl rfl (Uu 26) rfl (Uz 26) (arrv_size _ _), .tmp rfl⟩
end Go.Proofs.Ytmhpifphohcfmaa
namespace Go.Proofs.Ytmhpifphohcfmaa
open Go Go.RowKit
theorem eqg26 : Try.prog.eqGuardType Try.prog.depth 26 = false := by kernel_rfl
theorem s_und26 : Try.prog.underlying 26 = some (.struct #[.mk "Has" 4 0 false "" "" 0, .mk "Key" 23 1 false "" "" 1, .mk "N" 24 33 false "" "" 40]) := by kernel_rfl
theorem s_und4 : Try.prog.underlying 4 = some (.bool) := by kernel_rfl
theorem s_und23 : Try.prog.underlying 23 = some (.array 32 5) := by kernel_rfl
theorem s_siz23 : (Try.prog.info? 23).map (·.size) = some 32 := by kernel_rfl
theorem s_und5 : Try.prog.underlying 5 = some (.int .u8) := by kernel_rfl
theorem s_siz5 : (Try.prog.info? 5).map (·.size) = some 1 := by kernel_rfl
theorem s_und24 : Try.prog.underlying 24 = some (.int .u64) := by kernel_rfl
theorem sam26 {f0 : Bool} {f1 : Nat → Nat} {f2 : Int} : Same Try.prog 10000 26 (.agg (cells 34 [pV (.bool f0), pI .u8 32 f1, pV (.int .u64 f2)])) := (same_struct s_und26 (by kernel_rfl) (List.forall_mem_cons.2 ⟨⟨_, shown_one (k := 0) s_und4 rfl rfl rfl (Nat.le_of_ble_eq_true rfl), same_bool s_und4⟩, (List.forall_mem_cons.2 ⟨⟨_, shown_row (k := 1) s_und23 rfl s_siz23 rfl rfl (Nat.le_of_ble_eq_true rfl), same_arr s_und23 s_und5 s_siz5⟩, (List.forall_mem_cons.2 ⟨⟨_, shown_one (k := 2) s_und24 rfl rfl rfl (Nat.le_of_ble_eq_true rfl), same_int s_und24⟩, (fun _ h => by cases h)⟩)⟩)⟩))
variable {G : Mem}
set_option maxHeartbeats 400000 in
theorem sameBytes_fn (v v2 : Value) (l l2 : List Nat) (hv : Sh G v l) (hv2 : Sh G v2 l2) (hb : ∀ b ∈ l, b < 256) (hb2 : ∀ b ∈ l2, b < 256) : Fn Try.prog G 14 #[v, v2] (.bool (decide (l = l2))) := by
  refine Qf1 Try.func14 ?_
  refine Qs<|Qp<|(Qa)<|Qn<|Qs<|Qp<|(Qm) ?_
  refine e_conv_strV hv seenG (Uu 31) (Uu 5) (Uu 9) rfl rfl rfl ?_
  refine (Qm) ?_
  refine e_conv_strV hv2 seenG (Uu 31) (Uu 5) (Uu 9) rfl rfl rfl ?_
  refine e_eqStr rfl rfl rfl hb hb2 ?_
  refine (Qa)<|Qn<|Qr ?_
  exact ⟨_, rfl, .tmp rfl⟩
set_option maxHeartbeats 2000000 in
theorem cipherChecks_fn (f : Nat → Nat) (has : Bool) (k : Nat → Nat) (n : Nat) (hBg : Fn Try.prog G 9 #[.agg (arr .u8 32 f)] (CV true f 0)) (hCk : Fn Try.prog G 10 #[CV has k n] (ii (if okC has k n = true then 0 else 9))) : Fn Try.prog G 3 #[.agg (arr .u8 32 f), CV has k n] (.bool true) := by
  refine Qf1 Try.func3 ?_
  refine Qs<|Qp<|(Qh 0) fun r1=>(Qh 1) fun r2=>(Qa)<|Qn<|Qs<|(Qg)<|(Qd 0) ?_
  refine e_call rfl (Un 9) hBg rfl rfl ?_
  refine (QD 1) ?_
  refine e_call rfl (Un 10) hCk rfl rfl ?_
  refine (QH 2) fun r3=>?_
  refine e_storeA (i := 2) (Uz 26) rfl rfl (arrv_size _ _) (cells_one ⟨fun _ => rfl, fun _ => rfl, fun _ => rfl, trivial⟩) rfl cells_sz (.inl rfl) ?_
  refine (Qa)<|Qn<|Qs<|Qp<|(QD 1) ?_
  refine e_call rfl (Un 11) (cfault_fn has k n) rfl rfl ?_
  refine (Qa)<|Qn<|Qs<|Qp<|(QD 2)<|(Qd 0) ?_
  refine e_buildS (cells 34 [pV (.bool true), pI .u8 32 f, pV (u 0)]) (Ub 26) (Uu 26) pls26 rfl (by kernel_rfl) rfl ?_
  refine e_eqSame sam26 eqg26 rfl rfl rfl ?_
  refine (Qm)<|(Qy)<|(Qm)<|(Qy)<|(Qm)<|(Qy)<|(Qc)<|(Qar)<|(QT)<|(Qa)<|Qn<|Qr ?_
  exact ⟨_, rfl, .tmp rfl⟩
set_option maxHeartbeats 2000000 in
theorem cipherSeals_err (has : Bool) (k : Nat → Nat) (n : Nat) (va vt : Value) (e : Nat) (hD : Fn Try.prog G 12 #[CV has k n, va, vt] (.tuple #[CZ, nilS, ii e])) (hE : Fn Try.prog G 13 #[.bool false, CV has k n, va, vt] (.tuple #[CZ, nilS, ii e])) : Fn Try.prog G 4 #[CV has k n, va, vt] (.bool true) := by
  refine Qf1 Try.func4 ?_
  refine Qs<|Qp<|(Qh 0) fun r1=>(Qa)<|Qn<|Qs<|Qp<|(QD 0)<|(Qm)<|(Qm) ?_
  refine e_call rfl (Un 12) hD rfl rfl ?_
  refine (Qm)<|(Qx)<|(Qx)<|(Qx)<|(QH 1) fun r2=>?_
  refine e_storeA (i := 1) (Uz 26) rfl rfl (arrv_size _ _) (cells_one ⟨fun _ => rfl, fun _ => rfl, fun _ => rfl, trivial⟩) rfl cells_sz (.inl rfl) ?_
  refine (Qa)<|(Qa)<|Qn<|Qs<|Qp<|(QD 0)<|(Qm)<|(Qm) ?_
  refine e_call rfl (Un 13) hE rfl rfl ?_
  refine (Qm)<|(Qx)<|(Qx)<|(Qx)<|(QH 2) fun r3=>?_
  refine e_storeA (i := 2) (Uz 26) rfl rfl (arrv_size _ _) (cells_one ⟨fun _ => rfl, fun _ => rfl, fun _ => rfl, trivial⟩) rfl cells_sz (.inl rfl) ?_
  refine (Qa)<|(Qa)<|Qn<|Qs<|Qp<|(QD 1)<|(QD 2) ?_
  refine e_eqSame sam26 eqg26 rfl rfl rfl ?_
  refine (Qm)<|(Qy)<|(Qm)<|(Qy)<|(Qm)<|(Qy) ?_
  refine e_callV [] rfl rfl (Un 14) trivial (sameBytes_fn (G := []) nilS nilS [] [] (.inl ⟨rfl, rfl, none, 0, rfl, fun _ => rfl⟩ : Shows [] 1 nilS ([] : List Nat).length (([] : List Nat).map by8)) (.inl ⟨rfl, rfl, none, 0, rfl, fun _ => rfl⟩ : Shows [] 1 nilS ([] : List Nat).length (([] : List Nat).map by8)) (by simp) (by simp)) rfl rfl rfl ?_
  refine (Qar)<|(QT)<|(Qm)<|(Qy)<|(Qm)<|(Qy)<|(Qm)<|(Qy)<|(Qc)<|(Qar)<|(QT)<|(Qa)<|Qn<|Qr ?_
  exact ⟨_, rfl, .tmp rfl⟩
set_option maxHeartbeats 2000000 in
theorem cipherSeals_plain (k : Nat → Nat) (n : Nat) (va vt : Value) (tx : List Nat) (hvt : Sh G vt tx) (htb : (∀ b ∈ tx, b < 256)) (hm : tx.length ≤ maxLen) (hD : Fx Try.prog G [] 12 #[CV false k n, va, vt] (fun v l1 nw => l1 = [] ∧ ∃ v', v = .tuple #[CV false k n, v', ii 0] ∧ OwnS 5 1 v' tx.length (tx.map by8) nw)) (hE : Fn Try.prog G 13 #[.bool false, CV false k n, va, vt] (.tuple #[CV false k n, vt, ii 0])) : Fn Try.prog G 4 #[CV false k n, va, vt] (.bool true) := by
  refine Qf1 Try.func4 ?_
  refine Qs<|Qp<|(Qh 0) fun r1=>(Qa)<|Qn<|Qs<|QR ⟨[], 4, [], none⟩<|(QD 0)<|(Qm)<|(Qm) ?_
  refine e_callN 1 (fun v => .tuple #[CV false k n, v, ii 0]) rfl rfl (Un 12) seenG hD hm (by rw [List.length_map, Nat.mul_one]) rfl rfl fun v1_1 oz1_1 ho1_1 => ?_
  refine (Qm)<|(Qx)<|(Qx)<|(Qx)<|(QH 2) fun r3=>?_
  refine e_storeA (i := 2) (Uz 26) rfl rfl (arrv_size _ _) (cells_one ⟨fun _ => rfl, fun _ => rfl, fun _ => rfl, trivial⟩) rfl cells_sz (.inl rfl) ?_
  refine (Qa)<|(Qa)<|Qn<|Qs<|Qp<|(QD 0)<|(Qm)<|(Qm) ?_
  refine e_call rfl (Un 13) hE rfl rfl ?_
  refine (Qm)<|(Qx)<|(Qx)<|(Qx)<|(QH 3) fun r4=>?_
  refine e_storeA (i := 3) (Uz 26) rfl rfl (arrv_size _ _) (cells_one ⟨fun _ => rfl, fun _ => rfl, fun _ => rfl, trivial⟩) rfl cells_sz (.inl rfl) ?_
  refine (Qa)<|(Qa)<|Qn<|Qs<|Qp<|(QD 2)<|(QD 3) ?_
  refine e_eqSame sam26 eqg26 rfl rfl rfl ?_
  refine (Qm)<|(Qy)<|(Qm)<|(Qy)<|(Qm)<|(Qy) ?_
  refine e_callS rfl rfl (Un 14) (seen_app (seenM 1 rfl ⟨[], trivial⟩) seenG) (sameBytes_fn (G := oz1_1.toList ++ G) _ _ tx tx (ho1_1.shows.mono (fun x h => List.mem_append_left _ h)) (hvt.mono (fun x h => List.mem_append_right _ h)) htb htb) rfl rfl ?_
  refine (Qar)<|(QT)<|(Qm)<|(Qy)<|(Qm)<|(Qy)<|(Qm)<|(Qy)<|(Qc)<|(Qar)<|(QT)<|(Qa)<|Qn<|Qr ?_
  exact ⟨_, rfl, .tmp rfl⟩
set_option maxHeartbeats 2000000 in
theorem cipherSeals_ok (k : Nat → Nat) (n : Nat) (va vt : Value) (out : List Nat) (hob : (∀ b ∈ out, b < 256)) (hm : out.length ≤ maxLen) (hD : Fx Try.prog G [] 12 #[CV true k n, va, vt] (fun v l1 nw => l1 = [] ∧ ∃ v', v = .tuple #[CV true k (n + 1), v', ii 0] ∧ OwnS 5 1 v' out.length (out.map by8) nw)) (hE : Fx Try.prog G [] 13 #[.bool false, CV true k n, va, vt] (fun v l1 nw => l1 = [] ∧ ∃ v', v = .tuple #[CV true k (n + 1), v', ii 0] ∧ OwnS 5 1 v' out.length (out.map by8) nw)) : Fn Try.prog G 4 #[CV true k n, va, vt] (.bool true) := by
  refine Qf1 Try.func4 ?_
  refine Qs<|Qp<|(Qh 0) fun r1=>(Qa)<|Qn<|Qs<|QR ⟨[], 4, [], none⟩<|(QD 0)<|(Qm)<|(Qm) ?_
  refine e_callN 1 (fun v => .tuple #[CV true k (n + 1), v, ii 0]) rfl rfl (Un 12) seenG hD hm (by rw [List.length_map, Nat.mul_one]) rfl rfl fun v1_1 oz1_1 ho1_1 => ?_
  refine (Qm)<|(Qx)<|(Qx)<|(Qx)<|(QH 2) fun r3=>?_
  refine e_storeA (i := 2) (Uz 26) rfl rfl (arrv_size _ _) (cells_one ⟨fun _ => rfl, fun _ => rfl, fun _ => rfl, trivial⟩) rfl cells_sz (.inl rfl) ?_
  refine (Qa)<|(Qa)<|Qn<|Qs<|QR ⟨[], 4, [], none⟩<|(QD 0)<|(Qm)<|(Qm) ?_
  refine e_callN 3 (fun v => .tuple #[CV true k (n + 1), v, ii 0]) rfl rfl (Un 13) seenG hE hm (by rw [List.length_map, Nat.mul_one]) rfl rfl fun v1_2 oz1_2 ho1_2 => ?_
  refine (Qm)<|(Qx)<|(Qx)<|(Qx)<|(QH 4) fun r5=>?_
  refine e_storeA (i := 4) (Uz 26) rfl rfl (arrv_size _ _) (cells_one ⟨fun _ => rfl, fun _ => rfl, fun _ => rfl, trivial⟩) rfl cells_sz (.inl rfl) ?_
  refine (Qa)<|(Qa)<|Qn<|Qs<|Qp<|(QD 2)<|(QD 4) ?_
  refine e_eqSame sam26 eqg26 rfl rfl rfl ?_
  refine (Qm)<|(Qy)<|(Qm)<|(Qy)<|(Qm)<|(Qy) ?_
  refine e_callS rfl rfl (Un 14) (seen_app (seenM 1 rfl ⟨[], trivial⟩) (seenM 3 rfl ⟨[], trivial⟩)) (sameBytes_fn (G := oz1_1.toList ++ oz1_2.toList) _ _ out out (ho1_1.shows.mono (fun x h => List.mem_append_left _ h)) (ho1_2.shows.mono (fun x h => List.mem_append_right _ h)) hob hob) rfl rfl ?_
  refine (Qar)<|(QT)<|(Qm)<|(Qy)<|(Qm)<|(Qy)<|(Qm)<|(Qy)<|(Qc)<|(Qar)<|(QT)<|(Qa)<|Qn<|Qr ?_
  exact ⟨_, rfl, .tmp rfl⟩
set_option maxHeartbeats 2000000 in
theorem cipherOpens_err (has : Bool) (k : Nat → Nat) (n : Nat) (va vt : Value) (e : Nat) (hD : Fn Try.prog G 15 #[CV has k n, va, vt] (.tuple #[CZ, nilS, ii e])) (hE : Fn Try.prog G 13 #[.bool true, CV has k n, va, vt] (.tuple #[CZ, nilS, ii e])) : Fn Try.prog G 5 #[CV has k n, va, vt] (.bool true) := by
  refine Qf1 Try.func5 ?_
  refine Qs<|Qp<|(Qh 0) fun r1=>(Qa)<|Qn<|Qs<|Qp<|(QD 0)<|(Qm)<|(Qm) ?_
  refine e_call rfl (Un 15) hD rfl rfl ?_
  refine (Qm)<|(Qx)<|(Qx)<|(Qx)<|(QH 1) fun r2=>?_
  refine e_storeA (i := 1) (Uz 26) rfl rfl (arrv_size _ _) (cells_one ⟨fun _ => rfl, fun _ => rfl, fun _ => rfl, trivial⟩) rfl cells_sz (.inl rfl) ?_
  refine (Qa)<|(Qa)<|Qn<|Qs<|Qp<|(QD 0)<|(Qm)<|(Qm) ?_
  refine e_call rfl (Un 13) hE rfl rfl ?_
  refine (Qm)<|(Qx)<|(Qx)<|(Qx)<|(QH 2) fun r3=>?_
  refine e_storeA (i := 2) (Uz 26) rfl rfl (arrv_size _ _) (cells_one ⟨fun _ => rfl, fun _ => rfl, fun _ => rfl, trivial⟩) rfl cells_sz (.inl rfl) ?_
  refine (Qa)<|(Qa)<|Qn<|Qs<|Qp<|(QD 1)<|(QD 2) ?_
  refine e_eqSame sam26 eqg26 rfl rfl rfl ?_
  refine (Qm)<|(Qy)<|(Qm)<|(Qy)<|(Qm)<|(Qy) ?_
  refine e_callV [] rfl rfl (Un 14) trivial (sameBytes_fn (G := []) nilS nilS [] [] (.inl ⟨rfl, rfl, none, 0, rfl, fun _ => rfl⟩ : Shows [] 1 nilS ([] : List Nat).length (([] : List Nat).map by8)) (.inl ⟨rfl, rfl, none, 0, rfl, fun _ => rfl⟩ : Shows [] 1 nilS ([] : List Nat).length (([] : List Nat).map by8)) (by simp) (by simp)) rfl rfl rfl ?_
  refine (Qar)<|(QT)<|(Qm)<|(Qy)<|(Qm)<|(Qy)<|(Qm)<|(Qy)<|(Qc)<|(Qar)<|(QT)<|(Qa)<|Qn<|Qr ?_
  exact ⟨_, rfl, .tmp rfl⟩
set_option maxHeartbeats 2000000 in
theorem cipherOpens_plain (k : Nat → Nat) (n : Nat) (va vt : Value) (tx : List Nat) (hvt : Sh G vt tx) (htb : (∀ b ∈ tx, b < 256)) (hm : tx.length ≤ maxLen) (hD : Fx Try.prog G [] 15 #[CV false k n, va, vt] (fun v l1 nw => l1 = [] ∧ ∃ v', v = .tuple #[CV false k n, v', ii 0] ∧ OwnS 5 1 v' tx.length (tx.map by8) nw)) (hE : Fn Try.prog G 13 #[.bool true, CV false k n, va, vt] (.tuple #[CV false k n, vt, ii 0])) : Fn Try.prog G 5 #[CV false k n, va, vt] (.bool true) := by
  refine Qf1 Try.func5 ?_
  refine Qs<|Qp<|(Qh 0) fun r1=>(Qa)<|Qn<|Qs<|QR ⟨[], 4, [], none⟩<|(QD 0)<|(Qm)<|(Qm) ?_
  refine e_callN 1 (fun v => .tuple #[CV false k n, v, ii 0]) rfl rfl (Un 15) seenG hD hm (by rw [List.length_map, Nat.mul_one]) rfl rfl fun v1_1 oz1_1 ho1_1 => ?_
  refine (Qm)<|(Qx)<|(Qx)<|(Qx)<|(QH 2) fun r3=>?_
  refine e_storeA (i := 2) (Uz 26) rfl rfl (arrv_size _ _) (cells_one ⟨fun _ => rfl, fun _ => rfl, fun _ => rfl, trivial⟩) rfl cells_sz (.inl rfl) ?_
  refine (Qa)<|(Qa)<|Qn<|Qs<|Qp<|(QD 0)<|(Qm)<|(Qm) ?_
  refine e_call rfl (Un 13) hE rfl rfl ?_
  refine (Qm)<|(Qx)<|(Qx)<|(Qx)<|(QH 3) fun r4=>?_
  refine e_storeA (i := 3) (Uz 26) rfl rfl (arrv_size _ _) (cells_one ⟨fun _ => rfl, fun _ => rfl, fun _ => rfl, trivial⟩) rfl cells_sz (.inl rfl) ?_
  refine (Qa)<|(Qa)<|Qn<|Qs<|Qp<|(QD 2)<|(QD 3) ?_
  refine e_eqSame sam26 eqg26 rfl rfl rfl ?_
  refine (Qm)<|(Qy)<|(Qm)<|(Qy)<|(Qm)<|(Qy) ?_
  refine e_callS rfl rfl (Un 14) (seen_app (seenM 1 rfl ⟨[], trivial⟩) seenG) (sameBytes_fn (G := oz1_1.toList ++ G) _ _ tx tx (ho1_1.shows.mono (fun x h => List.mem_append_left _ h)) (hvt.mono (fun x h => List.mem_append_right _ h)) htb htb) rfl rfl ?_
  refine (Qar)<|(QT)<|(Qm)<|(Qy)<|(Qm)<|(Qy)<|(Qm)<|(Qy)<|(Qc)<|(Qar)<|(QT)<|(Qa)<|Qn<|Qr ?_
  exact ⟨_, rfl, .tmp rfl⟩
set_option maxHeartbeats 2000000 in
theorem cipherOpens_ok (k : Nat → Nat) (n : Nat) (va vt : Value) (out : List Nat) (hob : (∀ b ∈ out, b < 256)) (hm : out.length ≤ maxLen) (hD : Fx Try.prog G [] 15 #[CV true k n, va, vt] (fun v l1 nw => l1 = [] ∧ ∃ v', v = .tuple #[CV true k (n + 1), v', ii 0] ∧ OwnS 5 1 v' out.length (out.map by8) nw)) (hE : Fx Try.prog G [] 13 #[.bool true, CV true k n, va, vt] (fun v l1 nw => l1 = [] ∧ ∃ v', v = .tuple #[CV true k (n + 1), v', ii 0] ∧ OwnS 5 1 v' out.length (out.map by8) nw)) : Fn Try.prog G 5 #[CV true k n, va, vt] (.bool true) := by
  refine Qf1 Try.func5 ?_
  refine Qs<|Qp<|(Qh 0) fun r1=>(Qa)<|Qn<|Qs<|QR ⟨[], 4, [], none⟩<|(QD 0)<|(Qm)<|(Qm) ?_
  refine e_callN 1 (fun v => .tuple #[CV true k (n + 1), v, ii 0]) rfl rfl (Un 15) seenG hD hm (by rw [List.length_map, Nat.mul_one]) rfl rfl fun v1_1 oz1_1 ho1_1 => ?_
  refine (Qm)<|(Qx)<|(Qx)<|(Qx)<|(QH 2) fun r3=>?_
  refine e_storeA (i := 2) (Uz 26) rfl rfl (arrv_size _ _) (cells_one ⟨fun _ => rfl, fun _ => rfl, fun _ => rfl, trivial⟩) rfl cells_sz (.inl rfl) ?_
  refine (Qa)<|(Qa)<|Qn<|Qs<|QR ⟨[], 4, [], none⟩<|(QD 0)<|(Qm)<|(Qm) ?_
  refine e_callN 3 (fun v => .tuple #[CV true k (n + 1), v, ii 0]) rfl rfl (Un 13) seenG hE hm (by rw [List.length_map, Nat.mul_one]) rfl rfl fun v1_2 oz1_2 ho1_2 => ?_
  refine (Qm)<|(Qx)<|(Qx)<|(Qx)<|(QH 4) fun r5=>?_
  refine e_storeA (i := 4) (Uz 26) rfl rfl (arrv_size _ _) (cells_one ⟨fun _ => rfl, fun _ => rfl, fun _ => rfl, trivial⟩) rfl cells_sz (.inl rfl) ?_
  refine (Qa)<|(Qa)<|Qn<|Qs<|Qp<|(QD 2)<|(QD 4) ?_
  refine e_eqSame sam26 eqg26 rfl rfl rfl ?_
  refine (Qm)<|(Qy)<|(Qm)<|(Qy)<|(Qm)<|(Qy) ?_
  refine e_callS rfl rfl (Un 14) (seen_app (seenM 1 rfl ⟨[], trivial⟩) (seenM 3 rfl ⟨[], trivial⟩)) (sameBytes_fn (G := oz1_1.toList ++ oz1_2.toList) _ _ out out (ho1_1.shows.mono (fun x h => List.mem_append_left _ h)) (ho1_2.shows.mono (fun x h => List.mem_append_right _ h)) hob hob) rfl rfl ?_
  refine (Qar)<|(QT)<|(Qm)<|(Qy)<|(Qm)<|(Qy)<|(Qm)<|(Qy)<|(Qc)<|(Qar)<|(QT)<|(Qa)<|Qn<|Qr ?_
  exact ⟨_, rfl, .tmp rfl⟩
set_option maxHeartbeats 2000000 in
theorem cipherRekeys_fn (has : Bool) (k : Nat → Nat) (n : Nat) (h2 : Bool) (k2 : Nat → Nat) (n2 e : Nat) (hD : Fn Try.prog G 16 #[CV has k n] (.tuple #[CV h2 k2 n2, ii e])) (hE : Fn Try.prog G 17 #[CV has k n] (.tuple #[CV h2 k2 n2, ii e])) : Fn Try.prog G 6 #[CV has k n] (.bool true) := by
  refine Qf1 Try.func6 ?_
  refine Qs<|Qp<|(Qh 0) fun r1=>(Qa)<|Qn<|Qs<|Qp<|(QD 0) ?_
  refine e_call rfl (Un 16) hD rfl rfl ?_
  refine (Qm)<|(Qx)<|(Qx)<|(QH 1) fun r2=>?_
  refine e_storeA (i := 1) (Uz 26) rfl rfl (arrv_size _ _) (cells_one ⟨fun _ => rfl, fun _ => rfl, fun _ => rfl, trivial⟩) rfl cells_sz (.inl rfl) ?_
  refine (Qa)<|Qn<|Qs<|Qp<|(QD 0) ?_
  refine e_call rfl (Un 17) hE rfl rfl ?_
  refine (Qm)<|(Qx)<|(Qx)<|(QH 2) fun r3=>?_
  refine e_storeA (i := 2) (Uz 26) rfl rfl (arrv_size _ _) (cells_one ⟨fun _ => rfl, fun _ => rfl, fun _ => rfl, trivial⟩) rfl cells_sz (.inl rfl) ?_
  refine (Qa)<|Qn<|Qs<|Qp<|(QD 1)<|(QD 2) ?_
  refine e_eqSame sam26 eqg26 rfl rfl rfl ?_
  refine (Qm)<|(Qy)<|(Qm)<|(Qy)<|(Qm)<|(Qy)<|(Qc)<|(Qar)<|(QT)<|(Qa)<|Qn<|Qr ?_
  exact ⟨_, rfl, .tmp rfl⟩
end Go.Proofs.Ytmhpifphohcfmaa
namespace Go.Proofs.Ytmhpifphohcfmaa
open Go Go.RowKit
variable {G : Mem}
set_option maxHeartbeats 400000 in
theorem picked_fn (z : Int) (m : Nat) (hm : 0 < m) (hm2 : m < 4294967296) : Fn Try.prog G 18 #[.int .i64 z, ii m] (ii (pkn z m)) := by
  have htm := tmod_bd z hm
  refine Qf1 Try.func18 ?_
  refine Qs<|Qp<|(Qa)<|Qn<|Qs<|Qp<|(Qm)<|(Qm) ?_
  refine e_rem_z rfl rfl rfl (by omega) ?_
  refine (Qa)<|Qn<|Qs<|Qs<|Qp<|(Qm)<|(Ql)<|Qn ?_
  refine e_cond rfl ?_ ?_
  · intro hc0
    have hc0 := of_decide_eq_true hc0
    refine Qp<|(Qm)<|(Qm) ?_
    refine e_add_z rfl rfl rfl (by omega) (by omega) ?_
    refine e_as (congrArg (Value.int .i64) (pkn_neg hm hc0)) ?_
    refine (Qa)<|Qn<|Qs<|Qp<|(Qm)<|(Qa)<|Qn<|Qr ?_
    exact ⟨_, rfl, .tmp rfl⟩
  · intro hc0
    have hc0 := of_decide_eq_false hc0
    rw [ii, ← pkn_pos hm hc0]
    refine Qk<|Qs<|Qp<|(Qm)<|(Qa)<|Qn<|Qr ?_
    exact ⟨_, rfl, .tmp rfl⟩
set_option maxHeartbeats 4000000 in
theorem cipherEnds_0 (f : Nat → Nat)  (v : Value) (l0 : List Nat) (z : Int) (hv : Sh G v l0) (hb : (∀ b ∈ l0, b < 256)) (hz : pkn z 2 = 0) (hBg : ∀ (G : Mem) (f : Nat → Nat), Fn Try.prog G 9 #[.agg (arr .u8 32 f)] (CV true f 0)) (hOv : ∀ (G : Mem) (k : Nat → Nat) (va vt : Value), Fn Try.prog G 12 #[CV true k 18446744073709551615, va, vt] (.tuple #[CZ, nilS, ii 11])) (hPl : ∀ (G : Mem) (va vt : Value) (tx : List Nat), Sh G vt tx → (∀ b ∈ tx, b < 256) → tx.length ≤ 800 → Fx Try.prog G [] 12 #[CZ, va, vt] (fun v l1 nw => l1 = [] ∧ ∃ v', v = .tuple #[CZ, v', ii 0] ∧ OwnS 5 1 v' tx.length (tx.map by8) nw)) (hBd : ∀ (G : Mem) (va vt : Value), Fn Try.prog G 12 #[CV false (fun _ => 0) 1, va, vt] (.tuple #[CZ, nilS, ii 9])) (hRn : ∀ (G : Mem), Fn Try.prog G 16 #[CZ] (.tuple #[CZ, ii 9])) : Fn Try.prog G 8 #[.agg (arr .u8 32 f), v, .int .i64 z] (.bool true) := by
  obtain ⟨tx, htx⟩ : ∃ tx, tx = l0.take 100 := ⟨_, rfl⟩
  have htl : tx.length ≤ 100 := by rw [htx]; simp; omega
  have htb : ∀ x ∈ tx, x < 256 := fun x hx => hb x (by rw [htx] at hx; exact List.mem_of_mem_take hx)
  have hvt : Shows G 1 (slPart 1 v 0 (min l0.length 100)) tx.length (tx.map by8) := hv.cut (by omega) (by omega) ((take_minN l0 100).trans htx.symm)
  refine Qf1 Try.func8 ?_
  refine Qs<|Qp<|(Qh 0) fun r1=>(Qa)<|Qn<|Qs<|Qp<|(Qm)<|(Qm)<|(QC hv) ?_
  refine e_min (q := 100) rfl rfl rfl rfl ?_
  refine e_sliceV 0 (min l0.length 100) hv (Uu 31) (Uz 5) rfl rfl rfl rfl ⟨_, rfl⟩ (by omega) (by omega) rfl ?_
  refine (Qa)<|Qn<|Qs<|Qp<|(Qd 0) ?_
  refine e_call rfl (Un 9) (hBg G f) rfl rfl ?_
  refine (QH 1) fun r2=>?_
  refine e_storeA (i := 1) (Uz 26) rfl rfl (arrv_size _ _) (cells_one ⟨fun _ => rfl, fun _ => rfl, fun _ => rfl, trivial⟩) rfl cells_sz (.inl rfl) ?_
  refine Qn<|Qs<|Qp<|(Qm) ?_
  refine e_call rfl (Un 18) (picked_fn z 2 (by decide) (by decide)) rfl rfl ?_
  refine e_as (congrArg ii hz) ?_
  refine e_conv_u (Uu 3) (Uu 24) rfl rfl rfl ?_
  refine e_sub_u (p := 18446744073709551615) rfl rfl rfl (by omega) ?_
  refine e_as (show _ = u 18446744073709551615 from rfl) ?_
  refine (Qf 33) ?_
  refine e_stV (i := 1) 2 (Uz 24) rfl rfl rfl rfl rfl (by decide) (.inl rfl) ?_
  refine Qn<|Qs<|Qp<|(QD 1) ?_
  refine e_as (show _ = CV true f 18446744073709551615 from rfl) ?_
  refine (Qm) ?_
  refine e_call rfl (Un 12) (hOv G f _ _) rfl rfl ?_
  refine (Qm)<|(Qx)<|(Qx)<|(Qx)<|(QH 2) fun r3=>?_
  refine e_storeA (i := 2) (Uz 26) rfl rfl (arrv_size _ _) (cells_one ⟨fun _ => rfl, fun _ => rfl, fun _ => rfl, trivial⟩) rfl cells_sz (.inl rfl) ?_
  refine (Qa)<|(Qa)<|Qn<|Qs<|QR ⟨[], 4, [], none⟩ ?_
  refine e_buildS (cells 34 [pV (.bool false), pI .u8 32 (fun _ => 0), pV (.int .u64 0)]) (Ub 26) (Uu 26) pls26 rfl (by kernel_rfl) rfl ?_
  refine (Qm) ?_
  refine e_callN 3 (fun v => .tuple #[CZ, v, ii 0]) rfl rfl (Un 12) seenG (hPl G _ _ tx hvt htb (by omega)) (by simp only [maxLen]; omega) (by rw [List.length_map, Nat.mul_one]) rfl rfl fun v1_1 oz1_1 ho1_1 => ?_
  refine (Qm)<|(Qx)<|(Qx)<|(Qx)<|(QH 4) fun r5=>?_
  refine e_storeA (i := 4) (Uz 26) rfl rfl (arrv_size _ _) (cells_one ⟨fun _ => rfl, fun _ => rfl, fun _ => rfl, trivial⟩) rfl cells_sz (.inl rfl) ?_
  refine (Qa)<|(Qa)<|Qn<|Qs<|Qp ?_
  refine e_buildS (cells 34 [pV (.bool false), pI .u8 32 (fun _ => 0), pV (u 1)]) (Ub 26) (Uu 26) pls26 rfl (by kernel_rfl) rfl ?_
  refine (Qm) ?_
  refine e_call rfl (Un 12) (hBd G _ _) rfl rfl ?_
  refine (Qm)<|(Qx)<|(Qx)<|(Qx)<|(QH 5) fun r6=>?_
  refine e_storeA (i := 5) (Uz 26) rfl rfl (arrv_size _ _) (cells_one ⟨fun _ => rfl, fun _ => rfl, fun _ => rfl, trivial⟩) rfl cells_sz (.inl rfl) ?_
  refine (Qa)<|(Qa)<|Qn<|Qs<|Qp ?_
  refine e_buildS (cells 34 [pV (.bool false), pI .u8 32 (fun _ => 0), pV (.int .u64 0)]) (Ub 26) (Uu 26) pls26 rfl (by kernel_rfl) rfl ?_
  refine e_call rfl (Un 16) (hRn G) rfl rfl ?_
  refine (Qm)<|(Qx)<|(Qx)<|(QH 6) fun r7=>?_
  refine e_storeA (i := 6) (Uz 26) rfl rfl (arrv_size _ _) (cells_one ⟨fun _ => rfl, fun _ => rfl, fun _ => rfl, trivial⟩) rfl cells_sz (.inl rfl) ?_
  refine (Qa)<|Qn<|Qs<|Qp<|(Qf 33)<|(QV 2 1)<|(Qc) ?_
  refine e_as (congrArg Value.bool (decide_eq_true (by decide))) ?_
  refine (Qa)<|Qn<|Qs<|Qp<|(Qm)<|(Qm)<|(Qy)<|(Qm)<|(Qy)<|(Qc)<|(Qar)<|(QT)<|(Qm)<|(Qo)<|(Qo)<|(Qo)<|(Qw)<|(Qw)<|(Qo)<|(Qo)<|(Qw)<|(Qw)<|(Qw)<|(Qo)<|(QT)<|(Qm)<|(Qy)<|(Qm)<|(Qy)<|(Qc)<|(Qar)<|(QT)<|(Qm)<|(Qy)<|(QD 4)<|(Qy) ?_
  refine e_buildS (cells 34 [pV (.bool false), pI .u8 32 (fun _ => 0), pV (.int .u64 0)]) (Ub 26) (Uu 26) pls26 rfl (by kernel_rfl) rfl ?_
  refine (Qy) ?_
  refine e_eqSame sam26 eqg26 rfl rfl rfl ?_
  refine (QT)<|(Qm)<|(Qy)<|(Qm)<|(Qy) ?_
  refine e_conv_strV (l := tx) ho1_1.shows (seenM 3 rfl ⟨[], trivial⟩) (Uu 31) (Uu 5) (Uu 9) rfl rfl rfl ?_
  refine (Qy)<|(Qm)<|(Qy) ?_
  refine e_conv_strV (l := tx) hvt seenG (Uu 31) (Uu 5) (Uu 9) rfl rfl rfl ?_
  refine (Qy) ?_
  refine e_eqStr rfl rfl rfl htb htb ?_
  refine (Qar)<|(QT)<|(Qm)<|(Qy)<|(Qm)<|(Qy)<|(Qc)<|(Qar)<|(QT)<|(Qm)<|(Qy)<|(Qm)<|(Qy)<|(Qc)<|(Qar)<|(QT)<|(Qa)<|Qn<|Qr ?_
  exact ⟨_, rfl, .tmp rfl⟩
set_option maxHeartbeats 4000000 in
theorem cipherEnds_1 (f : Nat → Nat) (hf : L8 32 f) (v : Value) (l0 : List Nat) (z : Int) (hv : Sh G v l0) (hb : (∀ b ∈ l0, b < 256)) (hz : pkn z 2 = 1) (hBg : ∀ (G : Mem) (f : Nat → Nat), Fn Try.prog G 9 #[.agg (arr .u8 32 f)] (CV true f 0)) (hSl : ∀ (G : Mem) (k : Nat → Nat) (n : Nat) (va vt : Value) (ad tx : List Nat), (L8 32 k) → n < 18446744073709551615 → Sh G va ad → Sh G vt tx → (∀ b ∈ ad, b < 256) → (∀ b ∈ tx, b < 256) → ad.length ≤ 200 → tx.length ≤ 800 → Fx Try.prog G [] 12 #[CV true k n, va, vt] (fun v l1 nw => l1 = [] ∧ ∃ v', v = .tuple #[CV true k (n + 1), v', ii 0] ∧ OwnS 5 1 v' (sealL k (nonU n) ad tx).length ((sealL k (nonU n) ad tx).map by8) nw)) (hPl : ∀ (G : Mem) (va vt : Value) (tx : List Nat), Sh G vt tx → (∀ b ∈ tx, b < 256) → tx.length ≤ 800 → Fx Try.prog G [] 12 #[CZ, va, vt] (fun v l1 nw => l1 = [] ∧ ∃ v', v = .tuple #[CZ, v', ii 0] ∧ OwnS 5 1 v' tx.length (tx.map by8) nw)) (hBd : ∀ (G : Mem) (va vt : Value), Fn Try.prog G 12 #[CV false (fun _ => 0) 1, va, vt] (.tuple #[CZ, nilS, ii 9])) (hRn : ∀ (G : Mem), Fn Try.prog G 16 #[CZ] (.tuple #[CZ, ii 9])) : Fn Try.prog G 8 #[.agg (arr .u8 32 f), v, .int .i64 z] (.bool true) := by
  obtain ⟨tx, htx⟩ : ∃ tx, tx = l0.take 100 := ⟨_, rfl⟩
  have htl : tx.length ≤ 100 := by rw [htx]; simp; omega
  have htb : ∀ x ∈ tx, x < 256 := fun x hx => hb x (by rw [htx] at hx; exact List.mem_of_mem_take hx)
  have hvt : Shows G 1 (slPart 1 v 0 (min l0.length 100)) tx.length (tx.map by8) := hv.cut (by omega) (by omega) ((take_minN l0 100).trans htx.symm)
  refine Qf1 Try.func8 ?_
  refine Qs<|Qp<|(Qh 0) fun r1=>(Qa)<|Qn<|Qs<|Qp<|(Qm)<|(Qm)<|(QC hv) ?_
  refine e_min (q := 100) rfl rfl rfl rfl ?_
  refine e_sliceV 0 (min l0.length 100) hv (Uu 31) (Uz 5) rfl rfl rfl rfl ⟨_, rfl⟩ (by omega) (by omega) rfl ?_
  refine (Qa)<|Qn<|Qs<|Qp<|(Qd 0) ?_
  refine e_call rfl (Un 9) (hBg G f) rfl rfl ?_
  refine (QH 1) fun r2=>?_
  refine e_storeA (i := 1) (Uz 26) rfl rfl (arrv_size _ _) (cells_one ⟨fun _ => rfl, fun _ => rfl, fun _ => rfl, trivial⟩) rfl cells_sz (.inl rfl) ?_
  refine Qn<|Qs<|Qp<|(Qm) ?_
  refine e_call rfl (Un 18) (picked_fn z 2 (by decide) (by decide)) rfl rfl ?_
  refine e_as (congrArg ii hz) ?_
  refine e_conv_u (Uu 3) (Uu 24) rfl rfl rfl ?_
  refine e_sub_u (p := 18446744073709551615) rfl rfl rfl (by omega) ?_
  refine e_as (show _ = u 18446744073709551614 from rfl) ?_
  refine (Qf 33) ?_
  refine e_stV (i := 1) 2 (Uz 24) rfl rfl rfl rfl rfl (by decide) (.inl rfl) ?_
  refine Qn<|Qs<|QR ⟨[], 4, [], none⟩<|(QD 1) ?_
  refine e_as (show _ = CV true f 18446744073709551614 from rfl) ?_
  refine (Qm) ?_
  refine e_callN 2 (fun v => .tuple #[CV true f 18446744073709551615, v, ii 0]) rfl rfl (Un 12) seenG (hSl G f 18446744073709551614 _ _ [] tx hf (by decide) (NILG G) hvt (by simp) htb (by decide) (by omega)) (by rw [sealL_len]; simp only [maxLen]; omega) (by rw [List.length_map, Nat.mul_one]) rfl rfl fun v1_1 oz1_1 ho1_1 => ?_
  refine (Qm)<|(Qx)<|(Qx)<|(Qx)<|(QH 3) fun r4=>?_
  refine e_storeA (i := 3) (Uz 26) rfl rfl (arrv_size _ _) (cells_one ⟨fun _ => rfl, fun _ => rfl, fun _ => rfl, trivial⟩) rfl cells_sz (.inl rfl) ?_
  refine (Qa)<|(Qa)<|Qn<|Qs<|QR ⟨[], 4, [], none⟩ ?_
  refine e_buildS (cells 34 [pV (.bool false), pI .u8 32 (fun _ => 0), pV (.int .u64 0)]) (Ub 26) (Uu 26) pls26 rfl (by kernel_rfl) rfl ?_
  refine (Qm) ?_
  refine e_callN 4 (fun v => .tuple #[CZ, v, ii 0]) rfl rfl (Un 12) seenG (hPl G _ _ tx hvt htb (by omega)) (by simp only [maxLen]; omega) (by rw [List.length_map, Nat.mul_one]) rfl rfl fun v1_2 oz1_2 ho1_2 => ?_
  refine (Qm)<|(Qx)<|(Qx)<|(Qx)<|(QH 5) fun r6=>?_
  refine e_storeA (i := 5) (Uz 26) rfl rfl (arrv_size _ _) (cells_one ⟨fun _ => rfl, fun _ => rfl, fun _ => rfl, trivial⟩) rfl cells_sz (.inl rfl) ?_
  refine (Qa)<|(Qa)<|Qn<|Qs<|Qp ?_
  refine e_buildS (cells 34 [pV (.bool false), pI .u8 32 (fun _ => 0), pV (u 1)]) (Ub 26) (Uu 26) pls26 rfl (by kernel_rfl) rfl ?_
  refine (Qm) ?_
  refine e_call rfl (Un 12) (hBd G _ _) rfl rfl ?_
  refine (Qm)<|(Qx)<|(Qx)<|(Qx)<|(QH 6) fun r7=>?_
  refine e_storeA (i := 6) (Uz 26) rfl rfl (arrv_size _ _) (cells_one ⟨fun _ => rfl, fun _ => rfl, fun _ => rfl, trivial⟩) rfl cells_sz (.inl rfl) ?_
  refine (Qa)<|(Qa)<|Qn<|Qs<|Qp ?_
  refine e_buildS (cells 34 [pV (.bool false), pI .u8 32 (fun _ => 0), pV (.int .u64 0)]) (Ub 26) (Uu 26) pls26 rfl (by kernel_rfl) rfl ?_
  refine e_call rfl (Un 16) (hRn G) rfl rfl ?_
  refine (Qm)<|(Qx)<|(Qx)<|(QH 7) fun r8=>?_
  refine e_storeA (i := 7) (Uz 26) rfl rfl (arrv_size _ _) (cells_one ⟨fun _ => rfl, fun _ => rfl, fun _ => rfl, trivial⟩) rfl cells_sz (.inl rfl) ?_
  refine (Qa)<|Qn<|Qs<|Qp<|(Qf 33)<|(QV 2 1)<|(Qc) ?_
  refine e_as (congrArg Value.bool (decide_eq_false (by decide))) ?_
  refine (Qa)<|Qn<|Qs<|Qp<|(Qm)<|(Qm)<|(Qo)<|(Qo)<|(QF)<|(Qm)<|(Qy)<|(Qm)<|(Qy)<|(Q0)<|(Qy)<|(Qm)<|(Qy)<|(Qm)<|(Qy)<|(Qc)<|(Qar)<|(Qy)<|(QT)<|(Qy)<|(Qm)<|(Qy)<|(Qf 33)<|(Qy)<|(QV 2 3)<|(Qy)<|(Qc)<|(Qar)<|(Qy)<|(QT)<|(QF)<|(Qm)<|(Qy)<|(Qm)<|(Qy)<|(Qc)<|(Qar)<|(QT)<|(Qm)<|(Qy)<|(QD 5)<|(Qy) ?_
  refine e_buildS (cells 34 [pV (.bool false), pI .u8 32 (fun _ => 0), pV (.int .u64 0)]) (Ub 26) (Uu 26) pls26 rfl (by kernel_rfl) rfl ?_
  refine (Qy) ?_
  refine e_eqSame sam26 eqg26 rfl rfl rfl ?_
  refine (QT)<|(Qm)<|(Qy)<|(Qm)<|(Qy) ?_
  refine e_conv_strV (l := tx) ho1_2.shows (seenM 4 rfl ⟨[], trivial⟩) (Uu 31) (Uu 5) (Uu 9) rfl rfl rfl ?_
  refine (Qy)<|(Qm)<|(Qy) ?_
  refine e_conv_strV (l := tx) hvt seenG (Uu 31) (Uu 5) (Uu 9) rfl rfl rfl ?_
  refine (Qy) ?_
  refine e_eqStr rfl rfl rfl htb htb ?_
  refine (Qar)<|(QT)<|(Qm)<|(Qy)<|(Qm)<|(Qy)<|(Qc)<|(Qar)<|(QT)<|(Qm)<|(Qy)<|(Qm)<|(Qy)<|(Qc)<|(Qar)<|(QT)<|(Qa)<|Qn<|Qr ?_
  exact ⟨_, rfl, .tmp rfl⟩
end Go.Proofs.Ytmhpifphohcfmaa
namespace Go.Proofs.Ytmhpifphohcfmaa
open Go Go.RowKit
variable {G : Mem}
set_option maxHeartbeats 400000 in
theorem some_fn (v : Value) (rs : List RawT) (m : Nat) (hv : Shows G 4 v rs.length (rs.flatMap rawC)) : Fn Try.prog G 19 #[v, ii m] (slPart 4 v 0 (min rs.length m)) := by
  refine Qf1 Try.func19 ?_
  refine Qs<|Qp<|(Qa)<|Qn<|Qs<|Qp<|(Qm)<|(Qm)<|(QC hv)<|(Qm) ?_
  refine e_min rfl rfl rfl rfl ?_
  refine e_sliceV 0 (min rs.length m) hv (Uu 40) (Uz 44) rfl rfl rfl rfl ⟨_, rfl⟩ (by omega) (by omega) rfl ?_
  refine (Qa)<|Qn<|Qr ?_
  exact ⟨_, rfl, .tmp rfl⟩
set_option maxHeartbeats 400000 in
theorem cut_fn (l : List Nat) (m : Nat) : Fn Try.prog G 20 #[sv l, ii m] (sv (l.take m)) := by
  refine Qf1 Try.func20 ?_
  refine Qs<|Qp ?_
  refine e_assign (v := sv []) rfl rfl ?_
  refine Qn<|Qs<|Qp<|(Qm)<|(Qm)<|(QU)<|(Qm) ?_
  refine e_min rfl rfl rfl rfl ?_
  refine e_sliceStr 0 (min l.length m) (Uu 9) rfl rfl rfl rfl ⟨_, rfl⟩ (by omega) (by omega) rfl ?_
  refine e_as (congrArg sv (take_minN l m)) ?_
  refine (Qa)<|Qn<|Qr ?_
  exact ⟨_, rfl, .tmp rfl⟩
set_option maxHeartbeats 8000000 in
theorem cipherTalk_fn (f : Nat → Nat) (hf : L8 32 f) (v : Value) (rs : List RawT) (z : Int) (hv : Shows G 4 v rs.length (rs.flatMap rawC)) (hr : ∀ r ∈ rs, rawOk r) (hBg : ∀ (G : Mem) (f : Nat → Nat), Fn Try.prog G 9 #[.agg (arr .u8 32 f)] (CV true f 0)) (hSl : ∀ (G : Mem) (k : Nat → Nat) (n : Nat) (va vt : Value) (ad tx : List Nat), (L8 32 k) → n < 18446744073709551615 → Sh G va ad → Sh G vt tx → (∀ b ∈ ad, b < 256) → (∀ b ∈ tx, b < 256) → ad.length ≤ 200 → tx.length ≤ 800 → Fx Try.prog G [] 12 #[CV true k n, va, vt] (fun v l1 nw => l1 = [] ∧ ∃ v', v = .tuple #[CV true k (n + 1), v', ii 0] ∧ OwnS 5 1 v' (sealL k (nonU n) ad tx).length ((sealL k (nonU n) ad tx).map by8) nw)) (hOp : ∀ (G : Mem) (k : Nat → Nat) (n : Nat) (va vt : Value) (ad tx : List Nat), (L8 32 k) → n < 18446744073709551615 → Sh G va ad → Sh G vt tx → (∀ b ∈ ad, b < 256) → (∀ b ∈ tx, b < 256) → ad.length ≤ 200 → 16 ≤ tx.length → tx.length ≤ 816 → opensL k (nonU n) ad tx → Fx Try.prog G [] 15 #[CV true k n, va, vt] (fun v l1 nw => l1 = [] ∧ ∃ v', v = .tuple #[CV true k (n + 1), v', ii 0] ∧ OwnS 5 1 v' (openL k (nonU n) tx).length ((openL k (nonU n) tx).map by8) nw)) (hRk : ∀ (G : Mem) (k : Nat → Nat) (n : Nat), (L8 32 k) → Fn Try.prog G 16 #[CV true k n] (.tuple #[CV true (rek k) n, ii 0])) : Fn Try.prog G 7 #[.agg (arr .u8 32 f), v, .int .i64 z] (.bool true) := by
  obtain ⟨n0, hn0⟩ : ∃ n0, n0 = pkn z 1000 := ⟨_, rfl⟩
  have hn1 : n0 < 1000 := by rw [hn0]; exact pkn_lt z (by decide)
  obtain ⟨q, hq⟩ : ∃ q, q = rs.take 8 := ⟨_, rfl⟩
  have hql : q.length ≤ 8 := by rw [hq]; simp; omega
  have hvq : Shows G 4 (slPart 4 v 0 (min rs.length 8)) q.length (q.flatMap rawC) := by rw [hq]; exact shows_some 8 hv
  have hrq : ∀ r ∈ q, rawOk r := fun r h => hr r (by rw [hq] at h; exact List.mem_of_mem_take h)
  refine Qf1 Try.func7 ?_
  refine Qs<|Qp<|(Qh 0) fun r1=>(Qa)<|Qn<|Qs<|Qp<|(Qd 0) ?_
  refine e_call rfl (Un 9) (hBg G f) rfl rfl ?_
  refine (QH 1) fun r2=>?_
  refine e_storeA (i := 1) (Uz 26) rfl rfl (arrv_size _ _) (cells_one ⟨fun _ => rfl, fun _ => rfl, fun _ => rfl, trivial⟩) rfl cells_sz (.inl rfl) ?_
  refine Qn<|Qs<|Qp<|(Qm) ?_
  refine e_call rfl (Un 18) (picked_fn z 1000 (by decide) (by decide)) rfl rfl ?_
  refine e_as (congrArg ii hn0.symm) ?_
  refine e_conv_u (Uu 3) (Uu 24) rfl rfl rfl ?_
  refine e_as (congrArg u (Nat.mod_eq_of_lt (show n0 < 18446744073709551616 by omega))) ?_
  refine (Qf 33) ?_
  refine e_stV (i := 1) 2 (Uz 24) rfl rfl rfl rfl rfl (by decide) (.inl rfl) ?_
  refine Qn<|Qs<|Qp<|(QD 1)<|(QH 2) fun r3=>?_
  refine e_storeA (i := 2) (Uz 26) rfl rfl (arrv_size _ _) (cells_one ⟨fun _ => rfl, fun _ => rfl, fun _ => rfl, trivial⟩) rfl cells_sz (.inl rfl) ?_
  refine Qn<|Qs<|Qs<|Qp<|(Qm) ?_
  refine e_call rfl (Un 19) (some_fn v rs 8 hv) rfl rfl ?_
  refine (QC hvq)<|(Qm)<|Qn<|Qb ?_
  refine QzK [(7, _), (8, _), (34, _), (35, _)] [(0, _)] (fun kk E m => ∃ (i : Nat) (ky : Nat → Nat) (nu : Nat), kk = q.length - i ∧ E = [(36, ii i)] ∧ m = [(1, some ⟨r2, cells 34 [pV (.bool true), pI .u8 32 ky, pV (u nu)], 26⟩), (2, some ⟨r3, cells 34 [pV (.bool true), pI .u8 32 ky, pV (u nu)], 26⟩)] ∧ (i ≤ q.length) ∧ (∀ j, j < 32 → ky j < 256) ∧ (nu ≤ 1000 + i)) ⟨0, f, n0, rfl, rfl, rfl, by omega, hf, by omega⟩ ⟨rfl, rfl, rfl, rfl, rfl, trivial⟩ ⟨rfl, rfl, rfl, trivial⟩ ?_
  rintro kk E m ⟨i, ky, nu, rfl, rfl, rfl, hf0_0, hf0_1, hf0_2⟩
  simp only [catE, catL]
  refine Qs<|Qp<|(Ql)<|Qn<|Qs ?_
  refine e_cond rfl ?_ ?_
  · intro hc0
    have hc0 : i < q.length := by have := of_decide_eq_true hc0; omega
    have hok := hrq q[i] (List.getElem_mem hc0)
    obtain ⟨ad, had⟩ : ∃ ad, ad = q[i].t.take 5 := ⟨_, rfl⟩
    obtain ⟨tx, htx⟩ : ∃ tx, tx = q[i].t.take 50 := ⟨_, rfl⟩
    have hal : ad.length ≤ 5 := by rw [had]; simp; omega
    have htl : tx.length ≤ 50 := by rw [htx]; simp; omega
    have hab : ∀ x ∈ ad, x < 256 := fun x h => hok.1 x (by rw [had] at h; exact List.mem_of_mem_take h)
    have htb : ∀ x ∈ tx, x < 256 := fun x h => hok.1 x (by rw [htx] at h; exact List.mem_of_mem_take h)
    refine Qk<|Qs<|Qb<|Qs<|Qp ?_
    refine e_atV hvq (Uu 40) (Uz 44) rfl rfl (by omega) rfl ?_
    refine e_loadVS hvq seenG (Uu 44) rfl (Uz 44) rfl (by decide) (by rw [flatMap_len rawC_len]; omega) (flatMap_at rawC_len q i hc0) rfl ?_
    refine e_as (raw_cells q[i]) ?_
    refine (QH 3) fun r4=>?_
    refine e_storeA (i := 3) (Uz 44) rfl rfl (arrv_size _ _) (cells_one ⟨fun _ => rfl, fun _ => rfl, fun _ => rfl, fun _ => rfl, trivial⟩) rfl cells_sz (.inl rfl) ?_
    refine Qn<|Qs ?_
    refine e_order ⟨[], 1, [31], none⟩ [0, 1, 2, 4, 5, 6, 7, 8, 9, 10, 3, 11, 12, 13] mixed (by kernel_rfl) ?_
    refine (Qf 3)<|(QV 3 3) ?_
    refine e_call rfl (Un 20) (cut_fn q[i].t 5) rfl rfl ?_
    refine e_as (congrArg sv had.symm) ?_
    refine (Qf 3)<|(QV 3 3)<|(Qf 3)<|(QV 3 3)<|(QU) ?_
    refine e_min (q := 50) rfl rfl rfl rfl ?_
    refine e_sliceStr 0 (min q[i].t.length 50) (Uu 9) rfl rfl rfl rfl ⟨_, rfl⟩ (by omega) (by omega) rfl ?_
    refine e_as (congrArg sv ((take_minN _ 50).trans htx.symm)) ?_
    refine e_conv_own 4 (Uu 9) (Uu 31) (Uu 5) rfl hab (by simp only [maxLen]; omega) rfl rfl fun v2_1 oz2_1 ho2_1 => ?_
    refine e_conv_own 5 (Uu 9) (Uu 31) (Uu 5) rfl htb (by simp only [maxLen]; omega) rfl rfl fun v2_2 oz2_2 ho2_2 => ?_
    refine (Qa)<|(Qa)<|Qn<|Qs<|QR ⟨[], 4, [], none⟩<|(QD 1) ?_
    refine e_as (show _ = CV true ky nu from rfl) ?_
    refine (Qm)<|(Qm) ?_
    refine e_callN 6 (fun v => .tuple #[CV true ky (nu + 1), v, ii 0]) rfl rfl (Un 12) (seen_app (seenM 4 rfl ⟨[], trivial⟩) (seenM 5 rfl ⟨[], trivial⟩)) (hSl (oz2_1.toList ++ oz2_2.toList) ky nu _ _ ad tx hf0_1 (by omega) ((own_bytes ho2_1).mono (fun x h => List.mem_append_left _ h)) ((own_bytes ho2_2).mono (fun x h => List.mem_append_right _ h)) hab htb (by omega) (by omega)) (by rw [sealL_len]; simp only [maxLen]; omega) (by rw [List.length_map, Nat.mul_one]) rfl rfl fun v2_3 oz2_3 ho2_3 => ?_
    refine (Qm)<|(Qx)<|(Qx)<|(Qx)<|(QH 7) fun r8=>?_
    refine e_storeA (i := 7) (Uz 26) rfl rfl (arrv_size _ _) (cells_one ⟨fun _ => rfl, fun _ => rfl, fun _ => rfl, trivial⟩) rfl cells_sz (.inl rfl) ?_
    refine (Qa)<|(Qa)<|Qn<|Qs<|QR ⟨[], 4, [], none⟩<|(QD 2) ?_
    refine e_as (show _ = CV true ky nu from rfl) ?_
    refine (Qm)<|(Qm) ?_
    refine e_callN 8 (fun v => .tuple #[CV true ky (nu + 1), v, ii 0]) rfl rfl (Un 15) (seen_app (seenM 4 rfl ⟨[], trivial⟩) (seenM 6 rfl ⟨[], trivial⟩)) (hOp (oz2_1.toList ++ oz2_3.toList) ky nu _ _ ad (sealL ky (nonU nu) ad tx) hf0_1 (by omega) ((own_bytes ho2_1).mono (fun x h => List.mem_append_left _ h)) ((own_bytes ho2_3).mono (fun x h => List.mem_append_right _ h)) hab (sealL_lt _ _ _ _) (by omega) (by rw [sealL_len]; omega) (by rw [sealL_len]; omega) (seal_opens _ _ _ _)) (by rw [openL_len, sealL_len]; simp only [maxLen]; omega) (by rw [List.length_map, Nat.mul_one]) rfl rfl fun v2_4 oz2_4 ho2_4 => ?_
    refine (Qm)<|(Qx)<|(Qx)<|(Qx)<|(QH 9) fun r10=>?_
    refine e_storeA (i := 9) (Uz 26) rfl rfl (arrv_size _ _) (cells_one ⟨fun _ => rfl, fun _ => rfl, fun _ => rfl, trivial⟩) rfl cells_sz (.inl rfl) ?_
    refine (Qa)<|(Qa)<|Qn<|Qs<|Qs<|Qp<|(Qm)<|(QN) ?_
    refine e_as (congrArg Value.bool (decide_eq_false (fun h => h rfl))) ?_
    refine (Qm)<|(Qy)<|(Qm)<|(Qy)<|(QN) ?_
    refine e_as (congrArg Value.bool (decide_eq_false (fun h => h rfl))) ?_
    refine (QF)<|(Qm)<|(Qy)<|(QD 7)<|(Qy)<|(QD 9)<|(Qy) ?_
    refine e_neSame sam26 eqg26 rfl rfl rfl ?_
    refine (QF)<|(Qm)<|(Qy)<|(Qm)<|(Qy) ?_
    refine e_conv_strV (l := (openL ky (nonU nu) (sealL ky (nonU nu) ad tx))) (own_bytes ho2_4) (seenM 8 rfl ⟨[], trivial⟩) (Uu 31) (Uu 5) (Uu 9) rfl rfl rfl ?_
    refine e_as (congrArg sv (seal_open ky (nonU nu) ad htb)) ?_
    refine (Qy)<|(Qm)<|(Qy) ?_
    refine e_conv_strV (l := tx) (own_bytes ho2_2) (seenM 5 rfl ⟨[], trivial⟩) (Uu 31) (Uu 5) (Uu 9) rfl rfl rfl ?_
    refine (Qy) ?_
    refine e_neStr rfl rfl rfl htb htb ?_
    refine e_as (congrArg Value.bool (decide_eq_false (fun h => h rfl))) ?_
    refine (QF)<|(Qm)<|(Qy)<|(Qf 33)<|(Qy)<|(QV 2 7)<|(Qy)<|(Qf 33)<|(Qy)<|(QV 2 1)<|(Qy) ?_
    refine e_add_u (q := 1) rfl rfl rfl  ?_
    refine e_as (congrArg u (Nat.mod_eq_of_lt (show nu + 1 < 18446744073709551616 by omega))) ?_
    refine (Qy)<|(QN) ?_
    refine e_as (congrArg Value.bool (decide_eq_false (fun h => h rfl))) ?_
    refine (QF)<|Qn ?_
    refine e_cond rfl ?_ ?_
    · intro hc1
      exact absurd hc1 (by decide)
    · intro hc1
      refine Qk<|Qs<|(Qq ⟨[r2, r3], 1, [], none⟩) ?_
      refine e_loadA (i := 7) (Uu 26) rfl (Uz 26) rfl rfl (arrv_size _ _) rfl ⟨[1, 2], rfl, rfl, rfl, rfl, trivial⟩ ?_
      refine e_loadA (i := 9) (Uu 26) rfl (Uz 26) rfl rfl (arrv_size _ _) rfl ⟨[1, 2], rfl, rfl, rfl, rfl, trivial⟩ ?_
      refine e_storeA (i := 1) (Uz 26) rfl rfl (arrv_size _ _) (cells_one ⟨fun _ => rfl, fun _ => rfl, fun _ => rfl, trivial⟩) rfl cells_sz (.inr (by simp)) ?_
      refine e_storeA (i := 2) (Uz 26) rfl rfl (arrv_size _ _) (cells_one ⟨fun _ => rfl, fun _ => rfl, fun _ => rfl, trivial⟩) rfl cells_sz (.inr (by simp)) ?_
      refine Qn<|Qs<|Qp<|(Qf 0)<|(QV 0 3) ?_
      refine e_call rfl (Un 18) (picked_fn _ 4 (by decide) (by decide)) rfl rfl ?_
      refine (Qc)<|Qn ?_
      refine e_cond rfl ?_ ?_
      · intro hc2
        obtain ⟨k2, hk2⟩ : ∃ k2, k2 = rek ky := ⟨_, rfl⟩
        have hk2b : ∀ j, j < 32 → k2 j < 256 := by rw [hk2]; exact rek_lt _
        refine Qs<|Qp<|(QD 1) ?_
        refine e_as (show _ = CV true ky (nu + 1) from rfl) ?_
        refine e_call rfl (Un 16) (hRk G ky (nu + 1) hf0_1) rfl rfl ?_
        refine e_as (congrArg (fun z => Value.tuple #[CV true z (nu + 1), ii 0]) hk2.symm) ?_
        refine (Qm)<|(Qx)<|(Qx)<|(QH 10) fun r11=>?_
        refine e_storeA (i := 10) (Uz 26) rfl rfl (arrv_size _ _) (cells_one ⟨fun _ => rfl, fun _ => rfl, fun _ => rfl, trivial⟩) rfl cells_sz (.inl rfl) ?_
        refine (Qa)<|Qn<|Qs<|Qp<|(QD 2) ?_
        refine e_as (show _ = CV true ky (nu + 1) from rfl) ?_
        refine e_call rfl (Un 16) (hRk G ky (nu + 1) hf0_1) rfl rfl ?_
        refine e_as (congrArg (fun z => Value.tuple #[CV true z (nu + 1), ii 0]) hk2.symm) ?_
        refine (Qm)<|(Qx)<|(Qx)<|(QH 11) fun r12=>?_
        refine e_storeA (i := 11) (Uz 26) rfl rfl (arrv_size _ _) (cells_one ⟨fun _ => rfl, fun _ => rfl, fun _ => rfl, trivial⟩) rfl cells_sz (.inl rfl) ?_
        refine (Qa)<|Qn<|Qs<|Qs<|Qp<|(Qm)<|(QN) ?_
        refine e_as (congrArg Value.bool (decide_eq_false (fun h => h rfl))) ?_
        refine (Qm)<|(Qy)<|(Qm)<|(Qy)<|(QN) ?_
        refine e_as (congrArg Value.bool (decide_eq_false (fun h => h rfl))) ?_
        refine (QF)<|(Qm)<|(Qy)<|(QD 10)<|(Qy)<|(QD 11)<|(Qy) ?_
        refine e_neSame sam26 eqg26 rfl rfl rfl ?_
        refine (QF)<|(Qm)<|(Qy)<|(Qf 33)<|(Qy)<|(QV 2 10)<|(Qy)<|(Qf 33)<|(Qy)<|(QV 2 1)<|(Qy)<|(QN) ?_
        refine e_as (congrArg Value.bool (decide_eq_false (fun h => h rfl))) ?_
        refine (QF)<|Qn ?_
        refine e_cond rfl ?_ ?_
        · intro hc3
          exact absurd hc3 (by decide)
        · intro hc3
          refine Qk<|(Qq ⟨[r2, r3], 1, [], none⟩) ?_
          refine e_loadA (i := 10) (Uu 26) rfl (Uz 26) rfl rfl (arrv_size _ _) rfl ⟨[1, 2], rfl, rfl, rfl, rfl, trivial⟩ ?_
          refine e_loadA (i := 11) (Uu 26) rfl (Uz 26) rfl rfl (arrv_size _ _) rfl ⟨[1, 2], rfl, rfl, rfl, rfl, trivial⟩ ?_
          refine e_storeA (i := 1) (Uz 26) rfl rfl (arrv_size _ _) (cells_one ⟨fun _ => rfl, fun _ => rfl, fun _ => rfl, trivial⟩) rfl cells_sz (.inr (by simp)) ?_
          refine e_storeA (i := 2) (Uz 26) rfl rfl (arrv_size _ _) (cells_one ⟨fun _ => rfl, fun _ => rfl, fun _ => rfl, trivial⟩) rfl cells_sz (.inr (by simp)) ?_
          refine Qn<|Qp<|(Q2 1)<|(Qm)<|Qn ?_
          refine QzL ⟨i + 1, _, _, rfl, rfl, rfl, by omega, (by first | exact hf0_1 | exact hk2b), by omega⟩ ⟨rfl, rfl, rfl, rfl, rfl, trivial⟩ ⟨rfl, rfl, rfl, trivial⟩ ?_
          omega
      · intro hc2
        have hc2 := of_decide_eq_false hc2
        refine Qk<|Qp<|(Q2 1)<|(Qm)<|Qn ?_
        refine QzL ⟨i + 1, _, _, rfl, rfl, rfl, by omega, (by first | exact hf0_1 | exact hk2b), by omega⟩ ⟨rfl, rfl, rfl, rfl, rfl, trivial⟩ ⟨rfl, rfl, rfl, trivial⟩ ?_
        omega
  · intro hc0
    have hc0 := of_decide_eq_false hc0
    have hz0 : i = q.length := by omega
    refine Qe<|Qs<|QR ⟨[], 4, [], none⟩<|(QD 1) ?_
    refine e_as (show _ = CV true ky nu from rfl) ?_
    refine e_callN 3 (fun v => .tuple #[CV true ky (nu + 1), v, ii 0]) rfl rfl (Un 12) seenG (hSl G ky nu _ _ [] [] hf0_1 (by omega) (NILG G) (NILG G) (by simp) (by simp) (by decide) (by decide)) (by rw [sealL_len]; decide) (by rw [List.length_map, Nat.mul_one]) rfl rfl fun v2_1 oz2_1 ho2_1 => ?_
    refine (Qm)<|(Qx)<|(Qx)<|(Qx)<|(QH 4) fun r5=>?_
    refine e_storeA (i := 4) (Uz 26) rfl rfl (arrv_size _ _) (cells_one ⟨fun _ => rfl, fun _ => rfl, fun _ => rfl, trivial⟩) rfl cells_sz (.inl rfl) ?_
    refine (Qa)<|(Qa)<|Qn<|Qs<|Qp<|(Qm)<|(Qc)<|(Qar)<|(Qm)<|(Qy)<|(Qm)<|(Qy)<|(QC ho2_1.shows) ?_
    refine e_as (congrArg ii (show (sealL ky (nonU nu) [] []).length = 16 by rw [sealL_len]; rfl)) ?_
    refine (Qy)<|(Qc)<|(Qar)<|(QT)<|(Qa)<|Qn<|Qr ?_
    exact ⟨_, rfl, .tmp rfl⟩
end Go.Proofs.Ytmhpifphohcfmaa
namespace Go.Proofs.Ytmhpifphohcfmaa
open Go Go.RowKit
variable {G : Mem}
set_option maxHeartbeats 400000 in
theorem rot32_fn (x s : Nat) (hs : s < 32) : Fn Try.prog G 62 #[uw x, ii s] (uw (rotl x s)) := by
  refine Qf1 Try.func62 ?_
  refine Qs<|Qp<|(Qa)<|Qn<|Qs<|Qp<|(Qm) ?_
  refine e_conv_u (Uu 3) (Uu 104) rfl rfl rfl ?_
  refine e_as (congrArg u (Nat.mod_eq_of_lt (show s < 18446744073709551616 by omega))) ?_
  refine (Q9 31) ?_
  refine e_as (congrArg u (and31 hs)) ?_
  refine (Qa)<|Qn<|Qs<|Qp<|(Qm)<|(Qm) ?_
  refine e_shl_w rfl rfl rfl (by omega) ?_
  refine (Qm)<|(Qm) ?_
  refine e_sub_u (p := 32) rfl rfl rfl (by omega) ?_
  refine e_as (congrArg u (show (32 + 18446744073709551616 - s) % 18446744073709551616 = 32 - s by omega)) ?_
  refine e_shr_w rfl rfl rfl (by omega) ?_
  refine e_or_w rfl rfl rfl  ?_
  refine (Qa)<|Qn<|Qr ?_
  exact ⟨_, rfl, .tmp rfl⟩
set_option maxHeartbeats 400000 in
theorem quarter_fn (f : Nat → Nat) (r a b c d : Nat) (ha : a < 16) (hb : b < 16) (hc : c < 16) (hd : d < 16) : Fx Try.prog G [⟨r, arr .u32 16 f, 75⟩] 61 #[ii a, ii b, ii c, ii d, ptr r] (fun v l1 nw => v = .tuple #[] ∧ l1 = [⟨r, arr .u32 16 (qst f a b c d), 75⟩] ∧ nw = []) := by
  refine QfW Try.func61 ?_
  refine Qs<|(Qg)<|(Qm)<|(Qi)<|(Q1 0)<|(Qm)<|(Qi)<|(Q1 0) ?_
  refine e_add_w rfl rfl rfl  ?_
  refine (Qi)<|(Qu 0)<|Qn<|Qs<|(Qg)<|(Qm)<|(Qm)<|(Qi)<|(Q1 0)<|(Qm)<|(Qi)<|(Q1 0) ?_
  refine e_xor_w rfl rfl rfl  ?_
  refine e_call rfl (Un 62) (rot32_fn _ _ (by decide)) rfl rfl ?_
  refine (Qi)<|(Qu 0)<|Qn<|Qs<|(Qg)<|(Qm)<|(Qi)<|(Q1 0)<|(Qm)<|(Qi)<|(Q1 0) ?_
  refine e_add_w rfl rfl rfl  ?_
  refine (Qi)<|(Qu 0)<|Qn<|Qs<|(Qg)<|(Qm)<|(Qm)<|(Qi)<|(Q1 0)<|(Qm)<|(Qi)<|(Q1 0) ?_
  refine e_xor_w rfl rfl rfl  ?_
  refine e_call rfl (Un 62) (rot32_fn _ _ (by decide)) rfl rfl ?_
  refine (Qi)<|(Qu 0)<|Qn<|Qs<|(Qg)<|(Qm)<|(Qi)<|(Q1 0)<|(Qm)<|(Qi)<|(Q1 0) ?_
  refine e_add_w rfl rfl rfl  ?_
  refine (Qi)<|(Qu 0)<|Qn<|Qs<|(Qg)<|(Qm)<|(Qm)<|(Qi)<|(Q1 0)<|(Qm)<|(Qi)<|(Q1 0) ?_
  refine e_xor_w rfl rfl rfl  ?_
  refine e_call rfl (Un 62) (rot32_fn _ _ (by decide)) rfl rfl ?_
  refine (Qi)<|(Qu 0)<|Qn<|Qs<|(Qg)<|(Qm)<|(Qi)<|(Q1 0)<|(Qm)<|(Qi)<|(Q1 0) ?_
  refine e_add_w rfl rfl rfl  ?_
  refine (Qi)<|(Qu 0)<|Qn<|(Qg)<|(Qm)<|(Qm)<|(Qi)<|(Q1 0)<|(Qm)<|(Qi)<|(Q1 0) ?_
  refine e_xor_w rfl rfl rfl  ?_
  refine e_call rfl (Un 62) (rot32_fn _ _ (by decide)) rfl rfl ?_
  refine (Qi)<|(Qu 0)<|Qn ?_
  exact ⟨rfl, 0, rfl⟩
set_option maxHeartbeats 2000000 in
theorem rounds_fn (f : Nat → Nat) : Fn Try.prog G 48 #[.agg (arr .u32 16 f)] (.agg (arr .u32 16 (dbls f 10))) := by
  refine Qf1 Try.func48 ?_
  refine Qs<|Qp<|(Qh 0) fun r1=>(QH 1) fun r2=>Qn<|Qs<|Qp<|(QY)<|(Qa)<|Qn<|Qs<|Qs<|Qp<|(Qm)<|Qn<|Qb ?_
  refine Qz (fun kk E m => ∃ (n : Nat), kk = 10 - n ∧ E = [(1, ptr r1), (2, ptr r2), (3, .func (.func 61) #[] #[ptr r1]), (7, ii n)] ∧ m = [(0, some ⟨r1, arr .u32 16 (twoN f n), 75⟩), (1, some ⟨r2, arr .u32 16 (fun _ => 0), 75⟩)] ∧ (n ≤ 10)) ⟨0, rfl, rfl, rfl, by omega⟩ ⟨rfl, rfl, rfl, rfl, trivial⟩ ⟨rfl, rfl, trivial⟩ ?_
  rintro kk E m ⟨n, rfl, rfl, rfl, hf0_0⟩
  refine Qs<|Qp<|(Ql)<|Qn<|Qs ?_
  refine e_cond rfl ?_ ?_
  · intro hc0
    have hc0 := of_decide_eq_true hc0
    refine Qk<|Qs<|Qb<|Qs<|Qs<|Qp<|(Qm)<|Qn<|Qb ?_
    refine Qz (fun kk E m => ∃ (i : Nat), kk = 4 - i ∧ E = [(1, ptr r1), (2, ptr r2), (3, .func (.func 61) #[] #[ptr r1]), (7, ii n), (9, ii i)] ∧ m = [(0, some ⟨r1, arr .u32 16 (colN (twoN f n) i), 75⟩), (1, some ⟨r2, arr .u32 16 (fun _ => 0), 75⟩)] ∧ (i ≤ 4)) ⟨0, rfl, rfl, rfl, by omega⟩ ⟨rfl, rfl, rfl, rfl, rfl, trivial⟩ ⟨rfl, rfl, trivial⟩ ?_
    rintro kk E m ⟨i, rfl, rfl, rfl, hf1_0⟩
    refine Qs<|Qp<|(Ql)<|Qn<|Qs ?_
    refine e_cond rfl ?_ ?_
    · intro hc1
      have hc1 := of_decide_eq_true hc1
      refine Qk<|Qs<|Qb<|Qs<|Qp<|(Qm)<|(Qa)<|Qn<|QR ⟨[], 5, [], none⟩<|(Qm)<|(Qm)<|(Qm) ?_
      refine e_add_i (p := 4) rfl rfl rfl (by omega) ?_
      refine (Qm) ?_
      refine e_add_i (p := 8) rfl rfl rfl (by omega) ?_
      refine (Qm) ?_
      refine e_add_i (p := 12) rfl rfl rfl (by omega) ?_
      refine e_callW 0 rfl rfl (Un 61) rfl (by simp) (quarter_fn (G := []) _ r1 i (4 + i) (8 + i) (12 + i) (by omega) (by omega) (by omega) (by omega)) rfl rfl ?_
      refine Qn<|Qp<|(Q2 1)<|(Qm)<|Qn ?_
      refine Qzr ⟨i + 1, rfl, rfl, rfl, by omega⟩ ⟨rfl, rfl, rfl, rfl, rfl, trivial⟩ ⟨rfl, rfl, trivial⟩ ?_
      omega
    · intro hc1
      have hc1 := of_decide_eq_false hc1
      have hz1 : i = 4 := by omega
      subst hz1
      refine Qe<|Qs<|Qp<|(Qm)<|Qn<|Qb ?_
      refine Qz (fun kk E m => ∃ (j : Nat), kk = 4 - j ∧ E = [(1, ptr r1), (2, ptr r2), (3, .func (.func 61) #[] #[ptr r1]), (7, ii n), (22, ii j)] ∧ m = [(0, some ⟨r1, arr .u32 16 (diaN (colN (twoN f n) 4) j), 75⟩), (1, some ⟨r2, arr .u32 16 (fun _ => 0), 75⟩)] ∧ (j ≤ 4)) ⟨0, rfl, rfl, rfl, by omega⟩ ⟨rfl, rfl, rfl, rfl, rfl, trivial⟩ ⟨rfl, rfl, trivial⟩ ?_
      rintro kk E m ⟨j, rfl, rfl, rfl, hf2_0⟩
      refine Qs<|Qp<|(Ql)<|Qn<|Qs ?_
      refine e_cond rfl ?_ ?_
      · intro hc2
        have hc2 := of_decide_eq_true hc2
        refine Qk<|Qs<|Qb<|Qs<|Qp<|(Qm)<|(Qa)<|Qn<|QR ⟨[], 5, [], none⟩<|(Qm)<|(Qm)<|(Qm)<|(Q2 1)<|(Q4 4) ?_
        refine e_add_i (p := 4) rfl rfl rfl (by omega) ?_
        refine (Qm)<|(Q2 2)<|(Q4 4) ?_
        refine e_add_i (p := 8) rfl rfl rfl (by omega) ?_
        refine (Qm)<|(Q2 3)<|(Q4 4) ?_
        refine e_add_i (p := 12) rfl rfl rfl (by omega) ?_
        refine e_callW 0 rfl rfl (Un 61) rfl (by simp) (quarter_fn (G := []) _ r1 j (4 + (j + 1) % 4) (8 + (j + 2) % 4) (12 + (j + 3) % 4) (by omega) (by omega) (by omega) (by omega)) rfl rfl ?_
        refine Qn<|Qp<|(Q2 1)<|(Qm)<|Qn ?_
        refine Qzr ⟨j + 1, rfl, rfl, rfl, by omega⟩ ⟨rfl, rfl, rfl, rfl, rfl, trivial⟩ ⟨rfl, rfl, trivial⟩ ?_
        omega
      · intro hc2
        have hc2 := of_decide_eq_false hc2
        have hz2 : j = 4 := by omega
        subst hz2
        refine Qe<|Qp<|(Q2 1)<|(Qm)<|Qn ?_
        refine Qzr ⟨n + 1, rfl, rfl, rfl, by omega⟩ ⟨rfl, rfl, rfl, rfl, trivial⟩ ⟨rfl, rfl, trivial⟩ ?_
        omega
  · intro hc0
    have hc0 := of_decide_eq_false hc0
    have hz0 : n = 10 := by omega
    subst hz0
    refine Qe<|Qs<|Qp<|(Qd 0)<|(Qt 1)<|Qn<|Qr ?_
    rw [← arr_congr (k := .u32) (n := 16) (twoN_dbls f 10)]
    exact ⟨_, rfl, .cell (i := 1) rfl rfl (Uu 75) rfl (Uz 75) (arr_size _ _ _)⟩
end Go.Proofs.Ytmhpifphohcfmaa
namespace Go.Proofs.Ytmhpifphohcfmaa
open Go Go.RowKit
variable {G : Mem}
set_option maxHeartbeats 2000000 in
theorem start_fn (k : Nat → Nat) (c : Nat) (nn : Nat → Nat) (hk : L8 32 k) (hn : L8 12 nn) (hc : c < 4294967296) : Fn Try.prog G 47 #[.agg (arr .u8 32 k), uw c, .agg (arr .u8 12 nn)] (.agg (arr .u32 16 (wrd (allb k c nn)))) := by
  refine Qf1 Try.func47 ?_
  refine Qs<|Qp<|(Qh 0) fun r1=>(Qh 1) fun r2=>(QH 2) fun r3=>Qn<|Qs<|Qp<|(Qm) ?_
  refine e_build (arr .u32 16 (fun t => if t = 0 then 1634760805 else if t = 1 then 857760878 else if t = 2 then 2036477234 else if t = 3 then 1797285236 else if t = 12 then c else 0)) (Ub 75) (Uu 75) (Uz 63) rfl (by kernel_rfl) rfl ?_
  refine (QH 3) fun r4=>(Qt 3)<|Qn<|Qs<|Qs<|Qp<|(Qd 0)<|(Qm)<|Qn<|Qb ?_
  refine Qz (fun kk E m => ∃ (i : Nat) (s : Nat → Nat), kk = 32 - i ∧ E = [(3, ptr r1), (5, ptr r2), (6, ptr r3), (7, ptr r4), (14, .agg (arr .u8 32 k)), (15, ii i)] ∧ m = [(0, some ⟨r1, arr .u8 32 k, 23⟩), (1, some ⟨r2, arr .u8 12 nn, 51⟩), (2, some ⟨r3, arr .u32 16 (fun _ => 0), 75⟩), (3, some ⟨r4, arr .u32 16 s, 75⟩)] ∧ (i ≤ 32) ∧ (∀ t, t < 16 → s t = stw k c nn i 0 t)) ⟨0, (fun t => if t = 0 then 1634760805 else if t = 1 then 857760878 else if t = 2 then 2036477234 else if t = 3 then 1797285236 else if t = 12 then c else 0), rfl, rfl, rfl, by omega, stw_first k c nn⟩ ⟨rfl, rfl, rfl, rfl, rfl, rfl, trivial⟩ ⟨rfl, rfl, rfl, rfl, trivial⟩ ?_
  rintro kk E m ⟨i, s, rfl, rfl, rfl, hf0_0, hf0_1⟩
  refine Qs<|Qp<|(Ql)<|Qn<|Qs ?_
  refine e_cond rfl ?_ ?_
  · intro hc0
    have hc0 := of_decide_eq_true hc0
    refine Qk<|Qs<|Qb<|Qs<|Qp<|(Qm)<|(QX)<|(Qa)<|(Qa)<|Qn<|(Qg)<|(Qm)<|(Q5 4) ?_
    refine e_add_i (p := 4) rfl rfl rfl (by omega) ?_
    refine (Qi)<|(Q1 3)<|(Qm) ?_
    refine e_conv_w (Uu 5) (Uu 63) rfl rfl rfl ?_
    refine e_as (congrArg uw (Nat.mod_eq_of_lt (Nat.lt_trans (hk i (by omega)) (by decide)))) ?_
    refine (Qm)<|(Q4 4)<|(Q6 8) ?_
    refine e_shl_w rfl rfl rfl (by omega) ?_
    refine e_or_w rfl rfl rfl  ?_
    refine (Qi)<|(Qu 3)<|Qn<|Qp<|(Q2 1)<|(Qm)<|Qn ?_
    refine Qzr ⟨i + 1, upd s (4 + i / 4) _, rfl, rfl, rfl, by omega, stw_key hk (by omega) hf0_1⟩ ⟨rfl, rfl, rfl, rfl, rfl, rfl, trivial⟩ ⟨rfl, rfl, rfl, rfl, trivial⟩ ?_
    omega
  · intro hc0
    have hc0 := of_decide_eq_false hc0
    have hz0 : i = 32 := by omega
    subst hz0
    refine Qe<|Qs<|Qs<|Qp<|(Qd 1)<|(Qm)<|Qn<|Qb ?_
    refine Qz (fun kk E m => ∃ (q : Nat) (s2 : Nat → Nat), kk = 12 - q ∧ E = [(3, ptr r1), (5, ptr r2), (6, ptr r3), (7, ptr r4), (33, .agg (arr .u8 12 nn)), (34, ii q)] ∧ m = [(0, some ⟨r1, arr .u8 32 k, 23⟩), (1, some ⟨r2, arr .u8 12 nn, 51⟩), (2, some ⟨r3, arr .u32 16 (fun _ => 0), 75⟩), (3, some ⟨r4, arr .u32 16 s2, 75⟩)] ∧ (q ≤ 12) ∧ (∀ t, t < 16 → s2 t = stw k c nn 32 q t)) ⟨0, s, rfl, rfl, rfl, by omega, hf0_1⟩ ⟨rfl, rfl, rfl, rfl, rfl, rfl, trivial⟩ ⟨rfl, rfl, rfl, rfl, trivial⟩ ?_
    rintro kk E m ⟨q, s2, rfl, rfl, rfl, hf1_0, hf1_1⟩
    refine Qs<|Qp<|(Ql)<|Qn<|Qs ?_
    refine e_cond rfl ?_ ?_
    · intro hc1
      have hc1 := of_decide_eq_true hc1
      refine Qk<|Qs<|Qb<|Qs<|Qp<|(Qm)<|(QX)<|(Qa)<|(Qa)<|Qn<|(Qg)<|(Qm)<|(Q5 4) ?_
      refine e_add_i (p := 13) rfl rfl rfl (by omega) ?_
      refine (Qi)<|(Q1 3)<|(Qm) ?_
      refine e_conv_w (Uu 5) (Uu 63) rfl rfl rfl ?_
      refine e_as (congrArg uw (Nat.mod_eq_of_lt (Nat.lt_trans (hn q (by omega)) (by decide)))) ?_
      refine (Qm)<|(Q4 4)<|(Q6 8) ?_
      refine e_shl_w rfl rfl rfl (by omega) ?_
      refine e_or_w rfl rfl rfl  ?_
      refine (Qi)<|(Qu 3)<|Qn<|Qp<|(Q2 1)<|(Qm)<|Qn ?_
      refine Qzr ⟨q + 1, upd s2 (13 + q / 4) _, rfl, rfl, rfl, by omega, stw_nonce hn (by omega) hf1_1⟩ ⟨rfl, rfl, rfl, rfl, rfl, rfl, trivial⟩ ⟨rfl, rfl, rfl, rfl, trivial⟩ ?_
      omega
    · intro hc1
      have hc1 := of_decide_eq_false hc1
      have hz1 : q = 12 := by omega
      subst hz1
      refine Qe<|Qs<|Qp<|(Qd 3)<|(Qt 2)<|Qn<|Qr ?_
      rw [← arr_congr (k := .u32) (n := 16) (stw_end k nn hc), ← arr_congr (k := .u32) (n := 16) hf1_1]
      exact ⟨_, rfl, .cell (i := 2) rfl rfl (Uu 75) rfl (Uz 75) (arr_size _ _ _)⟩
set_option maxHeartbeats 2000000 in
theorem block_fn (k : Nat → Nat) (c : Nat) (nn : Nat → Nat) (hk : L8 32 k) (hn : L8 12 nn) (hc : c < 4294967296) : Fn Try.prog G 39 #[.agg (arr .u8 32 k), uw c, .agg (arr .u8 12 nn)] (.agg (arr .u8 64 (blkf k c nn))) := by
  obtain ⟨w, hw⟩ : ∃ w, w = wrd (allb k c nn) := ⟨_, rfl⟩
  obtain ⟨v, hv⟩ : ∃ v, v = dbls (wrd (allb k c nn)) 10 := ⟨_, rfl⟩
  refine Qf1 Try.func39 ?_
  refine Qs<|Qp<|(Qh 0) fun r1=>(Qh 1) fun r2=>(QH 2) fun r3=>Qn<|Qs<|Qp<|(Qd 0)<|(Qm)<|(Qd 1) ?_
  refine e_call rfl (Un 47) (start_fn k c nn hk hn hc) rfl rfl ?_
  refine e_as (congrArg (fun f => Value.agg (arr .u32 16 f)) hw.symm) ?_
  refine (QH 3) fun r4=>(Qt 3)<|Qn<|Qs<|Qp<|(Qd 3) ?_
  refine e_call rfl (Un 48) (rounds_fn w) rfl rfl ?_
  refine e_as (congrArg (fun f => Value.agg (arr .u32 16 f)) (show dbls w 10 = v by rw [hv, hw])) ?_
  refine (QH 4) fun r5=>(Qt 4)<|Qn<|Qs<|Qp<|(QH 5) fun r6=>Qn<|Qs<|Qs<|Qp<|(Qm)<|Qn<|Qb ?_
  refine Qz (fun kk E m => ∃ (i : Nat) (s : Nat → Nat), kk = 64 - i ∧ E = [(6, ptr r3), (7, ptr r4), (8, ptr r5), (9, ptr r6), (17, ii i)] ∧ m = [(0, some ⟨r1, arr .u8 32 k, 23⟩), (1, some ⟨r2, arr .u8 12 nn, 51⟩), (2, some ⟨r3, arr .u8 64 (fun _ => 0), 66⟩), (3, some ⟨r4, arr .u32 16 w, 75⟩), (4, some ⟨r5, arr .u32 16 v, 75⟩), (5, some ⟨r6, arr .u8 64 s, 66⟩)] ∧ (i ≤ 64) ∧ (∀ t, t < i → s t = blkf k c nn t)) ⟨0, fun _ => 0, rfl, rfl, rfl, by omega, fun t ht => absurd ht (Nat.not_lt_zero t)⟩ ⟨rfl, rfl, rfl, rfl, rfl, trivial⟩ ⟨rfl, rfl, rfl, rfl, rfl, rfl, trivial⟩ ?_
  rintro kk E m ⟨i, s, rfl, rfl, rfl, hf0_0, hf0_1⟩
  refine Qs<|Qp<|(Ql)<|Qn<|Qs ?_
  refine e_cond rfl ?_ ?_
  · intro hc0
    have hc0 := of_decide_eq_true hc0
    refine Qk<|Qs<|Qb<|Qs<|Qp<|(Qm)<|(Qa)<|Qn<|(Qg)<|(Qm)<|(Qm)<|(Q5 4)<|(Qi)<|(Q1 4)<|(Qm)<|(Q5 4)<|(Qi)<|(Q1 3) ?_
    refine e_add_w rfl rfl rfl  ?_
    refine (Qm)<|(Q4 4)<|(Q6 8) ?_
    refine e_shr_w rfl rfl rfl (by omega) ?_
    refine e_conv_u8 (Uu 63) (Uu 5) rfl rfl rfl ?_
    refine (Qi)<|(Qu 5)<|Qn<|Qp<|(Q2 1)<|(Qm)<|Qn ?_
    refine Qzr ⟨i + 1, upd s i _, rfl, rfl, rfl, by omega, upd_lt hf0_1 (blk_at k c nn hv hw (by omega))⟩ ⟨rfl, rfl, rfl, rfl, rfl, trivial⟩ ⟨rfl, rfl, rfl, rfl, rfl, rfl, trivial⟩ ?_
    omega
  · intro hc0
    have hc0 := of_decide_eq_false hc0
    have hz0 : i = 64 := by omega
    subst hz0
    refine Qe<|Qs<|Qp<|(Qd 5)<|(Qt 2)<|Qn<|Qr ?_
    rw [← arr_congr (k := .u8) (n := 64) hf0_1]
    exact ⟨_, rfl, .cell (i := 2) rfl rfl (Uu 66) rfl (Uz 66) (arr_size _ _ _)⟩
end Go.Proofs.Ytmhpifphohcfmaa
namespace Go.Proofs.Ytmhpifphohcfmaa
open Go Go.RowKit
variable {G : Mem}
set_option maxHeartbeats 400000 in
theorem blocks_fn (n : Nat) (hn : n < 9223372036854775808) : Fn Try.prog G 46 #[ii n] (u ((n + 63) / 64)) := by
  refine Qf1 Try.func46 ?_
  refine Qs<|Qp<|(Qa)<|Qn<|Qs<|Qp<|(Qm) ?_
  refine e_conv_u (Uu 3) (Uu 24) rfl rfl rfl ?_
  refine e_as (congrArg u (Nat.mod_eq_of_lt (show n < 18446744073709551616 by omega))) ?_
  refine e_add_u (q := 63) rfl rfl rfl  ?_
  refine e_as (congrArg u (Nat.mod_eq_of_lt (show n + 63 < 18446744073709551616 by omega))) ?_
  refine e_quo_u (q := 64) rfl rfl rfl (by omega) (by omega) ?_
  refine (Qa)<|Qn<|Qr ?_
  exact ⟨_, rfl, .tmp rfl⟩
set_option maxHeartbeats 2000000 in
theorem stream_ok (k : Nat → Nat) (c : Nat) (nn : Nat → Nat) (v : Value) (l : List Nat) (hv : Sh G v l) (hk : L8 32 k) (hn : L8 12 nn) (hc : c < 4294967296) (hl : l.length ≤ 1600) (ho : ¬ 64 * (4294967296 - c) < l.length) : Fx Try.prog G [] 38 #[.agg (arr .u8 32 k), uw c, .agg (arr .u8 12 nn), v] (fun v l1 nw => l1 = [] ∧ ∃ v', v = .tuple #[v', ii 0] ∧ OwnS 5 1 v' (l.length - 0) ((strl k c nn l 0).map by8) nw) := by
  refine QfM Try.func38 ?_
  refine Qs<|Qp<|(Qh 0) fun r1=>(Qh 1) fun r2=>(Qa)<|(Qa)<|Qn<|Qs<|Qs<|Qp<|(Qm)<|(QC hv)<|(QG)<|(Qaf)<|Qn<|(Qcf)<|Qk<|Qs<|Qs<|Qp<|(Qm) ?_
  refine e_conv_u (Uu 63) (Uu 24) rfl rfl rfl ?_
  refine e_as (congrArg u (Nat.mod_eq_of_lt (show c < 18446744073709551616 by omega))) ?_
  refine (Qm)<|(QC hv) ?_
  refine e_call rfl (Un 46) (blocks_fn _ (by omega)) rfl rfl ?_
  refine e_add_u rfl rfl rfl  ?_
  refine e_as (congrArg u (Nat.mod_eq_of_lt (show c + (l.length + 63) / 64 < 18446744073709551616 by omega))) ?_
  refine (QG)<|(Qaf)<|Qn<|(Qcf)<|Qk<|Qs<|Qp<|(Qm)<|(QC hv) ?_
  refine e_make 2 (Uu 31) (Uz 5) (Uy 5) (Ub 5) rfl rfl rfl (by omega) (by omega) rfl fun r3 => ?_
  refine (Qa)<|Qn<|Qs<|Qp<|(QH 3) fun r4=>Qn<|Qs<|Qs<|Qp<|(Qm)<|(QC hv)<|(Qm)<|Qn<|Qb ?_
  refine Qz (fun kk E m => ∃ (i : Nat) (s : Nat → Nat) (p : Nat → Nat), kk = l.length - i ∧ E = [(1, uw c), (4, ptr r1), (6, ptr r2), (10, .slice (some ⟨r3, 0, none⟩) l.length l.length), (11, ptr r4), (27, v), (28, ii l.length), (29, ii i)] ∧ m = [(0, some ⟨r1, arr .u8 32 k, 23⟩), (1, some ⟨r2, arr .u8 12 nn, 51⟩), (2, some ⟨r3, arr .u8 l.length s, 5⟩), (3, some ⟨r4, arr .u8 64 p, 66⟩)] ∧ (i ≤ l.length) ∧ (∀ t, t < i → s t = strv k c nn l t) ∧ (i % 64 ≠ 0 → ∀ t, t < 64 → p t = blkf k ((c + i / 64 % 4294967296) % 4294967296) nn t)) ⟨0, fun _ => 0, fun _ => 0, rfl, rfl, rfl, by omega, fun t ht => absurd ht (Nat.not_lt_zero t), fun h => absurd rfl h⟩ ⟨rfl, rfl, rfl, rfl, rfl, rfl, rfl, rfl, trivial⟩ ⟨rfl, rfl, rfl, rfl, trivial⟩ ?_
  rintro kk E m ⟨i, s, p, rfl, rfl, rfl, hf0_0, hf0_1, hf0_2⟩
  refine Qs<|Qp<|(Ql)<|Qn<|Qs ?_
  refine e_cond rfl ?_ ?_
  · intro hc2
    have hc2 := of_decide_eq_true hc2
    refine Qk<|Qs<|Qb<|Qs<|Qp<|(Qm) ?_
    refine e_atV hv (Uu 31) (Uz 5) rfl rfl (by omega) rfl ?_
    refine (QS) ?_
    refine e_loadV hv seenG (Uu 5) rfl rfl (nth_by8 (show i < l.length by omega)) rfl ?_
    refine (Qa)<|(Qa)<|Qn<|Qs<|Qs<|Qp<|(Qm)<|(Q4 64)<|(Qc)<|Qn ?_
    refine e_cond rfl ?_ ?_
    · intro hc3
      have hc3 := of_decide_eq_true hc3
      refine Qp<|(Qd 0)<|(Qm)<|(Qm)<|(Q5 64) ?_
      refine e_conv_w (Uu 3) (Uu 63) rfl rfl rfl ?_
      refine e_add_w rfl rfl rfl  ?_
      refine (Qd 1) ?_
      refine e_call rfl (Un 39) (block_fn k _ nn hk hn (Nat.mod_lt _ (by decide))) rfl rfl ?_
      refine (Qt 3)<|Qn<|Qp<|(Qm)<|(Qm)<|(Qm)<|(Qm)<|(Q4 64)<|(Qi)<|(Q1 3) ?_
      refine e_xor_b rfl rfl rfl  ?_
      refine e_atSl (i) (Uu 31) (Uz 5) rfl rfl (by omega) (by omega) rfl ?_
      refine (Qu 2)<|Qn<|Qp<|(Q2 1)<|(Qm)<|Qn ?_
      refine Qzr ⟨i + 1, upd s i _, _, rfl, rfl, rfl, by omega, upd_lt hf0_1 (strv_in k c nn _ l (by omega) (by first | rfl | exact hf0_2 (by omega) _ (by omega))), fun h t ht => by rw [show (i + 1) / 64 = i / 64 by omega] <;> exact hf0_2 (by omega) t ht⟩ ⟨rfl, rfl, rfl, rfl, rfl, rfl, rfl, rfl, trivial⟩ ⟨rfl, rfl, rfl, rfl, trivial⟩ ?_
      omega
    · intro hc3
      have hc3 := of_decide_eq_false hc3
      refine Qk<|Qp<|(Qm)<|(Qm)<|(Qm)<|(Qm)<|(Q4 64)<|(Qi)<|(Q1 3) ?_
      refine e_xor_b rfl rfl rfl  ?_
      refine e_atSl (i) (Uu 31) (Uz 5) rfl rfl (by omega) (by omega) rfl ?_
      refine (Qu 2)<|Qn<|Qp<|(Q2 1)<|(Qm)<|Qn ?_
      refine Qzr ⟨i + 1, upd s i _, _, rfl, rfl, rfl, by omega, upd_lt hf0_1 (strv_in k c nn _ l (by omega) (by first | rfl | exact hf0_2 (by omega) _ (by omega))), fun h t ht => by rw [show (i + 1) / 64 = i / 64 by omega] <;> exact hf0_2 (by omega) t ht⟩ ⟨rfl, rfl, rfl, rfl, rfl, rfl, rfl, rfl, trivial⟩ ⟨rfl, rfl, rfl, rfl, trivial⟩ ?_
      omega
  · intro hc2
    have hc2 := of_decide_eq_false hc2
    have hz2 : i = l.length := by omega
    subst hz2
    refine Qe<|Qs<|Qp<|(Qm)<|(Qa)<|(Qa)<|Qn<|Qr ?_
    exact ⟨_, _, _, _, 2, rfl, .tmp rfl, .tmp rfl, (own_fix (own_made (strl_len k c nn l 0) (by simp only [maxLen]; omega) (fun j hj => (hf0_1 j (by omega)).trans (strl_at k c nn l (by omega)).symm)) rfl rfl), rfl⟩
end Go.Proofs.Ytmhpifphohcfmaa
