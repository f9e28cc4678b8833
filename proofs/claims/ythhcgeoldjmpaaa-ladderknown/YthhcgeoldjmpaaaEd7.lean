/-
  The point whose first number is nine: as often as a prime says it comes to nothing, and no clamped secret takes it there. Plain algebra.
-/
import Derived.Test.YthhcgeoldjmpaaaEd6
namespace Go.Proofs.Ythhcgeoldjmpaaa
set_option maxHeartbeats 1000000

abbrev LL : Nat := 7237005577332262213973186563042994240857116359379907606001950938285454250989
theorem q1224481 : IsP 1224481 := trial 1224481 1108 (by decide) (by decide) (by decide +kernel)
theorem q531581 : IsP 531581 := trial 531581 731 (by decide) (by decide) (by decide +kernel)
theorem qq6 : IsP 1257559732178653 :=
  pock2 (g := 2) (by decide) q1224481 q531581 (by decide +kernel) (m := 1027014492) (m' := 2365697292) (by decide) (by decide) 52 (by decide) (by decide) (by decide) (by decide +kernel) rfl rfl (by decide +kernel) (by decide +kernel) rfl (by decide) (by decide) (by decide) (by decide)
theorem q43 : IsP 43 := trial 43 8 (by decide) (by decide) (by decide +kernel)
theorem qq8 : IsP 4434155615661930479 :=
  pock2 (g := 2) (by decide) qq6 q43 (by decide +kernel) (m := 3526) (m' := 103119898038649546) (by decide) (by decide) 63 (by decide) (by decide) (by decide) (by decide +kernel) rfl rfl (by decide +kernel) (by decide +kernel) rfl (by decide) (by decide) (by decide) (by decide)
theorem q1361 : IsP 1361 := trial 1361 38 (by decide) (by decide) (by decide +kernel)
theorem qq10 : IsP 172054593956031949258510691 :=
  pock2 (g := 2) (by decide) qq8 q1361 (by decide +kernel) (m := 38802110) (m' := 126417776602521637956290) (by decide) (by decide) 89 (by decide) (by decide) (by decide) (by decide +kernel) rfl rfl (by decide +kernel) (by decide +kernel) rfl (by decide) (by decide) (by decide) (by decide)
theorem q5879 : IsP 5879 := trial 5879 78 (by decide) (by decide) (by decide +kernel)
theorem qq12 : IsP 292386187 :=
  pock2 (g := 2) (by decide) q5879 p3 (by decide +kernel) (m := 49734) (m' := 97462062) (by decide) (by decide) 30 (by decide) (by decide) (by decide) (by decide +kernel) rfl rfl (by decide +kernel) (by decide +kernel) rfl (by decide) (by decide) (by decide) (by decide)
theorem q5 : IsP 5 := trial 5 4 (by decide) (by decide) (by decide +kernel)
theorem qq14 : IsP 213441916511 :=
  pock2 (g := 2) (by decide) qq12 q5 (by decide +kernel) (m := 730) (m' := 42688383302) (by decide) (by decide) 39 (by decide) (by decide) (by decide) (by decide +kernel) rfl rfl (by decide +kernel) (by decide +kernel) rfl (by decide) (by decide) (by decide) (by decide)
theorem qq15 : IsP 19757330305831588566944191468367130476339 :=
  pock2 (g := 2) (by decide) qq10 qq14 (by decide +kernel) (m := 114831751082918) (m' := 92565371548345188701078751758) (by decide) (by decide) 135 (by decide) (by decide) (by decide) (by decide +kernel) rfl rfl (by decide +kernel) (by decide +kernel) rfl (by decide) (by decide) (by decide) (by decide)
theorem qq16 : IsP 276602624281642239937218680557139826668747 :=
  pock2 (g := 2) (by decide) qq15 p7 (by decide +kernel) (m := 14) (m' := 39514660611663177133888382936734260952678) (by decide) (by decide) 139 (by decide) (by decide) (by decide) (by decide +kernel) rfl rfl (by decide +kernel) (by decide +kernel) rfl (by decide) (by decide) (by decide) (by decide)
theorem q11 : IsP 11 := trial 11 5 (by decide) (by decide) (by decide +kernel)
theorem qq18 : IsP 7237005577332262213973186563042994240857116359379907606001950938285454250989 :=
  pock2 (g := 2) (by decide) qq16 q11 (by decide +kernel) (m := 26163907866482859529727157400808004) (m' := 657909597939296564906653323912999476441556032670900691454722812571404931908) (by decide) (by decide) 254 (by decide) (by decide) (by decide) (by decide +kernel) rfl rfl (by decide +kernel) (by decide +kernel) rfl (by decide) (by decide) (by decide) (by decide)
theorem pL : IsP LL := qq18

abbrev P9 : Pt := (9771384041963202563870679428059935816164187996444183106833894008023910952347, 46316835694926478169428394003475163141307993866256225615783033603165251855960)
theorem P9_on : EdOn D1 P9 := by unfold EdOn; decide +kernel
theorem P9_nine : 9 * (1 - P9.2) = 1 + P9.2 := by decide +kernel
theorem nine_ne : (9 : F) ≠ 0 := by decide +kernel
theorem lad_cur_rep {P : Pt} {w : F} {n : Nat} (hP : EdOn D1 P) (hw : w ≠ 0) (h : w * (1 - P.2) = 1 + P.2) (hn : n < 2 ^ 255) : Rep (ladS gC w n 255).1 (edMul D1 n P) := by
  have := (lad_gen (g := gC) Rep D1_no hP hn far_rep (start_rep (x := P.1) h) (fun p Q hQ hr => dbl_rep D1_no (by decide +kernel) (by decide +kernel) hQ hr) (fun p q Q hQ hr hr' => with_rep D1_no hP h hw hQ hr hr') 255 (Nat.le_refl _)).1
  rw [show n / 2 ^ (255 - 255) = n by simp] at this
  exact this
theorem LL_far : (ladS gC 9 LL 255).1.2 = 0 := by decide +kernel
theorem far_y {p P : Pt} (h : Rep p P) (hz : p.2 = 0) : P.2 = 1 := by
  obtain ⟨hw, he⟩ := h
  rw [hz] at hw he
  refine F_can hw ?_
  rw [← he]
  generalize p.1 = a
  clear hw he hz
  grobner
theorem LL_O : edMul D1 LL P9 = edO := by
  have hy := far_y (lad_cur_rep P9_on nine_ne P9_nine (by decide)) LL_far
  have hon := edMul_on D1_no P9_on LL
  exact Prod.ext (x_zero D1_no (s := (edMul D1 LL P9).2) (by rw [hy]; decide +kernel) hon) hy
theorem ord {k : Nat} (h : edMul D1 k P9 = edO) : LL ∣ k := by
  refine Classical.byContradiction fun hn => ?_
  have hf := fermat pL hn
  obtain ⟨e, he⟩ : ∃ e, LL - 1 = e + 1 := ⟨LL - 2, by decide⟩
  rw [he] at hf
  have h1 : k ^ e * k = k ^ (e + 1) / LL * LL + 1 := by
    have := Nat.div_add_mod (k ^ (e + 1)) LL
    rw [hf, Nat.mul_comm] at this
    rw [this, Nat.pow_succ]
  have h2 : edMul D1 (k ^ e * k) P9 = edO := by rw [edMul_mul D1_no P9_on, h, edMul_O D1_no.ne]
  rw [h1, edMul_add D1_no P9_on, edMul_mul D1_no P9_on, LL_O, edMul_O D1_no.ne, edAdd_comm, edAdd_O D1_no.ne, edMul_one D1_no.ne] at h2
  exact absurd (congrArg Prod.snd h2) (by decide +kernel)
theorem kap_zero {D : F} {Q : Pt} (hD : NoSq D) (hQ : EdOn D Q) (h : kap Q = 0) : edMul D 2 Q = edO := by
  by_cases hy : 1 - Q.2 = 0
  · have e2 : Q.2 = 1 := by clear h hQ; grobner
    have hx : Q.1 = 0 := x_zero hD (s := Q.2) (by rw [e2]; decide +kernel) hQ
    have hO : Q = edO := Prod.ext hx e2
    rw [hO, edMul_O hD.ne]
  · have hi := iv_mul hy
    have e1 : 1 + Q.2 = 0 := by
      unfold kap at h
      rcases F_noz h with h | h
      · exact h
      · rw [h, mul_0] at hi; exact absurd hi.symm one_ne
    have e2 : Q.2 = -1 := by clear h hi hQ hy; grobner
    have hx : Q.1 = 0 := x_zero hD (s := Q.2) (by rw [e2]; decide +kernel) hQ
    have hT : Q = (0, -1) := Prod.ext hx e2
    rw [hT, two_T hD.ne]
theorem clamp_no {n : Nat} (h8 : n % 8 = 0) (h0 : 0 < n) (hn : n < 2 ^ 255) : ¬ LL ∣ n := fun h => by
  have e : n = 8 * (n / 8) := by omega
  rw [e] at h
  rcases pL.euclid h with h1 | h1
  · exact absurd (Nat.le_of_dvd (by decide) h1) (by decide)
  · have := Nat.le_of_dvd (by omega) h1
    unfold LL at this
    omega
theorem nz {n c : Nat} (hn : ¬ LL ∣ n) (hc : ¬ LL ∣ c) : kap (edMul D1 (n * c) P9) ≠ 0 := fun h => by
  have h1 := kap_zero D1_no (edMul_on D1_no P9_on (n * c)) h
  rw [← edMul_mul D1_no P9_on] at h1
  rcases pL.euclid (ord h1) with h2 | h2
  · exact absurd (Nat.le_of_dvd (by decide) h2) (by decide)
  · rcases pL.euclid h2 with h3 | h3
    · exact hn h3
    · exact hc h3
/-- No clamped secret takes nine to nought. -/
theorem nine_nz {n : Nat} (h8 : n % 8 = 0) (h0 : 0 < n) (hn : n < 2 ^ 255) : ladO gC 9 n ≠ 0 := by
  rw [lad_cur P9_on nine_ne P9_nine hn]
  have := nz (c := 1) (clamp_no h8 h0 hn) (fun h => absurd (Nat.le_of_dvd (by decide) h) (by decide))
  rw [Nat.mul_one] at this
  exact this
/-- Nor do two. -/
theorem keys_nz {m n : Nat} (m8 : m % 8 = 0) (m0 : 0 < m) (hm : m < 2 ^ 255) (n8 : n % 8 = 0) (n0 : 0 < n) (hn : n < 2 ^ 255) : ladO gC (ladO gC 9 n) m ≠ 0 := by
  have one_mul (a : F) : 1 * a = a := by grobner
  have hh := dh_one (s := 1) (g := gC) D1_no (by decide +kernel) (fun P w n hP hw h hn => by rw [one_mul] at *; exact lad_cur hP hw h hn) (edMul_on D1_no P9_on n) hm (by omega)
  rw [one_mul, one_mul, ← lad_cur P9_on nine_ne P9_nine hn] at hh
  rw [hh, ← edMul_mul D1_no P9_on]
  exact nz (clamp_no m8 m0 hm) (clamp_no n8 n0 hn)

end Go.Proofs.Ythhcgeoldjmpaaa
