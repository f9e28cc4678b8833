/-
  Each number is that of a point, of the curve or of its twist; and it does not matter who is first. Plain algebra.
-/
import Derived.Test.YthhcgeoldjmpaaaEd5
namespace Go.Proofs.Ythhcgeoldjmpaaa
set_option maxHeartbeats 1000000

theorem on_of {D x y q i : F} (hx : x * x = q) (hq : q = D * (1 - y * y) * i) (hi : (D - y * y) * i = 1) : x * x * (y * y) = D * (x * x + y * y - 1) := by
  have h1 : q * (D - y * y) = D * (1 - y * y) := by
    have : D * (1 - y * y) * i * (D - y * y) = D * (1 - y * y) * ((D - y * y) * i) := by clear hx hq hi; grobner
    rw [hq, this, hi]; clear this hx hq hi; grobner
  rw [hx]
  clear hx hq hi; grobner
theorem tw_on {D D' y r q k i : F} (hDD : D * D' = 1) (hr : r * r = q * D') (hq : q = D * (1 - y * y) * i) (hi : (D - y * y) * i = 1) (hk : y * k = 1) : r * r * (k * k) = D' * (r * r + k * k - 1) := by
  have h1 : q * (D - y * y) = D * (1 - y * y) := by
    have : D * (1 - y * y) * i * (D - y * y) = D * (1 - y * y) * ((D - y * y) * i) := by clear hr hq hi hk hDD; grobner
    rw [hq, this, hi]; clear this hr hq hi hk hDD; grobner
  have h2 : q * (1 - D' * (y * y)) = 1 - y * y := by
    have e1 : q * (1 - D' * (y * y)) = q * (D * D' - D' * (y * y)) := by rw [hDD]
    have e2 : q * (D * D' - D' * (y * y)) = D' * (q * (D - y * y)) := by clear h1 e1 hr hq hi hk hDD; grobner
    have e3 : D' * (D * (1 - y * y)) = D * D' * (1 - y * y) := by clear h1 e1 e2 hr hq hi hk hDD; grobner
    rw [e1, e2, h1, e3, hDD]; clear h1 e1 e2 e3 hr hq hi hk hDD; grobner
  have h3 : r * r = D' * (r * r * (y * y) + 1 - y * y) := by
    rw [hr]
    have e1 : D' * (q * D' * (y * y) + 1 - y * y) = q * D' - D' * (q * (1 - D' * (y * y)) - (1 - y * y)) := by clear h1 h2 hr hq hi hk hDD; grobner
    rw [e1, h2]; clear e1 h1 h2 hr hq hi hk hDD; grobner
  have e4 : D' * (r * r + k * k - 1) = D' * (r * r * ((y * k) * (y * k)) + k * k - (y * k) * (y * k)) := by rw [hk]; clear h1 h2 h3 hr hq hi hk hDD; grobner
  have e5 : D' * (r * r * ((y * k) * (y * k)) + k * k - (y * k) * (y * k)) = k * k * (D' * (r * r * (y * y) + 1 - y * y)) := by clear e4 h1 h2 h3 hr hq hi hk hDD; grobner
  rw [e4, e5, ← h3]; clear e4 e5 h1 h2 h3 hr hq hi hk hDD; grobner
theorem y_of {u i y : F} (hy : y = (u - 1) * i) (hi : (u + 1) * i = 1) : u * (1 - y) = 1 + y := by
  have h1 : (u + 1) * y = u - 1 := by
    have : (u + 1) * ((u - 1) * i) = (u - 1) * ((u + 1) * i) := by clear hy hi; grobner
    rw [hy, this, hi]; clear this hy hi; grobner
  clear hy hi; grobner
theorem tw_y {u y k : F} (hy : u * (1 - y) = 1 + y) (hk : y * k = 1) : -u * (1 - k) = 1 + k := by
  have h1 : -u * (1 - k) = k * (u * (1 - y)) := by
    have e1 : -u * (1 - k) = -u * (y * k - k) := by rw [hk]
    rw [e1]; clear e1 hy hk; grobner
  have h2 : k * (1 + y) = k + y * k := by clear hy hk h1; grobner
  rw [h1, hy, h2, hk]; clear h1 h2 hy hk; grobner
theorem pw_one' : pw 1 HP = 1 := pw_val 1 HP (by decide) 1 (by decide +kernel)
theorem pt_exists (u : F) : (∃ P, EdOn D1 P ∧ u * (1 - P.2) = 1 + P.2) ∨ (∃ P, EdOn D2 P ∧ -u * (1 - P.2) = 1 + P.2) := by
  by_cases h1 : u + 1 = 0
  · have hu : u = -1 := by grobner
    subst hu
    exact .inr ⟨(1, 0), by show (1 : F) * 1 * (0 * 0) = D2 * (1 * 1 + 0 * 0 - 1); decide +kernel, by show - -(1 : F) * (1 - 0) = 1 + 0; decide +kernel⟩
  · obtain ⟨y, hy⟩ : ∃ y, y = (u - 1) * iv (u + 1) := ⟨_, rfl⟩
    have hyu := y_of hy (iv_mul h1)
    have hd : D1 - y * y ≠ 0 := fun h => one_ne (D1_no y 1 (by have : D1 = y * y := by { generalize D1 = d at *; clear hy hyu; grobner }; rw [this]; clear this h hy hyu; grobner))
    have hi := iv_mul hd
    obtain ⟨q, hq⟩ : ∃ q, q = D1 * (1 - y * y) * iv (D1 - y * y) := ⟨_, rfl⟩
    by_cases hq0 : q = 0
    · exact .inl ⟨(0, y), on_of (show (0 : F) * 0 = q by rw [hq0]; decide +kernel) hq hi, hyu⟩
    · rcases half hq0 with hh | hh
      · obtain ⟨r, hr⟩ := root hh
        exact .inl ⟨(r, y), on_of hr hq hi, hyu⟩
      · have hp : pw (q * D2) HP = 1 := by rw [pw_mul, hh, D2_half]; decide +kernel
        obtain ⟨r, hr⟩ := root hp
        have hy0 : y ≠ 0 := fun h0 => by
          rw [h0] at hq hi
          have e1 : D1 - 0 * 0 = D1 := by decide +kernel
          have e2 : D1 * (1 - 0 * 0) = D1 := by decide +kernel
          rw [e1] at hq hi
          rw [e2, hi] at hq
          rw [hq, pw_one'] at hh
          exact absurd hh (by decide +kernel)
        exact .inr ⟨(r, iv y), tw_on D12 hr hq hi (iv_mul hy0), tw_y hyu (iv_mul hy0)⟩

/-! ### In either order -/
theorem NoSq.ne_one {D : F} (h : NoSq D) : D ≠ 1 := fun h1 => one_ne (h 1 1 (by rw [h1]; decide +kernel))
theorem x_zero {D x s : F} (hD : NoSq D) (hs : s * s = 1) (e : x * x * (s * s) = D * (x * x + s * s - 1)) : x = 0 := by
  rw [hs] at e
  have h1 : (x * x) * (1 - D) = 0 := by clear hs; grobner
  rcases F_noz h1 with h | h
  · exact sq_zero h
  · exact absurd (show D = 1 by clear hs e h1; grobner) hD.ne_one
theorem edMul_O {D : F} (h0 : D ≠ 0) : ∀ n, edMul D n edO = edO
  | 0 => rfl
  | n + 1 => by
    show edAdd D (edMul D n edO) edO = edO
    rw [edMul_O h0 n, edAdd_O h0]
theorem two_T {D : F} (h0 : D ≠ 0) : edMul D 2 (0, -1) = edO := by
  show edAdd D (edMul D 1 (0, -1)) (0, -1) = edO
  rw [edMul_one h0]
  have hi := iv_mul h0
  refine Prod.ext ?_ ?_
  · show D * (0 * -1 + -1 * 0) * iv (D + 0 * 0 * -1 * -1) = 0
    generalize iv _ = a; clear hi; grobner
  · show D * (-1 * -1 - 0 * 0) * iv (D - 0 * 0 * -1 * -1) = 1
    have e : D - 0 * 0 * -1 * -1 = D := by clear hi; grobner
    have e2 : D * (-1 * -1 - 0 * 0) * iv D = D * iv D := by generalize iv D = a; clear hi e; grobner
    rw [e, e2]; exact hi
theorem kap_O : kap edO = 0 := by
  show (1 + 1) * iv (1 - 1) = (0 : F)
  have e : (1 : F) - 1 = 0 := by decide +kernel
  rw [e, iv_zero, mul_0]
/-- One more step of a ladder, from wherever another one has come. -/
theorem dh_one {D s g : F} (hD : NoSq D) (hs : s * s = 1) (H : ∀ (P : Pt) (w : F) (n : Nat), EdOn D P → w ≠ 0 → s * w * (1 - P.2) = 1 + P.2 → n < 2 ^ 255 → ladO g w n = s * kap (edMul D n P))
    {P : Pt} (hP : EdOn D P) {m : Nat} (hm : m < 2 ^ 255) (h2 : m % 2 = 0) : ladO g (s * kap P) m = s * kap (edMul D m P) := by
  by_cases hy : 1 - P.2 = 0
  · have hk : kap P = 0 := by unfold kap; rw [hy, iv_zero, mul_0]
    have e2 : P.2 = 1 := by clear hk hP; grobner
    have hx : P.1 = 0 := x_zero hD (s := P.2) (by rw [e2]; decide +kernel) hP
    have hO : P = edO := Prod.ext hx e2
    rw [hk, mul_0, ladO_zero, hO, edMul_O hD.ne, kap_O, mul_0]
  · by_cases hk : kap P = 0
    · have hi := iv_mul hy
      have e1 : 1 + P.2 = 0 := by
        unfold kap at hk
        rcases F_noz hk with h | h
        · exact h
        · rw [h, mul_0] at hi; exact absurd hi.symm one_ne
      have e2 : P.2 = -1 := by clear hk hi hP hy; grobner
      have hx : P.1 = 0 := x_zero hD (s := P.2) (by rw [e2]; decide +kernel) hP
      have hT : P = (0, -1) := Prod.ext hx e2
      have hm2 : m = m / 2 * 2 := by omega
      rw [hk, mul_0, ladO_zero, hm2, edMul_mul hD hP, hT, two_T hD.ne, edMul_O hD.ne, kap_O, mul_0]
    · have hi := iv_mul hy
      refine H P (s * kap P) m hP ?_ ?_ hm
      · refine F_mul_ne (fun h => ?_) hk
        rw [h, mul_0] at hs
        exact one_ne hs.symm
      · unfold kap
        have e : s * (s * ((1 + P.2) * iv (1 - P.2))) * (1 - P.2) = s * s * ((1 + P.2) * ((1 - P.2) * iv (1 - P.2))) := by generalize iv (1 - P.2) = a; clear hi hk hs hP hy; grobner
        rw [e, hs, hi]; clear e hi hk hs hP hy; grobner
theorem dh_gen {D s g : F} (hD : NoSq D) (hs : s * s = 1) (H : ∀ (P : Pt) (w : F) (n : Nat), EdOn D P → w ≠ 0 → s * w * (1 - P.2) = 1 + P.2 → n < 2 ^ 255 → ladO g w n = s * kap (edMul D n P))
    {P : Pt} {u : F} (hP : EdOn D P) (hu0 : u ≠ 0) (hu : s * u * (1 - P.2) = 1 + P.2) {m n : Nat} (hm : m < 2 ^ 255) (hn : n < 2 ^ 255) (m2 : m % 2 = 0) (n2 : n % 2 = 0) :
    ladO g (ladO g u n) m = ladO g (ladO g u m) n := by
  rw [H P u n hP hu0 hu hn, H P u m hP hu0 hu hm, dh_one hD hs H (edMul_on hD hP n) hm m2, dh_one hD hs H (edMul_on hD hP m) hn n2, ← edMul_mul hD hP, ← edMul_mul hD hP, Nat.mul_comm]
theorem dh_turns (u : F) {m n : Nat} (hm : m < 2 ^ 255) (hn : n < 2 ^ 255) (m2 : m % 2 = 0) (n2 : n % 2 = 0) : ladO gC (ladO gC u n) m = ladO gC (ladO gC u m) n := by
  by_cases hu : u = 0
  · simp only [hu, ladO_zero]
  · have one_mul (a : F) : 1 * a = a := by grobner
    have neg_mul (a : F) : -1 * a = -a := by grobner
    rcases pt_exists u with ⟨P, hP, h⟩ | ⟨P, hP, h⟩
    · exact dh_gen (s := 1) D1_no (by decide +kernel) (fun P w n hP hw h hn => by rw [one_mul] at *; exact lad_cur hP hw h hn) hP hu (by rw [one_mul]; exact h) hm hn m2 n2
    · exact dh_gen (s := -1) D2_no (by decide +kernel) (fun P w n hP hw h hn => by rw [neg_mul] at *; exact lad_tw hP hw h hn) hP hu (by rw [neg_mul]; exact h) hm hn m2 n2

end Go.Proofs.Ythhcgeoldjmpaaa
