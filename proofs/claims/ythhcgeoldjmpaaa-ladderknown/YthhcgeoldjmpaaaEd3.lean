/-
  The law of addition of an Edwards curve x^2 y^2 = D (x^2 + y^2 - 1), D no square: all sums are, and the points are a group. Plain algebra.
-/
import Derived.Test.YthhcgeoldjmpaaaEd2
namespace Go.Proofs.Ythhcgeoldjmpaaa
set_option maxHeartbeats 1000000

abbrev Pt := F × F
def EdOn (D : F) (P : Pt) : Prop := P.1 * P.1 * (P.2 * P.2) = D * (P.1 * P.1 + P.2 * P.2 - 1)
def edAdd (D : F) (P Q : Pt) : Pt := (D * (P.1 * Q.2 + P.2 * Q.1) * iv (D + P.1 * Q.1 * P.2 * Q.2), D * (P.2 * Q.2 - P.1 * Q.1) * iv (D - P.1 * Q.1 * P.2 * Q.2))
def edO : Pt := (0, 1)
def edNeg (P : Pt) : Pt := (-P.1, P.2)

theorem two_ne : (2 : F) ≠ 0 := by decide +kernel
theorem one_ne : (1 : F) ≠ 0 := by decide +kernel
theorem NoSq.ne {D : F} (h : NoSq D) : D ≠ 0 := fun h0 => by
  have := h 0 1 (by rw [h0]; grind)
  exact one_ne this
theorem comp_cut {D x1 y1 x2 y2 e : F} (h0 : D ≠ 0) (he : e * e = 1) (e2 : x2 * x2 * (y2 * y2) = D * (x2 * x2 + y2 * y2 - 1)) (hk : x1 * x2 * y1 * y2 = e * D) : x1 * x1 * (y1 * y1) * (x2 * x2 + y2 * y2 - 1) = D := by
  apply F_can h0
  have h1 : D * (x1 * x1 * (y1 * y1) * (x2 * x2 + y2 * y2 - 1)) = (x1 * x2 * y1 * y2) * (x1 * x2 * y1 * y2) := by
    have : D * (x1 * x1 * (y1 * y1) * (x2 * x2 + y2 * y2 - 1)) = x1 * x1 * (y1 * y1) * (D * (x2 * x2 + y2 * y2 - 1)) := by grind
    rw [this, ← e2]; grind
  rw [h1, hk]
  have : e * D * (e * D) = e * e * (D * D) := by grind
  rw [this, he]; grind
theorem comp_sq {D x1 y1 x2 y2 e : F} (he : e * e = 1) (e1 : x1 * x1 * (y1 * y1) = D * (x1 * x1 + y1 * y1 - 1)) (hc : x1 * x1 * (y1 * y1) * (x2 * x2 + y2 * y2 - 1) = D) (hk : x1 * x2 * y1 * y2 = e * D) :
    D * ((x1 + e * y1) * (x1 + e * y1)) = (x1 * y1 * (x2 + y2)) * (x1 * y1 * (x2 + y2)) := by
  have h1 : (x1 * y1 * (x2 + y2)) * (x1 * y1 * (x2 + y2)) = x1 * x1 * (y1 * y1) * (x2 * x2 + y2 * y2 - 1) + x1 * x1 * (y1 * y1) + 2 * (x1 * y1) * (x1 * x2 * y1 * y2) := by grind
  rw [h1, hc, e1, hk]
  have h2 : D * ((x1 + e * y1) * (x1 + e * y1)) = D * (x1 * x1 + 2 * e * (x1 * y1) + e * e * (y1 * y1)) := by grind
  rw [h2, he]; grind
theorem comp {D x1 y1 x2 y2 e : F} (hD : NoSq D) (he : e * e = 1) (e1 : x1 * x1 * (y1 * y1) = D * (x1 * x1 + y1 * y1 - 1)) (e2 : x2 * x2 * (y2 * y2) = D * (x2 * x2 + y2 * y2 - 1)) (hk : x1 * x2 * y1 * y2 = e * D) : False := by
  have hc := comp_cut hD.ne he e2 hk
  have h1 := hD _ _ (comp_sq he e1 hc hk)
  have hk' : x1 * (-x2) * y1 * y2 = (-e) * D := by grind
  have hc' : x1 * x1 * (y1 * y1) * ((-x2) * (-x2) + y2 * y2 - 1) = D := by rw [← hc]; grind
  have h2 := hD _ _ (comp_sq (e := -e) (x2 := -x2) (by rw [← he]; grind) e1 hc' hk')
  have h3 : 2 * x1 = 0 := by grind
  rcases F_noz h3 with h4 | h4
  · exact two_ne h4
  · rw [h4] at hk
    have h5 : e * (e * D) = 0 := by rw [← hk]; grind
    have h6 : e * (e * D) = e * e * D := by grind
    rw [h6, he] at h5
    exact hD.ne (by rw [← h5]; grind)
theorem den_p {D : F} {P Q : Pt} (hD : NoSq D) (hP : EdOn D P) (hQ : EdOn D Q) : D + P.1 * Q.1 * P.2 * Q.2 ≠ 0 := fun h =>
  comp (e := -1) hD (by grind) hP hQ (by grind)
theorem den_m {D : F} {P Q : Pt} (hD : NoSq D) (hP : EdOn D P) (hQ : EdOn D Q) : D - P.1 * Q.1 * P.2 * Q.2 ≠ 0 := fun h =>
  comp (e := 1) hD (by grind) hP hQ (by grind)

theorem clo_gen {D nx ny a b ia ib : F} (h : D*D*D*D*(nx*nx)*(ny*ny) - D*(D*D*(nx*nx)*(b*b) + D*D*(ny*ny)*(a*a) - a*a*(b*b)) = 0) (ha : a*ia = 1) (hb : b*ib = 1) :
    (D*nx*ia)*(D*nx*ia)*((D*ny*ib)*(D*ny*ib)) = D*((D*nx*ia)*(D*nx*ia) + (D*ny*ib)*(D*ny*ib) - 1) := by
  have h1 : (D*nx*ia)*(D*nx*ia)*((D*ny*ib)*(D*ny*ib)) - D*((D*nx*ia)*(D*nx*ia)*((b*ib)*(b*ib)) + (D*ny*ib)*(D*ny*ib)*((a*ia)*(a*ia)) - (a*ia)*(a*ia)*((b*ib)*(b*ib))) = (D*D*D*D*(nx*nx)*(ny*ny) - D*(D*D*(nx*nx)*(b*b) + D*D*(ny*ny)*(a*a) - a*a*(b*b))) * (ia*ia*(ib*ib)) := by grind
  rw [h, ha, hb] at h1
  grind
theorem edOn_zero {D x y : F} (h : x * x * (y * y) = D * (x * x + y * y - 1)) : x * x * (y * y) - D * (x * x + y * y - 1) = 0 := by rw [h]; grind
theorem edAdd_on {D : F} {P Q : Pt} (hD : NoSq D) (hP : EdOn D P) (hQ : EdOn D Q) : EdOn D (edAdd D P Q) := by
  have h := clo_id D P.1 P.2 Q.1 Q.2
  rw [edOn_zero hP, edOn_zero hQ] at h
  refine clo_gen (h.trans (by grind)) (iv_mul (den_p hD hP hQ)) (iv_mul (den_m hD hP hQ))
theorem edAdd_comm (D : F) (P Q : Pt) : edAdd D P Q = edAdd D Q P := by
  unfold edAdd
  rw [show P.1 * Q.1 * P.2 * Q.2 = Q.1 * P.1 * Q.2 * P.2 by grind, show P.1 * Q.2 + P.2 * Q.1 = Q.1 * P.2 + Q.2 * P.1 by grind, show P.2 * Q.2 - P.1 * Q.1 = Q.2 * P.2 - Q.1 * P.1 by grind]
theorem half_x {D nx ny a b ia ib x y ic : F} (h0 : D ≠ 0) (ha : a * ia = 1) (hb : b * ib = 1) (hc : (D + D*nx*ia*x*(D*ny*ib)*y) * ic = 1) :
    (D * (D*nx*ia*y + D*ny*ib*x) * ic) * (a*b + D*nx*ny*x*y) = D * (nx*b*y + ny*a*x) := by
  have h1 : D * (a*b + D*nx*ny*x*y) = a * b * (D + D*nx*ia*x*(D*ny*ib)*y) := by
    have : a * b * (D + D*nx*ia*x*(D*ny*ib)*y) = a * b * D + D*nx*(a*ia)*x*(D*ny*(b*ib))*y := by grind
    rw [this, ha, hb]; grind
  apply F_can h0
  have h2 : D * ((D * (D*nx*ia*y + D*ny*ib*x) * ic) * (a*b + D*nx*ny*x*y)) = (D * (D*nx*ia*y + D*ny*ib*x) * ic) * (D * (a*b + D*nx*ny*x*y)) := by grind
  have h3 : (D * (D*nx*ia*y + D*ny*ib*x) * ic) * (a * b * (D + D*nx*ia*x*(D*ny*ib)*y)) = D * (D*nx*(a*ia)*b*y + D*ny*(b*ib)*a*x) * ((D + D*nx*ia*x*(D*ny*ib)*y) * ic) := by grind
  rw [h2, h1, h3, ha, hb, hc]; grind
theorem half_y {D nx ny a b ia ib x y ic : F} (h0 : D ≠ 0) (ha : a * ia = 1) (hb : b * ib = 1) (hc : (D - D*nx*ia*x*(D*ny*ib)*y) * ic = 1) :
    (D * (D*ny*ib*y - D*nx*ia*x) * ic) * (a*b - D*nx*ny*x*y) = D * (ny*a*y - nx*b*x) := by
  have h1 : D * (a*b - D*nx*ny*x*y) = a * b * (D - D*nx*ia*x*(D*ny*ib)*y) := by
    have : a * b * (D - D*nx*ia*x*(D*ny*ib)*y) = a * b * D - D*nx*(a*ia)*x*(D*ny*(b*ib))*y := by grind
    rw [this, ha, hb]; grind
  apply F_can h0
  have h2 : D * ((D * (D*ny*ib*y - D*nx*ia*x) * ic) * (a*b - D*nx*ny*x*y)) = (D * (D*ny*ib*y - D*nx*ia*x) * ic) * (D * (a*b - D*nx*ny*x*y)) := by grind
  have h3 : (D * (D*ny*ib*y - D*nx*ia*x) * ic) * (a * b * (D - D*nx*ia*x*(D*ny*ib)*y)) = D * (D*ny*(b*ib)*a*y - D*nx*(a*ia)*b*x) * ((D - D*nx*ia*x*(D*ny*ib)*y) * ic) := by grind
  rw [h2, h1, h3, ha, hb, hc]; grind
theorem half_np {D nx ny a b ia ib x y : F} (ha0 : a ≠ 0) (hb0 : b ≠ 0) (ha : a * ia = 1) (hb : b * ib = 1) (hc : D + D*nx*ia*x*(D*ny*ib)*y ≠ 0) : a*b + D*nx*ny*x*y ≠ 0 := fun h => by
  have h1 : D * (a*b + D*nx*ny*x*y) = a * b * (D + D*nx*ia*x*(D*ny*ib)*y) := by
    have : a * b * (D + D*nx*ia*x*(D*ny*ib)*y) = a * b * D + D*nx*(a*ia)*x*(D*ny*(b*ib))*y := by grind
    rw [this, ha, hb]; grind
  rw [h] at h1
  have h2 : a * b * (D + D*nx*ia*x*(D*ny*ib)*y) = 0 := by rw [← h1]; grind
  rcases F_noz h2 with h3 | h3
  · exact F_mul_ne ha0 hb0 h3
  · exact hc h3
theorem half_nm {D nx ny a b ia ib x y : F} (ha0 : a ≠ 0) (hb0 : b ≠ 0) (ha : a * ia = 1) (hb : b * ib = 1) (hc : D - D*nx*ia*x*(D*ny*ib)*y ≠ 0) : a*b - D*nx*ny*x*y ≠ 0 := fun h => by
  have h1 : D * (a*b - D*nx*ny*x*y) = a * b * (D - D*nx*ia*x*(D*ny*ib)*y) := by
    have : a * b * (D - D*nx*ia*x*(D*ny*ib)*y) = a * b * D - D*nx*(a*ia)*x*(D*ny*(b*ib))*y := by grind
    rw [this, ha, hb]; grind
  rw [h] at h1
  have h2 : a * b * (D - D*nx*ia*x*(D*ny*ib)*y) = 0 := by rw [← h1]; grind
  rcases F_noz h2 with h3 | h3
  · exact F_mul_ne ha0 hb0 h3
  · exact hc h3
theorem cross {T T' d1 d2 n1 n2 D : F} (h1 : T * d1 = D * n1) (h2 : T' * d2 = D * n2) (hd1 : d1 ≠ 0) (hd2 : d2 ≠ 0) (h : n1 * d2 - n2 * d1 = 0) : T = T' := by
  apply F_can (F_mul_ne hd1 hd2)
  have e1 : d1 * d2 * T = T * d1 * d2 := by grind
  have e2 : d1 * d2 * T' = T' * d2 * d1 := by grind
  rw [e1, e2, h1, h2]
  have e3 : D * n1 * d2 - D * n2 * d1 = D * (n1 * d2 - n2 * d1) := by grind
  rw [h] at e3
  grind
theorem ne_of_one {a b : F} (h : a * b = 1) : a ≠ 0 := fun h0 => by
  rw [h0] at h
  exact one_ne (by rw [← h]; grind)
theorem zeros3 (a b c : F) : a * 0 + b * 0 + c * 0 = 0 := by grind
theorem ass_x {D x1 y1 x2 y2 x3 y3 ia ib ic ja jb jc : F} (h0 : D ≠ 0) (e1 : x1*x1*(y1*y1) = D*(x1*x1+y1*y1-1)) (e2 : x2*x2*(y2*y2) = D*(x2*x2+y2*y2-1)) (e3 : x3*x3*(y3*y3) = D*(x3*x3+y3*y3-1))
    (a1 : (D+x1*x2*y1*y2)*ia = 1) (a2 : (D-x1*x2*y1*y2)*ib = 1) (b1 : (D+x2*x3*y2*y3)*ja = 1) (b2 : (D-x2*x3*y2*y3)*jb = 1) (c1 : (D + D*(x1*y2+y1*x2)*ia*x3*(D*(y1*y2-x1*x2)*ib)*y3)*ic = 1) (c2 : (D + D*(x2*y3+y2*x3)*ja*x1*(D*(y2*y3-x2*x3)*jb)*y1)*jc = 1) :
    D*(D*(x1*y2+y1*x2)*ia*y3 + D*(y1*y2-x1*x2)*ib*x3)*ic = D*(D*(x2*y3+y2*x3)*ja*y1 + D*(y2*y3-x2*x3)*jb*x1)*jc := by
  have hx := assx_id D x1 y1 x2 y2 x3 y3
  rw [edOn_zero e1, edOn_zero e2, edOn_zero e3] at hx
  exact cross (half_x h0 a1 a2 c1) (half_x h0 b1 b2 c2) (half_np (ne_of_one a1) (ne_of_one a2) a1 a2 (ne_of_one c1)) (half_np (ne_of_one b1) (ne_of_one b2) b1 b2 (ne_of_one c2)) (hx.trans (zeros3 _ _ _))
theorem ass_y {D x1 y1 x2 y2 x3 y3 ia ib ic ja jb jc : F} (h0 : D ≠ 0) (e1 : x1*x1*(y1*y1) = D*(x1*x1+y1*y1-1)) (e2 : x2*x2*(y2*y2) = D*(x2*x2+y2*y2-1)) (e3 : x3*x3*(y3*y3) = D*(x3*x3+y3*y3-1))
    (a1 : (D+x1*x2*y1*y2)*ia = 1) (a2 : (D-x1*x2*y1*y2)*ib = 1) (b1 : (D+x2*x3*y2*y3)*ja = 1) (b2 : (D-x2*x3*y2*y3)*jb = 1) (c1 : (D - D*(x1*y2+y1*x2)*ia*x3*(D*(y1*y2-x1*x2)*ib)*y3)*ic = 1) (c2 : (D - D*(x2*y3+y2*x3)*ja*x1*(D*(y2*y3-x2*x3)*jb)*y1)*jc = 1) :
    D*(D*(y1*y2-x1*x2)*ib*y3 - D*(x1*y2+y1*x2)*ia*x3)*ic = D*(D*(y2*y3-x2*x3)*jb*y1 - D*(x2*y3+y2*x3)*ja*x1)*jc := by
  have hx := assy_id D x1 y1 x2 y2 x3 y3
  rw [edOn_zero e1, edOn_zero e2, edOn_zero e3] at hx
  exact cross (half_y h0 a1 a2 c1) (half_y h0 b1 b2 c2) (half_nm (ne_of_one a1) (ne_of_one a2) a1 a2 (ne_of_one c1)) (half_nm (ne_of_one b1) (ne_of_one b2) b1 b2 (ne_of_one c2)) (hx.trans (zeros3 _ _ _))
theorem edAdd_assoc {D : F} {P Q R : Pt} (hD : NoSq D) (hP : EdOn D P) (hQ : EdOn D Q) (hR : EdOn D R) : edAdd D (edAdd D P Q) R = edAdd D P (edAdd D Q R) := by
  rw [edAdd_comm D P (edAdd D Q R)]
  have hS := edAdd_on hD hP hQ
  have hS' := edAdd_on hD hQ hR
  have a1 := iv_mul (den_p hD hP hQ)
  have a2 := iv_mul (den_m hD hP hQ)
  have b1 := iv_mul (den_p hD hQ hR)
  have b2 := iv_mul (den_m hD hQ hR)
  have c1 := iv_mul (den_p hD hS hR)
  have c2 := iv_mul (den_p hD hS' hP)
  have d1 := iv_mul (den_m hD hS hR)
  have d2 := iv_mul (den_m hD hS' hP)
  obtain ⟨x1, y1⟩ := P
  obtain ⟨x2, y2⟩ := Q
  obtain ⟨x3, y3⟩ := R
  simp only [EdOn] at hP hQ hR
  simp only [edAdd] at a1 a2 b1 b2 c1 c2 d1 d2 ⊢
  exact Prod.ext (ass_x hD.ne hP hQ hR a1 a2 b1 b2 c1 c2) (ass_y hD.ne hP hQ hR a1 a2 b1 b2 d1 d2)

theorem neg_id {D x y : F} (h : x * x * (y * y) = D * (x * x + y * y - 1)) : D * (y * y - x * -x) = D - x * -x * y * y := by grind
theorem edO_on (D : F) : EdOn D edO := by unfold EdOn edO; grind
theorem edNeg_on {D : F} {P : Pt} (h : EdOn D P) : EdOn D (edNeg P) := by unfold EdOn edNeg at *; grind
theorem edAdd_O {D : F} (h0 : D ≠ 0) (P : Pt) : edAdd D P edO = P := by
  have := iv_mul h0
  apply Prod.ext
  · show D * (P.1 * 1 + P.2 * 0) * iv (D + P.1 * 0 * P.2 * 1) = P.1
    rw [show D + P.1 * 0 * P.2 * 1 = D by grind]; grind
  · show D * (P.2 * 1 - P.1 * 0) * iv (D - P.1 * 0 * P.2 * 1) = P.2
    rw [show D - P.1 * 0 * P.2 * 1 = D by grind]; grind
theorem edAdd_neg {D : F} {P : Pt} (hD : NoSq D) (h : EdOn D P) : edAdd D P (edNeg P) = edO := by
  have h1 := iv_mul (den_m hD h (edNeg_on h))
  apply Prod.ext
  · show D * (P.1 * P.2 + P.2 * -P.1) * _ = 0
    grind
  · have h1' : (D - P.1 * -P.1 * P.2 * P.2) * iv (D - P.1 * -P.1 * P.2 * P.2) = 1 := h1
    show D * (P.2 * P.2 - P.1 * -P.1) * iv (D - P.1 * -P.1 * P.2 * P.2) = 1
    have e : D * (P.2 * P.2 - P.1 * -P.1) = D - P.1 * -P.1 * P.2 * P.2 := neg_id h
    rw [e]; exact h1'

/-! ### So often -/
def edMul (D : F) : Nat → Pt → Pt
  | 0, _ => edO
  | n + 1, P => edAdd D (edMul D n P) P
theorem edMul_on {D : F} {P : Pt} (hD : NoSq D) (h : EdOn D P) : ∀ n, EdOn D (edMul D n P)
  | 0 => edO_on D
  | n + 1 => edAdd_on hD (edMul_on hD h n) h
theorem edMul_add {D : F} {P : Pt} (hD : NoSq D) (h : EdOn D P) (a : Nat) : ∀ b, edMul D (a + b) P = edAdd D (edMul D a P) (edMul D b P)
  | 0 => (edAdd_O hD.ne _).symm
  | b + 1 => by
    show edAdd D (edMul D (a + b) P) P = edAdd D (edMul D a P) (edAdd D (edMul D b P) P)
    rw [edMul_add hD h a b, edAdd_assoc hD (edMul_on hD h a) (edMul_on hD h b) h]
theorem edMul_mul {D : F} {P : Pt} (hD : NoSq D) (h : EdOn D P) (b : Nat) : ∀ a, edMul D (a * b) P = edMul D a (edMul D b P)
  | 0 => by rw [Nat.zero_mul]; rfl
  | a + 1 => by
    rw [Nat.succ_mul, edMul_add hD h, edMul_mul hD h b a]; rfl
theorem edMul_one {D : F} (h0 : D ≠ 0) (P : Pt) : edMul D 1 P = P := by
  show edAdd D edO P = P
  rw [edAdd_comm]; exact edAdd_O h0 P
theorem edSub {D : F} {P Q : Pt} (hD : NoSq D) (hP : EdOn D P) (hQ : EdOn D Q) : edAdd D (edAdd D Q P) (edNeg Q) = P := by
  rw [edAdd_comm D Q P, edAdd_assoc hD hP hQ (edNeg_on hQ), edAdd_neg hD hQ, edAdd_O hD.ne]

end Go.Proofs.Ythhcgeoldjmpaaa
