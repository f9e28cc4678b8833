/-
  The ladder by the first number alone goes along the multiples of a point. Plain algebra.
-/
import Derived.Test.YthhcgeoldjmpaaaEd3
namespace Go.Proofs.Ythhcgeoldjmpaaa
set_option maxHeartbeats 1000000

/-- A fraction X : Z stands for a point whose second Edwards number is y. -/
def Rep (p : Pt) (P : Pt) : Prop := p.1 + p.2 ≠ 0 ∧ p.1 - p.2 = (p.1 + p.2) * P.2
def mDbl (g : F) (p : Pt) : Pt :=
  ((p.1 + p.2) * (p.1 + p.2) * ((p.1 - p.2) * (p.1 - p.2)),
   ((p.1 + p.2) * (p.1 + p.2) - (p.1 - p.2) * (p.1 - p.2)) * ((p.1 - p.2) * (p.1 - p.2) + g * ((p.1 + p.2) * (p.1 + p.2) - (p.1 - p.2) * (p.1 - p.2))))
def mWith (u : F) (p q : Pt) : Pt :=
  (((p.1 - p.2) * (q.1 + q.2) + (p.1 + p.2) * (q.1 - q.2)) * ((p.1 - p.2) * (q.1 + q.2) + (p.1 + p.2) * (q.1 - q.2)),
   u * (((p.1 - p.2) * (q.1 + q.2) - (p.1 + p.2) * (q.1 - q.2)) * ((p.1 - p.2) * (q.1 + q.2) - (p.1 + p.2) * (q.1 - q.2))))

theorem rep_of {X Z y : F} (h : X * (1 - y) = Z * (1 + y)) (hn : X = 0 → Z ≠ 0) : X + Z ≠ 0 ∧ X - Z = (X + Z) * y := by
  have h1 : X - Z = (X + Z) * y := by grobner
  refine ⟨fun h0 => ?_, h1⟩
  rw [h0] at h1
  have h2 : 2 * X = 0 := by grobner
  rcases F_noz h2 with h3 | h3
  · exact two_ne h3
  · exact hn h3 (by grobner)
theorem dbl_key {D g x y : F} (hg : D * (g - 1) = g) (e : x * x * (y * y) = D * (x * x + y * y - 1)) : (y * y + g * (1 - y * y)) * (1 - x * x) = y * y := by
  have h1 : (y * y + g * (1 - y * y)) * (1 - x * x) - y * y = (g - 1) * (x * x * (y * y)) - g * (x * x + y * y - 1) := by grobner
  rw [e] at h1
  have h2 : (g - 1) * (D * (x * x + y * y - 1)) = D * (g - 1) * (x * x + y * y - 1) := by grobner
  rw [h2, hg] at h1
  grobner
theorem dbl_y {D x y v : F} (h0 : D ≠ 0) (e : x * x * (y * y) = D * (x * x + y * y - 1)) (hv : v * (D - x * x * y * y) = D * (y * y - x * x)) : v * (2 - x * x - y * y) = y * y - x * x := by
  apply F_can h0
  have h1 : D - x * x * y * y = D * (2 - x * x - y * y) := by grobner
  rw [h1] at hv
  rw [← hv]; grobner
theorem dbl_fin {g x y v w : F} (hk : (y * y + g * (1 - y * y)) * (1 - x * x) = y * y) (hv : v * (2 - x * x - y * y) = y * y - x * x) (hn : 2 - x * x - y * y ≠ 0) :
    (w * w * (w * y * (w * y))) * (1 - v) = ((w * w - w * y * (w * y)) * (w * y * (w * y) + g * (w * w - w * y * (w * y)))) * (1 + v) := by
  apply F_can hn
  have h1 : (2 - x * x - y * y) * ((w * w * (w * y * (w * y))) * (1 - v)) = w * w * (w * w) * (y * y) * ((2 - x * x - y * y) - v * (2 - x * x - y * y)) := by grobner
  have h2 : (2 - x * x - y * y) * (((w * w - w * y * (w * y)) * (w * y * (w * y) + g * (w * w - w * y * (w * y)))) * (1 + v)) = w * w * (w * w) * (1 - y * y) * (y * y + g * (1 - y * y)) * ((2 - x * x - y * y) + v * (2 - x * x - y * y)) := by grobner
  rw [h1, h2, hv]
  have h3 : w * w * (w * w) * (1 - y * y) * (y * y + g * (1 - y * y)) * ((2 - x * x - y * y) + (y * y - x * x)) = w * w * (w * w) * (1 - y * y) * 2 * ((y * y + g * (1 - y * y)) * (1 - x * x)) := by grobner
  rw [h3, hk]; grobner
theorem sq_zero {a : F} (h : a * a = 0) : a = 0 := by rcases F_noz h with h1 | h1 <;> exact h1
theorem dbl_nz {g y w : F} (hw : w ≠ 0) (hg : g ≠ 0) (h : w * w * (w * y * (w * y)) = 0) : (w * w - w * y * (w * y)) * (w * y * (w * y) + g * (w * w - w * y * (w * y))) ≠ 0 := by
  have h1 : (w * w * y) * (w * w * y) = 0 := by rw [← h]; grobner
  have hy : y = 0 := by
    rcases F_noz (sq_zero h1) with h2 | h2
    · exact absurd h2 (F_mul_ne hw hw)
    · exact h2
  subst hy
  have e : (w * w - w * 0 * (w * 0)) * (w * 0 * (w * 0) + g * (w * w - w * 0 * (w * 0))) = w * w * (w * w) * g := by grobner
  rw [e]
  exact F_mul_ne (F_mul_ne (F_mul_ne hw hw) (F_mul_ne hw hw)) hg
theorem dbl_rep {D g : F} {p Q : Pt} (hD : NoSq D) (hg : D * (g - 1) = g) (hg0 : g ≠ 0) (hQ : EdOn D Q) (h : Rep p Q) : Rep (mDbl g p) (edAdd D Q Q) := by
  obtain ⟨X, Z⟩ := p
  have hd := den_m hD hQ hQ
  have hi := iv_mul hd
  obtain ⟨x, y⟩ := Q
  obtain ⟨hw, he⟩ := h
  simp only [EdOn] at hQ
  simp only [edAdd] at *
  generalize iv (D - x * x * y * y) = ib at *
  have hv : D * (y * y - x * x) * ib * (D - x * x * y * y) = D * (y * y - x * x) := by
    have : D * (y * y - x * x) * ib * (D - x * x * y * y) = D * (y * y - x * x) * ((D - x * x * y * y) * ib) := by grobner
    rw [this, hi]; grobner
  have hn : 2 - x * x - y * y ≠ 0 := fun h0 => hd (by
    have : D - x * x * y * y = D * (2 - x * x - y * y) := by grobner
    rw [this, h0]; grobner)
  unfold Rep mDbl
  simp only
  rw [he]
  exact rep_of (dbl_fin (dbl_key hg hQ) (dbl_y hD.ne hQ hv) hn) (dbl_nz hw hg0)

theorem dif_id (D x1 y1 x2 y2 : F) : (D - x1*x2*y1*y2 + D*(y1*y2-x1*x2)) * (D + x1*x2*y1*y2 + D*(y1*y2+x1*x2)) * ((y1-y2)*(y1-y2)) - (D - x1*x2*y1*y2 - D*(y1*y2-x1*x2)) * (D + x1*x2*y1*y2 - D*(y1*y2+x1*x2)) * ((y1+y2)*(y1+y2)) =
    (-4*D*(x2*x2)*y1*y2 + 4*(x2*x2)*y1*(y2*y2*y2)) * (x1*x1*(y1*y1) - D*(x1*x1+y1*y1-1)) + (4*D*(y1*y1*y1)*y2 - 4*D*y1*y2) * (x2*x2*(y2*y2) - D*(x2*x2+y2*y2-1)) := by grobner
theorem dif_alg {a b v m p q z1 z2 : F} (h : (b + v * b) * (a + m * a) * p - (b - v * b) * (a - m * a) * q = z1 * 0 + z2 * 0) : a * b * ((1 + v) * (1 + m) * p) = a * b * ((1 - v) * (1 - m) * q) := by
  have h1 : a * b * ((1 + v) * (1 + m) * p) - a * b * ((1 - v) * (1 - m) * q) = (b + v * b) * (a + m * a) * p - (b - v * b) * (a - m * a) * q := by grobner
  rw [h] at h1
  grobner
theorem dif_y {D x1 y1 x2 y2 v m : F} (e1 : x1*x1*(y1*y1) = D*(x1*x1+y1*y1-1)) (e2 : x2*x2*(y2*y2) = D*(x2*x2+y2*y2-1))
    (hp : D + x1*x2*y1*y2 ≠ 0) (hm : D - x1*x2*y1*y2 ≠ 0) (hv : v * (D - x1*x2*y1*y2) = D*(y1*y2-x1*x2)) (hmm : m * (D + x1*x2*y1*y2) = D*(y1*y2+x1*x2)) :
    (1 + v) * (1 + m) * ((y1-y2)*(y1-y2)) = (1 - v) * (1 - m) * ((y1+y2)*(y1+y2)) := by
  have h := dif_id D x1 y1 x2 y2
  rw [edOn_zero e1, edOn_zero e2, ← hv, ← hmm] at h
  exact F_can (F_mul_ne hp hm) (dif_alg h)
theorem wit_fin {y1 y2 v m u w1 w2 : F} (hu : u * (1 - m) = 1 + m) (h : (1 + v) * (1 + m) * ((y1-y2)*(y1-y2)) = (1 - v) * (1 - m) * ((y1+y2)*(y1+y2))) (hm : 1 - m ≠ 0) :
    ((w1 * y1 * w2 + w1 * (w2 * y2)) * (w1 * y1 * w2 + w1 * (w2 * y2))) * (1 - v) = (u * ((w1 * y1 * w2 - w1 * (w2 * y2)) * (w1 * y1 * w2 - w1 * (w2 * y2)))) * (1 + v) := by
  apply F_can hm
  have h1 : (1 - m) * ((u * ((w1 * y1 * w2 - w1 * (w2 * y2)) * (w1 * y1 * w2 - w1 * (w2 * y2)))) * (1 + v)) = (w1 * w2) * (w1 * w2) * ((1 + v) * (u * (1 - m)) * ((y1-y2)*(y1-y2))) := by grobner
  rw [h1, hu, h]; grobner
theorem sum_z {w1 w2 y1 y2 : F} (h : w1 * y1 * w2 + w1 * (w2 * y2) = 0) : w1 * w2 * (y1 + y2) = w1 * w2 * 0 := by grobner
theorem dif_z {w1 w2 y1 y2 : F} (h : w1 * y1 * w2 - w1 * (w2 * y2) = 0) : w1 * w2 * (y1 - y2) = w1 * w2 * 0 := by grobner
theorem both_z {y1 y2 : F} (h1 : y1 + y2 = 0) (h2 : y1 - y2 = 0) : y1 = 0 ∧ y2 = 0 := by
  have h3 : 2 * y1 = 0 := by grobner
  have h4 : 2 * y2 = 0 := by grobner
  refine ⟨?_, ?_⟩
  · rcases F_noz h3 with h | h
    · exact absurd h two_ne
    · exact h
  · rcases F_noz h4 with h | h
    · exact absurd h two_ne
    · exact h
theorem on_y0 {D x : F} (h0 : D ≠ 0) (e : x * x * (0 * 0) = D * (x * x + 0 * 0 - 1)) : x * x = 1 := F_can h0 (by
  have h1 : D * (x * x) = D * (x * x + 0 * 0 - 1) + D * 1 := by clear e; grobner
  rw [h1, ← e]; clear h1 e; grobner)
theorem mul_m {D x1 x2 m : F} (h : m * (D + x1 * x2 * 0 * 0) = D * (0 * 0 + x1 * x2)) : D * m = D * (x1 * x2) := by grobner
theorem sq_m {x1 x2 m : F} (h1 : x1 * x1 = 1) (h2 : x2 * x2 = 1) (h : m = x1 * x2) : m * m = 1 := by
  rw [h]
  have : x1 * x2 * (x1 * x2) = x1 * x1 * (x2 * x2) := by grobner
  rw [this, h1, h2]; grobner
theorem far_m {u : F} (h : u * (1 - 1) = 1 + 1) : (2 : F) = 0 := by grobner
theorem near_m {u : F} (h : u * (1 - -1) = 1 + -1) : u * 2 = 0 := by grobner
theorem wit_nz {D x1 y1 x2 y2 m u w1 w2 : F} (h0 : D ≠ 0) (e1 : x1*x1*(y1*y1) = D*(x1*x1+y1*y1-1)) (e2 : x2*x2*(y2*y2) = D*(x2*x2+y2*y2-1)) (hmm : m * (D + x1*x2*y1*y2) = D*(y1*y2+x1*x2))
    (hu : u * (1 - m) = 1 + m) (hu0 : u ≠ 0) (hw1 : w1 ≠ 0) (hw2 : w2 ≠ 0) (hX : (w1 * y1 * w2 + w1 * (w2 * y2)) * (w1 * y1 * w2 + w1 * (w2 * y2)) = 0) :
    u * ((w1 * y1 * w2 - w1 * (w2 * y2)) * (w1 * y1 * w2 - w1 * (w2 * y2))) ≠ 0 := fun hZ => by
  have hW := F_mul_ne hw1 hw2
  have a1 : y1 + y2 = 0 := F_can hW (sum_z (sq_zero hX))
  have a2 : y1 - y2 = 0 := F_can hW (by
    rcases F_noz hZ with h | h
    · exact absurd h hu0
    · exact dif_z (sq_zero h))
  obtain ⟨rfl, rfl⟩ := both_z a1 a2
  have b4 := sq_m (on_y0 h0 e1) (on_y0 h0 e2) (F_can h0 (mul_m hmm))
  rcases sq_one b4 with h | h
  · rw [h] at hu; exact two_ne (far_m hu)
  · rw [h] at hu
    rcases F_noz (near_m hu) with h | h
    · exact hu0 h
    · exact two_ne h
theorem one_sub_ne {u m : F} (hu : u * (1 - m) = 1 + m) : 1 - m ≠ 0 := fun h => by
  have : m = 1 := by grobner
  subst this
  exact two_ne (by grobner)
theorem with_rep {D u : F} {p q Q P : Pt} (hD : NoSq D) (hP : EdOn D P) (hu : u * (1 - P.2) = 1 + P.2) (hu0 : u ≠ 0) (hQ : EdOn D Q) (h : Rep p Q) (h' : Rep q (edAdd D Q P)) : Rep (mWith u p q) (edAdd D Q (edAdd D Q P)) := by
  have hR := edAdd_on hD hQ hP
  have hS := edSub hD hP hQ
  generalize edAdd D Q P = R at *
  have dp := den_p hD hQ hR
  have dm := den_m hD hQ hR
  have im := iv_mul dm
  have dn := den_m hD hR (edNeg_on hQ)
  have inn := iv_mul dn
  have hS2 := congrArg Prod.snd hS
  obtain ⟨X1, Z1⟩ := p
  obtain ⟨X2, Z2⟩ := q
  obtain ⟨x1, y1⟩ := Q
  obtain ⟨x2, y2⟩ := R
  obtain ⟨xp, m⟩ := P
  obtain ⟨hw1, he1⟩ := h
  obtain ⟨hw2, he2⟩ := h'
  simp only [EdOn] at hQ hR
  simp only [edAdd, edNeg] at *
  generalize iv (D - x1 * x2 * y1 * y2) = ib at *
  generalize iv (D - x2 * -x1 * y2 * y1) = ic at *
  have hv : D * (y1 * y2 - x1 * x2) * ib * (D - x1 * x2 * y1 * y2) = D * (y1 * y2 - x1 * x2) := by
    have : D * (y1 * y2 - x1 * x2) * ib * (D - x1 * x2 * y1 * y2) = D * (y1 * y2 - x1 * x2) * ((D - x1 * x2 * y1 * y2) * ib) := by grobner
    rw [this, im]; grobner
  have hmm : m * (D + x1 * x2 * y1 * y2) = D * (y1 * y2 + x1 * x2) := by
    have e : D - x2 * -x1 * y2 * y1 = D + x1 * x2 * y1 * y2 := by grobner
    rw [e] at inn
    rw [← hS2]
    have : D * (y2 * y1 - x2 * -x1) * ic * (D + x1 * x2 * y1 * y2) = D * (y2 * y1 - x2 * -x1) * ((D + x1 * x2 * y1 * y2) * ic) := by grobner
    rw [this, inn]; grobner
  unfold Rep mWith
  simp only
  rw [he1, he2]
  exact rep_of (wit_fin hu (dif_y hQ hR dp dm hv hmm) (one_sub_ne hu)) (wit_nz hD.ne hQ hR hmm hu hu0 hw1 hw2)

end Go.Proofs.Ythhcgeoldjmpaaa
