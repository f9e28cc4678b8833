/-
  The ladder: so often as a number says; and that it does not matter who is first. Plain algebra.
-/
import Derived.Test.YthhcgeoldjmpaaaEd4
namespace Go.Proofs.Ythhcgeoldjmpaaa
set_option maxHeartbeats 1000000

def ladS (g u : F) (n : Nat) : Nat → Pt × Pt
  | 0 => ((1, 0), (u, 1))
  | j + 1 => if n / 2 ^ (254 - j) % 2 = 1 then (mWith u (ladS g u n j).1 (ladS g u n j).2, mDbl g (ladS g u n j).2) else (mDbl g (ladS g u n j).1, mWith u (ladS g u n j).1 (ladS g u n j).2)
def ladO (g u : F) (n : Nat) : F := (ladS g u n 255).1.1 * iv (ladS g u n 255).1.2

theorem lad_gen (Rq : Pt → Pt → Prop) {D g u : F} {P : Pt} {n : Nat} (hD : NoSq D) (hP : EdOn D P) (hn : n < 2 ^ 255) (h0 : Rq (1, 0) edO) (h1 : Rq (u, 1) P)
    (hdbl : ∀ p Q, EdOn D Q → Rq p Q → Rq (mDbl g p) (edAdd D Q Q)) (hwith : ∀ p q Q, EdOn D Q → Rq p Q → Rq q (edAdd D Q P) → Rq (mWith u p q) (edAdd D Q (edAdd D Q P))) :
    ∀ j, j ≤ 255 → Rq (ladS g u n j).1 (edMul D (n / 2 ^ (255 - j)) P) ∧ Rq (ladS g u n j).2 (edMul D (n / 2 ^ (255 - j) + 1) P)
  | 0, _ => by
    have e : n / 2 ^ (255 - 0) = 0 := Nat.div_eq_of_lt hn
    rw [e]
    exact ⟨h0, by rw [edMul_one hD.ne]; exact h1⟩
  | j + 1, hj => by
    obtain ⟨i1, i2⟩ := lad_gen Rq hD hP hn h0 h1 hdbl hwith j (by omega)
    have e1 : 255 - (j + 1) = 254 - j := by omega
    have e2 : n / 2 ^ (255 - j) = n / 2 ^ (254 - j) / 2 := by
      rw [show 255 - j = 254 - j + 1 by omega, Nat.pow_succ, Nat.div_div_eq_div_mul]
    rw [e1]
    rw [e2] at i1 i2
    unfold ladS
    generalize n / 2 ^ (254 - j) = k at *
    have o1 := edMul_on hD hP (k / 2)
    have o2 := edMul_on hD hP (k / 2 + 1)
    have w := hwith _ _ _ o1 i1 i2
    have a1 := edMul_add hD hP (k / 2) (k / 2 + 1)
    have a0 := edMul_add hD hP (k / 2) (k / 2)
    have a2 := edMul_add hD hP (k / 2 + 1) (k / 2 + 1)
    have w' : Rq (mWith u (ladS g u n j).1 (ladS g u n j).2) (edMul D (k / 2 + (k / 2 + 1)) P) := by rw [a1]; exact w
    split
    · rename_i hb
      refine ⟨?_, ?_⟩
      · rw [show k / 2 + (k / 2 + 1) = k by omega] at w'; exact w'
      · have := hdbl _ _ o2 i2
        rw [← a2, show k / 2 + 1 + (k / 2 + 1) = k + 1 by omega] at this; exact this
    · rename_i hb
      refine ⟨?_, ?_⟩
      · have := hdbl _ _ o1 i1
        rw [← a0, show k / 2 + k / 2 = k by omega] at this; exact this
      · rw [show k / 2 + (k / 2 + 1) = k + 1 by omega] at w'; exact w'

def kap (P : Pt) : F := (1 + P.2) * iv (1 - P.2)
theorem out_alg {X Z y i k : F} (h : X - Z = (X + Z) * y) (hi : Z * i = 1) (hk : (1 - y) * k = 1) : Z * (1 - y) * (X * i) = Z * (1 - y) * ((1 + y) * k) := by
  have h1 : Z * (1 - y) * (X * i) = X * (1 - y) * (Z * i) := by clear h hi hk; grobner
  have h2 : Z * (1 - y) * ((1 + y) * k) = Z * (1 + y) * ((1 - y) * k) := by clear h hi hk h1; grobner
  rw [h1, h2, hi, hk]
  clear hi hk h1 h2
  grobner
theorem out_far {X Z y : F} (h : X - Z = (X + Z) * y) (hy : 1 - y = 0) : 2 * Z = 0 := by grobner
theorem out_near {X Z y : F} (h : X - Z = (X + Z) * y) : 2 * Z = (X + Z) * (1 - y) := by grobner
theorem mul_0 (a : F) : a * 0 = 0 := by grobner
theorem rep_out {p P : Pt} (h : Rep p P) : p.1 * iv p.2 = kap P := by
  obtain ⟨hw, he⟩ := h
  unfold kap
  by_cases hy : 1 - P.2 = 0
  · have hz : p.2 = 0 := by
      rcases F_noz (out_far he hy) with h | h
      · exact absurd h two_ne
      · exact h
    rw [hz, hy, iv_zero, mul_0, mul_0]
  · have hz : p.2 ≠ 0 := fun h0 => by
      have := out_near he
      rw [h0, mul_0] at this
      rw [h0] at hw
      exact F_mul_ne hw hy this.symm
    exact F_can (F_mul_ne hz hy) (out_alg he (iv_mul hz) (iv_mul hy))

/-! ### The twist -/
def tw (p : Pt) : Pt := (-p.1, p.2)
theorem rep_neg {p P : Pt} (h : Rep p P) : Rep (-p.1, -p.2) P := by
  obtain ⟨hw, he⟩ := h
  refine ⟨fun h0 => hw ?_, ?_⟩
  · have h0' : -p.1 + -p.2 = 0 := h0
    clear he h0; grobner
  · show -p.1 - -p.2 = (-p.1 + -p.2) * P.2
    grobner
theorem tw_dbl (g : F) (p : Pt) : tw (mDbl g p) = (-(mDbl (1 - g) (tw p)).1, -(mDbl (1 - g) (tw p)).2) := by
  obtain ⟨X, Z⟩ := p
  simp only [tw, mDbl]
  refine Prod.ext ?_ ?_
  · simp only; grobner
  · simp only; grobner
theorem tw_with (u : F) (p q : Pt) : tw (mWith u p q) = (-(mWith (-u) (tw p) (tw q)).1, -(mWith (-u) (tw p) (tw q)).2) := by
  obtain ⟨X, Z⟩ := p
  obtain ⟨X', Z'⟩ := q
  simp only [tw, mWith]
  refine Prod.ext ?_ ?_
  · simp only; grobner
  · simp only; grobner
theorem start_rep {u y x : F} (h : u * (1 - y) = 1 + y) : Rep (u, 1) (x, y) := by
  refine ⟨fun h0 => ?_, ?_⟩
  · have h0' : u + 1 = 0 := h0
    exact two_ne (by clear h0; grobner)
  · show u - 1 = (u + 1) * y
    grobner
theorem far_rep : Rep (1, 0) edO := ⟨by decide +kernel, by decide +kernel⟩
theorem far_tw : Rep (tw (1, 0)) edO := ⟨by decide +kernel, by decide +kernel⟩

abbrev gC : F := 121666
abbrev D1 : F := 28692721048178265397853269683490922171210976843790175684556505508326675974058
abbrev D2 : F := 20800338683988658368647408995589388737092878452977063003340006470870624536394
theorem D1_half : pw D1 HP = -1 := pw_val D1 HP (by decide) (-1) (by decide +kernel)
theorem D2_half : pw D2 HP = -1 := pw_val D2 HP (by decide) (-1) (by decide +kernel)
theorem D1_no : NoSq D1 := noSq_of D1_half
theorem D2_no : NoSq D2 := noSq_of D2_half
theorem D12 : D1 * D2 = 1 := by decide +kernel
theorem lad_cur {P : Pt} {w : F} {n : Nat} (hP : EdOn D1 P) (hw : w ≠ 0) (h : w * (1 - P.2) = 1 + P.2) (hn : n < 2 ^ 255) : ladO gC w n = kap (edMul D1 n P) := by
  have := (lad_gen (g := gC) Rep D1_no hP hn far_rep (start_rep (x := P.1) h) (fun p Q hQ hr => dbl_rep D1_no (by decide +kernel) (by decide +kernel) hQ hr) (fun p q Q hQ hr hr' => with_rep D1_no hP h hw hQ hr hr') 255 (Nat.le_refl _)).1
  rw [show n / 2 ^ (255 - 255) = n by simp] at this
  exact rep_out this
theorem neg_ne {a : F} (h : a ≠ 0) : -a ≠ 0 := fun h0 => h (by grobner)
theorem neg_out {X z k : F} (h : -X * z = k) : X * z = -k := by grobner
theorem lad_tw {P : Pt} {w : F} {n : Nat} (hP : EdOn D2 P) (hw : w ≠ 0) (h : -w * (1 - P.2) = 1 + P.2) (hn : n < 2 ^ 255) : ladO gC w n = -kap (edMul D2 n P) := by
  have := (lad_gen (g := gC) (fun p Q => Rep (tw p) Q) D2_no hP hn far_tw (start_rep (x := P.1) h)
    (fun p Q hQ hr => by rw [tw_dbl]; exact rep_neg (dbl_rep D2_no (by decide +kernel) (by decide +kernel) hQ hr))
    (fun p q Q hQ hr hr' => by rw [tw_with]; exact rep_neg (with_rep D2_no hP h (neg_ne hw) hQ hr hr')) 255 (Nat.le_refl _)).1
  rw [show n / 2 ^ (255 - 255) = n by simp] at this
  exact neg_out (rep_out this)

/-! ### Nought -/
theorem z_dbl (g : F) {p : Pt} (h : p.1 * p.2 = 0) : (mDbl g p).1 * (mDbl g p).2 = 0 := by
  have e : (mDbl g p).2 = p.1 * p.2 * (4 * ((p.1 - p.2) * (p.1 - p.2) + g * ((p.1 + p.2) * (p.1 + p.2) - (p.1 - p.2) * (p.1 - p.2)))) := by
    show ((p.1 + p.2) * (p.1 + p.2) - (p.1 - p.2) * (p.1 - p.2)) * ((p.1 - p.2) * (p.1 - p.2) + g * ((p.1 + p.2) * (p.1 + p.2) - (p.1 - p.2) * (p.1 - p.2))) = _
    clear h; grobner
  rw [e, h]
  generalize (mDbl g p).1 = a
  clear e h; grobner
theorem z_with (p q : Pt) : (mWith 0 p q).1 * (mWith 0 p q).2 = 0 := by
  have e : (mWith 0 p q).2 = 0 := by
    show 0 * _ = (0 : F)
    grobner
  rw [e, mul_0]
theorem z_lad (g : F) (n : Nat) : ∀ j, (ladS g 0 n j).1.1 * (ladS g 0 n j).1.2 = 0 ∧ (ladS g 0 n j).2.1 * (ladS g 0 n j).2.2 = 0
  | 0 => ⟨by show (1 : F) * 0 = 0; grobner, by show (0 : F) * 1 = 0; grobner⟩
  | j + 1 => by
    obtain ⟨h1, h2⟩ := z_lad g n j
    unfold ladS
    split
    · exact ⟨z_with _ _, z_dbl g h2⟩
    · exact ⟨z_dbl g h1, z_with _ _⟩
theorem ladO_zero (g : F) (n : Nat) : ladO g 0 n = 0 := by
  unfold ladO
  rcases F_noz (z_lad g n 255).1 with h | h
  · rw [h]; generalize iv _ = a; grobner
  · rw [h, iv_zero, mul_0]

end Go.Proofs.Ythhcgeoldjmpaaa
