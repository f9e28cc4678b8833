/-
  That 2^255 - 19 is a prime, and what follows of that: plain arithmetic.
-/
import Derived.Test.YthhcgeoldjmpaaaNum3
namespace Go.Proofs.Ythhcgeoldjmpaaa

def IsP (p : Nat) : Prop := 2 ≤ p ∧ ∀ d, d ∣ p → d = 1 ∨ d = p

theorem IsP.coprime {p a : Nat} (hp : IsP p) (h : ¬ p ∣ a) : Nat.Coprime p a := by
  rcases hp.2 (Nat.gcd p a) (Nat.gcd_dvd_left p a) with h1 | h1
  · exact h1
  · exact absurd (h1 ▸ Nat.gcd_dvd_right p a) h
theorem IsP.euclid {p a b : Nat} (hp : IsP p) (h : p ∣ a * b) : p ∣ a ∨ p ∣ b := by
  by_cases ha : p ∣ a
  · exact .inl ha
  · exact .inr ((hp.coprime ha).dvd_of_dvd_mul_left h)

/-! ### Binomials -/
def ch : Nat → Nat → Nat
  | _, 0 => 1
  | 0, _ + 1 => 0
  | n + 1, k + 1 => ch n k + ch n (k + 1)
def sumTo (f : Nat → Nat) : Nat → Nat
  | 0 => 0
  | n + 1 => sumTo f n + f n
theorem ch_zero (n : Nat) : ch n 0 = 1 := by cases n <;> rfl
theorem ch_big : ∀ (n k : Nat), n < k → ch n k = 0
  | 0, k + 1, _ => rfl
  | n + 1, k + 1, h => by show ch n k + ch n (k + 1) = 0; rw [ch_big n k (by omega), ch_big n (k + 1) (by omega)]
theorem ch_self (n : Nat) : ch n n = 1 := by
  induction n with
  | zero => rfl
  | succ n ih => show ch n n + ch n (n + 1) = 1; rw [ih, ch_big n (n + 1) (by omega)]
theorem ch_mul (n : Nat) : ∀ k, (k + 1) * ch (n + 1) (k + 1) = (n + 1) * ch n k := by
  induction n with
  | zero =>
    intro k
    cases k with
    | zero => rfl
    | succ k => show (k + 1 + 1) * (ch 0 (k + 1) + ch 0 (k + 1 + 1)) = _; simp [ch]
  | succ n ih =>
    intro k
    cases k with
    | zero =>
      have := ih 0
      show (0 + 1) * (ch (n + 1) 0 + ch (n + 1) (0 + 1)) = _
      rw [ch_zero] at *
      omega
    | succ k =>
      have h1 := ih k
      have h2 := ih (k + 1)
      show (k + 1 + 1) * (ch (n + 1) (k + 1) + ch (n + 1) (k + 1 + 1)) = (n + 1 + 1) * ch (n + 1) (k + 1)
      have h3 : ch (n + 1) (k + 1) = ch n k + ch n (k + 1) := rfl
      rw [Nat.mul_add, h2]
      have e1 : (k + 1 + 1) * ch (n + 1) (k + 1) = (k + 1) * ch (n + 1) (k + 1) + ch (n + 1) (k + 1) := by rw [Nat.add_mul, Nat.one_mul]
      have e2 : (n + 1 + 1) * ch (n + 1) (k + 1) = (n + 1) * ch (n + 1) (k + 1) + ch (n + 1) (k + 1) := by rw [Nat.add_mul, Nat.one_mul]
      have e3 : (n + 1) * ch (n + 1) (k + 1) = (n + 1) * ch n k + (n + 1) * ch n (k + 1) := by rw [h3, Nat.mul_add]
      omega
theorem sumTo_add (f g : Nat → Nat) (n : Nat) : sumTo (fun k => f k + g k) n = sumTo f n + sumTo g n := by
  induction n with
  | zero => rfl
  | succ n ih => simp only [sumTo, ih]; omega
theorem sumTo_mul (c : Nat) (f : Nat → Nat) (n : Nat) : sumTo (fun k => c * f k) n = c * sumTo f n := by
  induction n with
  | zero => rfl
  | succ n ih => simp only [sumTo, ih, Nat.mul_add]
theorem sumTo_congr {f g : Nat → Nat} (n : Nat) (h : ∀ k, k < n → f k = g k) : sumTo f n = sumTo g n := by
  induction n with
  | zero => rfl
  | succ n ih => simp only [sumTo]; rw [ih (fun k hk => h k (by omega)), h n (by omega)]
theorem sumTo_shift (f : Nat → Nat) (n : Nat) : sumTo f (n + 1) = f 0 + sumTo (fun k => f (k + 1)) n := by
  induction n with
  | zero => simp [sumTo]
  | succ n ih => rw [sumTo, ih]; simp only [sumTo]; omega
theorem binom (a n : Nat) : (a + 1) ^ n = sumTo (fun k => ch n k * a ^ k) (n + 1) := by
  induction n with
  | zero => rfl
  | succ n ih =>
    rw [sumTo_shift]
    have e : sumTo (fun k => ch (n + 1) (k + 1) * a ^ (k + 1)) (n + 1) = a * sumTo (fun k => ch n k * a ^ k) (n + 1) + sumTo (fun k => ch n (k + 1) * a ^ (k + 1)) (n + 1) := by
      rw [← sumTo_mul, ← sumTo_add]
      refine sumTo_congr _ fun k _ => ?_
      show (ch n k + ch n (k + 1)) * a ^ (k + 1) = _
      rw [Nat.add_mul, Nat.pow_succ, ← Nat.mul_assoc, Nat.mul_comm a]
    have e2 : sumTo (fun k => ch n k * a ^ k) (n + 1) = 1 + sumTo (fun k => ch n (k + 1) * a ^ (k + 1)) (n + 1) := by
      rw [sumTo_shift]
      show ch n 0 * a ^ 0 + sumTo (fun k => ch n (k + 1) * a ^ (k + 1)) n = 1 + (sumTo (fun k => ch n (k + 1) * a ^ (k + 1)) n + ch n (n + 1) * a ^ (n + 1))
      rw [ch_zero, ch_big n (n + 1) (by omega)]
      simp
    rw [e, Nat.pow_succ, ih, Nat.mul_add, Nat.mul_one, Nat.mul_comm, ch_zero, Nat.pow_zero]
    omega

theorem ch_dvd {p : Nat} (hp : IsP p) (k : Nat) (h0 : 0 < k) (h1 : k < p) : p ∣ ch p k := by
  obtain ⟨n, rfl⟩ : ∃ n, p = n + 1 := ⟨p - 1, by have := hp.1; omega⟩
  obtain ⟨j, rfl⟩ : ∃ j, k = j + 1 := ⟨k - 1, by omega⟩
  have := ch_mul n j
  rcases hp.euclid (a := j + 1) (b := ch (n + 1) (j + 1)) ⟨ch n j, this⟩ with h | h
  · exact absurd (Nat.le_of_dvd (by omega) h) (by omega)
  · exact h

theorem sumTo_mod (p : Nat) (f : Nat → Nat) (n : Nat) (h : ∀ k, k < n → p ∣ f k) : p ∣ sumTo f n := by
  induction n with
  | zero => exact Nat.dvd_zero p
  | succ n ih => exact Nat.dvd_add (ih fun k hk => h k (by omega)) (h n (by omega))

theorem fermat_p {p : Nat} (hp : IsP p) (a : Nat) : a ^ p % p = a % p := by
  induction a with
  | zero => rw [Nat.zero_pow (by have := hp.1; omega)]
  | succ a ih =>
    obtain ⟨n, hn⟩ : ∃ n, p = n + 1 := ⟨p - 1, by have := hp.1; omega⟩
    have hb := binom a p
    rw [sumTo, ch_self, Nat.one_mul] at hb
    have hs : sumTo (fun k => ch p k * a ^ k) p = 1 + sumTo (fun k => ch p (k + 1) * a ^ (k + 1)) n := by
      have := sumTo_shift (fun k => ch p k * a ^ k) n
      rw [← hn] at this
      rw [this, ch_zero, Nat.pow_zero]
    have hd : p ∣ sumTo (fun k => ch p (k + 1) * a ^ (k + 1)) n := sumTo_mod p _ n fun k hk => Nat.dvd_mul_right_of_dvd (ch_dvd hp (k + 1) (by omega) (by omega)) _
    obtain ⟨c, hc⟩ := hd
    rw [hb, hs, hc]
    have e : 1 + p * c + a ^ p = a ^ p + 1 + p * c := by omega
    rw [e, Nat.add_mul_mod_self_left, Nat.add_mod, ih, ← Nat.add_mod]

theorem dvd_of_mod {a p : Nat} (h : a % p = 0) : p ∣ a := Nat.dvd_of_mod_eq_zero h

theorem fermat {p : Nat} (hp : IsP p) {a : Nat} (h : ¬ p ∣ a) : a ^ (p - 1) % p = 1 := by
  have h1 := fermat_p hp a
  have ha : 0 < a := by
    rcases Nat.eq_zero_or_pos a with h0 | h0
    · exact absurd (h0 ▸ Nat.dvd_zero p) h
    · exact h0
  have hpos : 1 ≤ a ^ (p - 1) := Nat.pow_pos ha
  have e : a ^ p = a * a ^ (p - 1) := by
    have : p = (p - 1) + 1 := by have := hp.1; omega
    conv => lhs; rw [this]
    rw [Nat.pow_succ, Nat.mul_comm]
  have h2 : p ∣ a * (a ^ (p - 1) - 1) := by
    rw [Nat.mul_sub, Nat.mul_one, ← e]
    exact dvd_of_mod (Nat.sub_mod_eq_zero_of_mod_eq h1)
  rcases hp.euclid h2 with h3 | h3
  · exact absurd h3 h
  · obtain ⟨c, hc⟩ := h3
    have : a ^ (p - 1) = 1 + p * c := by omega
    rw [this, Nat.add_mul_mod_self_left, Nat.mod_eq_of_lt (by have := hp.1; omega)]

/-! ### Pocklington -/
theorem pow_gcd {b q : Nat} (hq : 1 < q) (m n : Nat) : b ^ m % q = 1 → b ^ n % q = 1 → b ^ (Nat.gcd m n) % q = 1 := by
  refine Nat.gcd.induction (P := fun m n => b ^ m % q = 1 → b ^ n % q = 1 → b ^ (Nat.gcd m n) % q = 1) m n ?_ ?_
  · intro n _ h; rw [Nat.gcd_zero_left]; exact h
  · intro m n _ ih h1 h2
    rw [Nat.gcd_rec]
    refine ih ?_ h1
    have e : b ^ n = (b ^ m) ^ (n / m) * b ^ (n % m) := by rw [← Nat.pow_mul, ← Nat.pow_add, Nat.div_add_mod]
    rw [e, Nat.mul_mod, Nat.pow_mod, h1, Nat.one_pow, Nat.mod_eq_of_lt hq, Nat.one_mul, Nat.mod_mod] at h2
    exact h2

theorem small_factor (N : Nat) (hN : 2 ≤ N) (h : ¬ IsP N) : ∃ q, IsP q ∧ q ∣ N ∧ q * q ≤ N := by
  have key : ∀ n d, d ≤ n → 2 ≤ d → d ∣ N → d * d ≤ N → ∃ q, IsP q ∧ q ∣ N ∧ q * q ≤ N := by
    intro n
    induction n with
    | zero => intro d h1 h2; omega
    | succ n ih =>
      intro d h1 h2 h3 h4
      by_cases hp : IsP d
      · exact ⟨d, hp, h3, h4⟩
      · have : ∃ e, e ∣ d ∧ e ≠ 1 ∧ e ≠ d := by
          refine Classical.byContradiction fun hn => hp ⟨h2, fun e he => ?_⟩
          by_cases h1 : e = 1
          · exact .inl h1
          · by_cases h2 : e = d
            · exact .inr h2
            · exact absurd ⟨e, he, h1, h2⟩ hn
        obtain ⟨e, he, h5, h6⟩ := this
        have hle := Nat.le_of_dvd (by omega) he
        have hpos : 0 < e := Nat.pos_of_dvd_of_pos he (by omega)
        exact ih e (by omega) (by omega) (Nat.dvd_trans he h3) (Nat.le_trans (Nat.mul_le_mul hle hle) h4)
  have : ∃ e, e ∣ N ∧ e ≠ 1 ∧ e ≠ N := by
    refine Classical.byContradiction fun hn => h ⟨hN, fun e he => ?_⟩
    by_cases h1 : e = 1
    · exact .inl h1
    · by_cases h2 : e = N
      · exact .inr h2
      · exact absurd ⟨e, he, h1, h2⟩ hn
  obtain ⟨e, he, h5, h6⟩ := this
  have hpos : 0 < e := Nat.pos_of_dvd_of_pos he (by omega)
  have hle := Nat.le_of_dvd (by omega) he
  obtain ⟨f, hf⟩ := he
  have hf1 : f ≠ 1 := fun e1 => by rw [e1, Nat.mul_one] at hf; exact h6 hf.symm
  have hf0 : f ≠ 0 := fun e1 => by rw [e1, Nat.mul_zero] at hf; omega
  rcases Nat.le_total e f with hef | hef
  · exact key e e (Nat.le_refl _) (by omega) ⟨f, hf⟩ (by rw [hf]; exact Nat.mul_le_mul_left _ hef)
  · exact key f f (Nat.le_refl _) (by omega) ⟨e, by rw [hf, Nat.mul_comm]⟩ (by rw [hf]; exact Nat.mul_le_mul_right _ hef)

/-- g^((N-1)/r) leaves c, c - 1 has nothing in common with N: then r goes into q - 1 for each prime q that goes into N. -/
theorem pock {N g r m c q : Nat} (hr : IsP r) (hm : N - 1 = m * r) (h1 : g ^ (N - 1) % N = 1) (hc : g ^ m % N = c) (hg : Nat.gcd (c - 1) N = 1) (hq : IsP q) (hqN : q ∣ N) : r ∣ q - 1 := by
  have q2 := hq.1
  have toq : ∀ x, x % N % q = x % q := fun x => Nat.mod_mod_of_dvd x hqN
  have hbr : (g ^ m) ^ r % q = 1 := by
    rw [← Nat.pow_mul, ← hm, ← toq, h1, Nat.mod_eq_of_lt (by omega)]
  have hbn : ¬ q ∣ g ^ m := fun hd => by
    obtain ⟨t, ht⟩ := hd
    have hr0 : r ≠ 0 := by have := hr.1; omega
    have : (g ^ m) ^ r % q = 0 := by
      rw [Nat.pow_mod, ht, Nat.mul_mod_right, Nat.zero_pow (by omega), Nat.zero_mod]
    omega
  have hf := fermat hq hbn
  have hgcd := pow_gcd (by omega) r (q - 1) hbr hf
  rcases hr.2 (Nat.gcd r (q - 1)) (Nat.gcd_dvd_left _ _) with h | h
  · exfalso
    rw [h, Nat.pow_one] at hgcd
    have hcq : c % q = 1 := by rw [← hc, toq]; exact hgcd
    have hd : q ∣ c - 1 := by
      refine dvd_of_mod (Nat.sub_mod_eq_zero_of_mod_eq ?_)
      rw [hcq, Nat.mod_eq_of_lt (by omega)]
    have := Nat.dvd_gcd hd hqN
    rw [hg] at this
    have := Nat.le_of_dvd (by omega) this
    omega
  · rw [← h]; exact Nat.gcd_dvd_right _ _

/-- The power, by squares. -/
def pm (N : Nat) : Nat → Nat → Nat → Nat
  | 0, _, _ => 1 % N
  | f + 1, g, n => if n % 2 = 1 then g * pm N f (g * g % N) (n / 2) % N else pm N f (g * g % N) (n / 2)
theorem pm_eq (N : Nat) : ∀ f g n, n < 2 ^ f → pm N f g n = g ^ n % N
  | 0, g, n, h => by
    have : n = 0 := by simp at h; omega
    subst this; rfl
  | f + 1, g, n, h => by
    have hn : n / 2 < 2 ^ f := by rw [Nat.pow_succ] at h; omega
    have ih := pm_eq N f (g * g % N) (n / 2) hn
    have e1 : (g * g % N) ^ (n / 2) % N = g ^ (2 * (n / 2)) % N := by
      rw [← Nat.pow_mod, Nat.pow_mul, Nat.pow_two]
    unfold pm
    split
    · rename_i ho
      have e : n = 2 * (n / 2) + 1 := by omega
      rw [ih, e1]
      conv => rhs; rw [e, Nat.pow_succ, Nat.mul_comm]
      rw [Nat.mul_mod, Nat.mod_mod, ← Nat.mul_mod]
    · have e : n = 2 * (n / 2) := by omega
      rw [ih, e1]
      conv => rhs; rw [e]

theorem trial (n k : Nat) (hn : 2 ≤ n) (hk : n < k * k) (h : ((List.range k).all fun d => d < 2 || !(n % d == 0)) = true) : IsP n := by
  refine Classical.byContradiction fun hp => ?_
  obtain ⟨q, h1, h2, h3⟩ := small_factor n hn hp
  have hqk : q < k := by
    rcases Nat.lt_or_ge q k with h | h
    · exact h
    · have := Nat.mul_le_mul h h; omega
  have := (List.all_eq_true.1 h) q (by simpa using hqk)
  have hz : n % q = 0 := Nat.mod_eq_zero_of_dvd h2
  have := h1.1
  simp [hz] at *
  omega

theorem p7 : IsP 7 := trial 7 3 (by decide) (by decide) (by decide +kernel)
theorem p3 : IsP 3 := trial 3 2 (by decide) (by decide) (by decide +kernel)
theorem p75707 : IsP 75707 := trial 75707 276 (by decide) (by decide) (by decide +kernel)
theorem p8574133 : IsP 8574133 := trial 8574133 2929 (by decide) (by decide) (by decide +kernel)

/-- Two primes that go into N - 1, and together are enough. -/
theorem pock2 {N g r s m m' c c' F : Nat} (hN : 2 ≤ N) (hr : IsP r) (hs : IsP s) (hrs : Nat.gcd r s = 1) (hm : N - 1 = m * r) (hm' : N - 1 = m' * s) (f : Nat) (hf : N - 1 < 2 ^ f) (hmf : m < 2 ^ f) (hmf' : m' < 2 ^ f)
    (h1 : pm N f g (N - 1) = 1) (hc : pm N f g m = c) (hc' : pm N f g m' = c') (hg : Nat.gcd (c - 1) N = 1) (hg' : Nat.gcd (c' - 1) N = 1) (hF : F = r * s) (ho : N % 2 = 1) (hr2 : r % 2 = 1) (hs2 : s % 2 = 1) (hbig : N < (2 * F) * (2 * F)) : IsP N := by
  refine Classical.byContradiction fun hp => ?_
  obtain ⟨q, h2, h3, h4⟩ := small_factor N hN hp
  rw [pm_eq N f g _ hf] at h1
  rw [pm_eq N f g _ hmf] at hc
  rw [pm_eq N f g _ hmf'] at hc'
  have d1 := pock hr hm h1 hc hg h2 h3
  have d2 := pock hs hm' h1 hc' hg' h2 h3
  have d3 : F ∣ q - 1 := by rw [hF]; exact Nat.Coprime.mul_dvd_of_dvd_of_dvd hrs d1 d2
  have hq2 := h2.1
  have hqo : q % 2 = 1 := by
    rcases Nat.mod_two_eq_zero_or_one q with h | h
    · exfalso
      have : 2 ∣ N := Nat.dvd_trans (dvd_of_mod h) h3
      have := Nat.mod_eq_zero_of_dvd this
      omega
    · exact h
  have d4 : 2 ∣ q - 1 := dvd_of_mod (by omega)
  have hco : Nat.gcd 2 F = 1 := by
    have : F % 2 = 1 := by rw [hF, Nat.mul_mod, hr2, hs2]
    rw [Nat.gcd_rec, this]; rfl
  have d5 : 2 * F ∣ q - 1 := Nat.Coprime.mul_dvd_of_dvd_of_dvd hco d4 d3
  have hle := Nat.le_of_dvd (by omega) d5
  have := Nat.mul_le_mul (show 2 * F ≤ q by omega) (show 2 * F ≤ q by omega)
  omega

theorem pN1 : IsP 1919519569386763 :=
  pock2 (g := 2) (by decide) p8574133 p7 (by decide +kernel) (m := 223873314) (m' := 274217081340966) (by decide) (by decide) 64 (by decide) (by decide) (by decide) (by decide +kernel) rfl rfl (by decide +kernel) (by decide +kernel) rfl (by decide) (by decide) (by decide) (by decide)
theorem pN2 : IsP 75445702479781427272750846543864801 :=
  pock2 (g := 2) (by decide) pN1 p75707 (by decide +kernel) (m := 39304471641247389600) (m' := 996548568557483816196003626400) (by decide) (by decide) 128 (by decide) (by decide) (by decide) (by decide +kernel) rfl rfl (by decide +kernel) (by decide +kernel) rfl (by decide) (by decide) (by decide) (by decide)
theorem pN3 : IsP 74058212732561358302231226437062788676166966415465897661863160754340907 :=
  pock2 (g := 2) (by decide) pN2 p3 (by decide +kernel) (m := 981609426360740691344999861639072106) (m' := 24686070910853786100743742145687596225388988805155299220621053584780302) (by decide) (by decide) 240 (by decide) (by decide) (by decide) (by decide +kernel) rfl rfl (by decide +kernel) (by decide +kernel) rfl (by decide) (by decide) (by decide) (by decide)
theorem pPP : IsP PP :=
  pock2 (g := 2) (by decide) pN3 p3 (by decide +kernel) (m := 781764) (m' := 19298681539552699237261830834781317975544997444273427339909597334652188273316) (by decide) (by decide) 256 (by decide) (by decide) (by decide) (by decide +kernel) rfl rfl (by decide +kernel) (by decide +kernel) rfl (by decide) (by decide) (by decide) (by decide)

/-! ### What the field's laws want -/
theorem inv_mul (a : Nat) (h0 : a ≠ 0) (h : a < PP) : a * (a ^ EE % PP) % PP = 1 := by
  have hn : ¬ PP ∣ a := fun hd => absurd (Nat.le_of_dvd (by omega) hd) (by omega)
  have := fermat pPP hn
  rw [show PP - 1 = EE + 1 by decide, Nat.pow_succ, Nat.mul_comm] at this
  rw [Nat.mul_mod, Nat.mod_mod, ← Nat.mul_mod]; exact this
theorem no_zero (a b : Nat) (h0 : a ≠ 0) (h : a < PP) (hb : b < PP) (hz : a * b % PP = 0) : b = 0 := by
  rcases pPP.euclid (dvd_of_mod hz) with h1 | h1
  · exact absurd (Nat.le_of_dvd (by omega) h1) (by omega)
  · rcases Nat.eq_zero_or_pos b with h2 | h2
    · exact h2
    · exact absurd (Nat.le_of_dvd h2 h1) (by omega)

theorem wd_inj {x y : Nat} (hx : x < 2 ^ 256) (hy : y < 2 ^ 256) (h : ∀ j, j < 4 → wd x j = wd y j) : x = y := by
  have key : ∀ k, k ≤ 4 → x % 2 ^ (64 * k) = y % 2 ^ (64 * k) := by
    intro k
    induction k with
    | zero => intro _; simp [Nat.mod_one]
    | succ k ih => intro hk; rw [mod_next, mod_next, ih (by omega), h k (by omega)]
  have := key 4 (Nat.le_refl 4)
  rw [Nat.mod_eq_of_lt (show x < 2 ^ (64 * 4) from hx), Nat.mod_eq_of_lt (show y < 2 ^ (64 * 4) from hy)] at this
  exact this
theorem allEq_zero {z : Nat} (hz : z < 2 ^ 256) : allEq 4 (wd z) (fun _ => 0) = decide (z = 0) := by
  by_cases h : z = 0
  · subst h
    rw [decide_eq_true rfl]
    exact allEq_iff.2 fun j _ => by simp [wd]
  · rw [decide_eq_false h]
    cases h2 : allEq 4 (wd z) (fun _ => 0) with
    | false => rfl
    | true =>
      exfalso
      refine h (wd_inj hz (by decide) fun j hj => ?_)
      rw [allEq_iff.1 h2 j hj]; simp [wd]
theorem zero_pow_mod : 0 ^ EE % PP = 0 := by rw [Nat.zero_pow (by decide)]; rfl
theorem zero_eq {x y : Nat} (h0 : x ≠ 0) (hx : x < PP) (hy : y < PP) : (allEq 4 (wd (x * y % PP)) (fun _ => 0) == allEq 4 (wd y) (fun _ => 0)) = true := by
  have h1 : x * y % PP < 2 ^ 256 := Nat.lt_trans (Nat.mod_lt _ (by decide)) (by decide)
  rw [allEq_zero h1, allEq_zero (Nat.lt_trans hy (by decide))]
  by_cases h : y = 0
  · subst h; simp
  · have : ¬ x * y % PP = 0 := fun e => h (no_zero x y h0 hx hy e)
    simp [h, this]
theorem one_eq {x : Nat} (h0 : x ≠ 0) (hx : x < PP) : allEq 4 (wd (x * (x ^ EE % PP) % PP)) (wd 1) = true := by
  rw [inv_mul x h0 hx]; exact allEq_iff.2 fun _ _ => rfl

end Go.Proofs.Ythhcgeoldjmpaaa
