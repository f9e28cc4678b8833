/-
  What the laws of chacha ask, in plain numbers: picks, nonces, a stream twice, known answers.
-/
import Derived.Test.YtmnmhmpklknleaaCh2
namespace Go.Proofs.Ytmnmhmpklknleaa
open Go Go.RowKit

/-! ### picked -/
def pkn (z : Int) (m : Nat) : Nat := (z % (m : Int)).toNat
theorem pkn_lt (z : Int) {m : Nat} (h : 0 < m) : pkn z m < m := by
  have h1 := Int.emod_lt_of_pos z (show (0 : Int) < m by omega)
  have h2 := Int.emod_nonneg z (show (m : Int) ≠ 0 by omega)
  unfold pkn; omega
theorem pkn_int (z : Int) {m : Nat} (h : 0 < m) : ((pkn z m : Nat) : Int) = z % (m : Int) := by
  have h2 := Int.emod_nonneg z (show (m : Int) ≠ 0 by omega)
  unfold pkn; omega
theorem tmod_bd (z : Int) {m : Nat} (h : 0 < m) : -(m : Int) < z.tmod (m : Int) ∧ z.tmod (m : Int) < m := by
  have h1 := Int.emod_lt_of_pos z (show (0 : Int) < m by omega)
  have h2 := Int.emod_nonneg z (show (m : Int) ≠ 0 by omega)
  rw [Int.tmod_eq_emod]
  split
  · omega
  · rename_i hn
    have : z % (m : Int) ≠ 0 := fun e => hn (.inr (Int.dvd_of_emod_eq_zero e))
    simp only [Int.natAbs_natCast]
    omega
theorem pkn_neg {z : Int} {m : Nat} (hm : 0 < m) (h : z.tmod (m : Int) < 0) : z.tmod (m : Int) + (m : Int) = ((pkn z m : Nat) : Int) := by
  rw [pkn_int z hm]
  have h1 := Int.emod_nonneg z (show (m : Int) ≠ 0 by omega)
  rw [Int.tmod_eq_emod] at h ⊢
  split at h
  · omega
  · rename_i hn
    rw [if_neg hn]
    simp only [Int.natAbs_natCast] at *
    omega
theorem pkn_pos {z : Int} {m : Nat} (hm : 0 < m) (h : ¬ z.tmod (m : Int) < 0) : z.tmod (m : Int) = ((pkn z m : Nat) : Int) := by
  rw [pkn_int z hm]
  have h1 := Int.emod_lt_of_pos z (show (0 : Int) < m by omega)
  rw [Int.tmod_eq_emod] at h ⊢
  split at h
  · rename_i hn; rw [if_pos hn]; simp
  · rename_i hn
    simp only [Int.natAbs_natCast] at h
    omega

/-! ### Nonces of things -/
def nonf (l : List Nat) (a b : Int) (j : Nat) : Nat := if j = 11 then (b % 256).toNat else if j = 10 then (a % 256).toNat else if j < min l.length 12 then l.getD j 0 else 0
theorem nonf_lt {l : List Nat} (hl : ∀ x ∈ l, x < 256) (a b : Int) : ∀ j, j < 12 → nonf l a b j < 256 := fun j _ => by
  unfold nonf
  split
  · omega
  · split
    · omega
    · split
      · rename_i h
        rw [List.getD_eq_getElem?_getD, List.getElem?_eq_getElem (show j < l.length by omega)]
        exact hl _ (List.getElem_mem _)
      · decide
theorem non_end (l : List Nat) (a b : Int) : arr .u8 12 (upd (upd (fun j => if 0 + 0 * 1 ≤ j ∧ j < 0 + 0 * 1 + min l.length (12 - 0) then l.getD (j - (0 + 0 * 1)) 0 else 0) 10 (a % 256).toNat) 11 (b % 256).toNat) = arr .u8 12 (nonf l a b) := arr_congr fun j _ => by
  unfold nonf upd
  split
  · rfl
  · split
    · rfl
    · by_cases h : j < min l.length 12
      · rw [if_pos h]; exact if_pos (by omega)
      · rw [if_neg h]; exact if_neg (by omega)

/-! ### A stream twice; a stream's rest -/
theorem xor_back {a b : Nat} (ha : a < 256) (hb : b < 256) : ((a ^^^ b) % 256 ^^^ b) % 256 = a := by
  have h1 : a ^^^ b < 2 ^ 8 := Nat.xor_lt_two_pow (by omega) (by omega)
  rw [Nat.mod_eq_of_lt (show a ^^^ b < 256 by omega), Nat.xor_assoc, Nat.xor_self, Nat.xor_zero, Nat.mod_eq_of_lt ha]
theorem strl_get (k : Nat → Nat) (c : Nat) (nn : Nat → Nat) (l : List Nat) {t : Nat} (h : t < l.length) : (strl k c nn l 0).getD t 0 = strv k c nn l t := by
  rw [List.getD_eq_getElem?_getD, List.getElem?_eq_getElem (by rw [strl_len]; omega)]
  simp [strl]
theorem str_twice (k : Nat → Nat) (c : Nat) (nn : Nat → Nat) {l : List Nat} (hl : ∀ x ∈ l, x < 256) : strl k c nn (strl k c nn l 0) 0 = l := by
  apply List.ext_getElem
  · simp [strl_len]
  · intro j h1 h2
    have e : (strl k c nn (strl k c nn l 0) 0)[j] = strv k c nn (strl k c nn l 0) j := by simp [strl]
    rw [e]
    unfold strv
    rw [strl_get k c nn l h2]
    unfold strv
    rw [List.getD_eq_getElem?_getD, List.getElem?_eq_getElem h2]
    exact xor_back (hl _ (List.getElem_mem _)) (blkf_lt _ _ _ _)
theorem str_rest (k : Nat → Nat) {c : Nat} (nn : Nat → Nat) (l : List Nat) (hl : l.length ≤ 300) : (strl k c nn l 0).drop (min 64 l.length) = strl k (c + 1) nn (l.drop (min 64 l.length)) 0 := by
  apply List.ext_getElem
  · simp [strl_len]
  · intro j h1 h2
    have hj : j < l.length - min 64 l.length := by simpa [strl_len] using h2
    have hm : min 64 l.length = 64 := by omega
    have e1 : ((strl k c nn l 0).drop (min 64 l.length))[j] = strv k c nn l (64 + j) := by
      rw [List.getElem_drop]
      simp [strl, hm]
    have e2 : (strl k (c + 1) nn (l.drop (min 64 l.length)) 0)[j] = strv k (c + 1) nn (l.drop (min 64 l.length)) j := by simp [strl]
    rw [e1, e2, hm]
    unfold strv
    rw [show (c + (64 + j) / 64 % 4294967296) % 4294967296 = (c + 1 + j / 64 % 4294967296) % 4294967296 by omega, show (64 + j) % 64 = j % 64 by omega]
    congr 2
    simp [List.getD]

theorem strv_first (k : Nat → Nat) {c : Nat} (nn : Nat → Nat) (l : List Nat) {i : Nat} (h : i < l.length) (hi : i < 64) (hc : c < 4294967296) : (l[i] ^^^ blkf k c nn i) % 256 = strv k c nn l i := by
  unfold strv
  rw [List.getD_eq_getElem?_getD, List.getElem?_eq_getElem h, show (c + i / 64 % 4294967296) % 4294967296 = c by omega, show i % 64 = i by omega]
  rfl
theorem cut_rest (k : Nat → Nat) (c : Nat) (nn : Nat → Nat) (l : List Nat) : ((strl k c nn l 0).drop (min 64 l.length)).take (l.length - 0 - min 64 l.length) = (strl k c nn l 0).drop (min 64 l.length) := List.take_of_length_le (by simp [strl_len])
theorem cut_end (l : List Nat) (i : Nat) : (l.drop i).take (l.length - i) = l.drop i := List.take_of_length_le (by simp)
theorem nth_str (k : Nat → Nat) (c : Nat) (nn : Nat → Nat) (l : List Nat) {i : Nat} (h : i < l.length) : ((strl k c nn l 0).map by8)[i]? = some (by8 (strv k c nn l i)) := by
  rw [List.getElem?_map, List.getElem?_eq_getElem (by rw [strl_len]; omega)]
  simp [strl]
theorem nth_by8 {l : List Nat} {i : Nat} (h : i < l.length) : (l.map by8)[i]? = some (by8 l[i]) := by
  rw [List.getElem?_map, List.getElem?_eq_getElem h]; rfl

/-! ### Known answers -/
def itL (l : List Nat) : List Nat := (List.range 16).map (dbl (fun t => l.getD t 0))
theorem rnd_cg {f g : Nat → Nat} (h : ∀ t, t < 16 → f t = g t) : ∀ t, t < 16 → rnd f t = rnd g t := fun t ht => by
  unfold rnd
  rw [h (t % 4) (by omega), h (4 + t % 4) (by omega), h (8 + t % 4) (by omega), h (12 + t % 4) (by omega)]
theorem dbl_cg {f g : Nat → Nat} (h : ∀ t, t < 16 → f t = g t) : ∀ t, t < 16 → dbl f t = dbl g t := fun t ht => by
  unfold dbl shm
  exact rnd_cg (fun t ht => by unfold sh1; exact rnd_cg h _ (by omega)) _ (by omega)
theorem dbls_it {f : Nat → Nat} {k : Nat} {l l' : List Nat} (h : ∀ t, t < 16 → dbls f k t = l.getD t 0) (hl : itL l = l') : ∀ t, t < 16 → dbls f (k + 1) t = l'.getD t 0 := fun t ht => by
  rw [← hl]
  show dbl (dbls f k) t = _
  rw [dbl_cg h t ht]
  simp [itL, List.getD, ht]

def kn0 : List Nat := [1634760805, 857760878, 2036477234, 1797285236, 50462976, 117835012, 185207048, 252579084, 319951120, 387323156, 454695192, 522067228, 1, 150994944, 1241513984, 0]
def kn1 : List Nat := [3444762903, 2242577332, 3007673237, 4184729565, 3300379938, 1546524794, 3378426977, 829194266, 2079840064, 2128467524, 4053908981, 1980909258, 1796036771, 1738032922, 3610767719, 4050880653]
def kn2 : List Nat := [3474617732, 76097516, 1409621978, 3259301672, 2417831744, 2037692444, 932040628, 3444047118, 766489110, 667458774, 3443301024, 2046593479, 279900557, 371296101, 1761044229, 81194530]
def kn3 : List Nat := [60899378, 1722898727, 2641062722, 3092005129, 2803120864, 2694525917, 2782572424, 802757235, 3373034264, 1512055827, 3255697846, 1926065012, 3124090743, 3009475007, 2172137819, 751901466]
def kn4 : List Nat := [2586654089, 186907726, 1085225835, 3471475012, 169607110, 1582928887, 2567226087, 221464344, 3832308564, 3377476137, 83817898, 4170399602, 646435958, 1424380465, 898957253, 725332682]
def kn5 : List Nat := [3308460229, 3392298390, 2122125771, 872735434, 651677555, 1619579769, 3237013949, 3809529273, 2922162395, 1123449970, 1902549706, 2539394845, 2657010216, 2105911795, 538773334, 1677355347]
def kn6 : List Nat := [77796122, 1712808713, 68532913, 1639481506, 919373511, 3213509733, 4152219424, 4228635792, 131152586, 3943426479, 1633260689, 2441417436, 867592301, 2036123249, 3221526898, 2695371742]
def kn7 : List Nat := [2607871263, 2124983313, 568675753, 3392748335, 2477819526, 1783386286, 421603930, 2600675672, 3627619934, 1275519626, 3556632990, 648855869, 2785670485, 740582729, 2501187667, 746879501]
def kn8 : List Nat := [3395061213, 2477062414, 3656441688, 652051165, 2552587256, 1898621439, 664429032, 2534372029, 472224538, 1367390992, 2006722535, 1409777160, 2847363579, 942619874, 2377217405, 3426224139]
def kn9 : List Nat := [3065544166, 2583781704, 2475005973, 1226172108, 3694379298, 2564919203, 1610344700, 4145367947, 683801779, 3300102045, 2212689367, 2099558795, 554142498, 2979260323, 3002373001, 1826512934]
def kn10 : List Nat := [2205644971, 3795375971, 2793071134, 1498463023, 3304247495, 4234328879, 2409634044, 1063176119, 861041090, 4069820915, 3938298108, 2196008637, 3516666548, 2957907678, 2659438795, 1312575650]
theorem kn_s0 : itL kn0 = kn1 := by decide +kernel
theorem kn_s1 : itL kn1 = kn2 := by decide +kernel
theorem kn_s2 : itL kn2 = kn3 := by decide +kernel
theorem kn_s3 : itL kn3 = kn4 := by decide +kernel
theorem kn_s4 : itL kn4 = kn5 := by decide +kernel
theorem kn_s5 : itL kn5 = kn6 := by decide +kernel
theorem kn_s6 : itL kn6 = kn7 := by decide +kernel
theorem kn_s7 : itL kn7 = kn8 := by decide +kernel
theorem kn_s8 : itL kn8 = kn9 := by decide +kernel
theorem kn_s9 : itL kn9 = kn10 := by decide +kernel
def ko0 : List Nat := [1634760805, 857760878, 2036477234, 1797285236, 0, 0, 0, 0, 0, 0, 0, 0, 0, 0, 0, 0]
def ko1 : List Nat := [3831485001, 465051814, 3810167018, 3865553406, 708572787, 2260680856, 1175146506, 4195784838, 1401801230, 205755969, 16389820, 2315813162, 1807715081, 3274707926, 3147798601, 2277908837]
def ko2 : List Nat := [2987265446, 555851331, 2043056534, 2394542343, 683648334, 243939487, 2031723700, 842999353, 1769110809, 317167340, 3515309448, 1613476332, 1612483213, 416233319, 1624313532, 397031114]
def ko3 : List Nat := [42443425, 3537648111, 4075615518, 3280431870, 2457253921, 936163239, 535217241, 3858322967, 3618735395, 2694131698, 320827381, 1865984460, 1547860575, 496143739, 4107449562, 442763396]
def ko4 : List Nat := [3464398809, 2736782107, 1867918925, 914662315, 3272508460, 998218446, 2296453912, 505049583, 1927367832, 1097802169, 1733510303, 425094469, 2739030577, 28346074, 3103619896, 1123945486]
def ko5 : List Nat := [1308838156, 2549006073, 4135762692, 793240496, 1354003995, 3934035184, 3013862787, 3854227624, 1335860601, 1156916115, 2881466214, 1593652346, 2985647285, 85002989, 1444698375, 3558679988]
def ko6 : List Nat := [153779254, 551088281, 2573988431, 1784856811, 3150129412, 343203913, 2777219198, 1595256366, 2046321669, 3236133586, 875096108, 2039282348, 748642874, 426368672, 803736417, 3190166337]
def ko7 : List Nat := [1843350424, 1608384784, 3655185970, 1947739403, 3718507033, 1188705781, 838547146, 1894081315, 1188398960, 3234391270, 3125483095, 3295685470, 2940917475, 3868489986, 646047163, 674516562]
def ko8 : List Nat := [4142613381, 256929999, 2185938132, 4278346116, 1910216669, 1624086861, 2910867510, 2312475086, 2656191475, 382791205, 2196319126, 3503982164, 1805033478, 1199192055, 3527735948, 2991348835]
def ko9 : List Nat := [172609723, 4252221419, 3259208404, 3775952493, 2081980761, 957320013, 170075935, 235214466, 1531487041, 140632055, 1563676091, 399783725, 3319306763, 2649833516, 2961880544, 2236122496]
def ko10 : List Nat := [1282424849, 1562217778, 1812475918, 3181191391, 3088700093, 451775904, 3438229160, 3339548555, 2086224346, 2370328401, 1071654007, 927652024, 4105716586, 480319509, 1773569987, 2254827186]
theorem ko_s0 : itL ko0 = ko1 := by decide +kernel
theorem ko_s1 : itL ko1 = ko2 := by decide +kernel
theorem ko_s2 : itL ko2 = ko3 := by decide +kernel
theorem ko_s3 : itL ko3 = ko4 := by decide +kernel
theorem ko_s4 : itL ko4 = ko5 := by decide +kernel
theorem ko_s5 : itL ko5 = ko6 := by decide +kernel
theorem ko_s6 : itL ko6 = ko7 := by decide +kernel
theorem ko_s7 : itL ko7 = ko8 := by decide +kernel
theorem ko_s8 : itL ko8 = ko9 := by decide +kernel
theorem ko_s9 : itL ko9 = ko10 := by decide +kernel
theorem kn_all (f : Nat → Nat) (h : ∀ t, t < 16 → f t = kn0.getD t 0) : ∀ t, t < 16 → dbls f 10 t = kn10.getD t 0 :=
  (dbls_it (dbls_it (dbls_it (dbls_it (dbls_it (dbls_it (dbls_it (dbls_it (dbls_it (dbls_it h kn_s0) kn_s1) kn_s2) kn_s3) kn_s4) kn_s5) kn_s6) kn_s7) kn_s8) kn_s9)
theorem ko_all (f : Nat → Nat) (h : ∀ t, t < 16 → f t = ko0.getD t 0) : ∀ t, t < 16 → dbls f 10 t = ko10.getD t 0 :=
  (dbls_it (dbls_it (dbls_it (dbls_it (dbls_it (dbls_it (dbls_it (dbls_it (dbls_it (dbls_it h ko_s0) ko_s1) ko_s2) ko_s3) ko_s4) ko_s5) ko_s6) ko_s7) ko_s8) ko_s9)
theorem outl_cg {v w v' w' : Nat → Nat} : ∀ i, i ≤ 16 → (∀ t, t < 16 → v t = v' t) → (∀ t, t < 16 → w t = w' t) → outl v w i = outl v' w' i
  | 0, _, _, _ => rfl
  | i + 1, h, h1, h2 => by
    unfold outl
    rw [outl_cg i (by omega) h1 h2, h1 i (by omega), h2 i (by omega)]
abbrev knk : Nat → Nat := fun j => j
abbrev knn : Nat → Nat := upd (upd (fun _ => 0) 3 9) 7 74
theorem kn_start : ∀ t, t < 16 → wrd (allb knk 1 knn) t = kn0.getD t 0 := by decide +kernel
theorem ko_start : ∀ t, t < 16 → wrd (allb (fun _ => 0) 0 (fun _ => 0)) t = ko0.getD t 0 := by decide +kernel
theorem kn_blk : blkl knk 1 knn = outl (fun t => kn10.getD t 0) (fun t => kn0.getD t 0) 16 := outl_cg 16 (by decide) (kn_all _ kn_start) kn_start
theorem ko_blk : blkl (fun _ => 0) 0 (fun _ => 0) = outl (fun t => ko10.getD t 0) (fun t => ko0.getD t 0) 16 := outl_cg 16 (by decide) (ko_all _ ko_start) ko_start
abbrev knA : List Nat := [16, 241, 231, 228, 209, 59, 89, 21]
theorem kn_out : ∀ i, i < 8 → blkf knk 1 knn i = knA.getD i 0 := by
  unfold blkf; rw [kn_blk]; decide +kernel
theorem ko_out : blkf (fun _ => 0) 0 (fun _ => 0) 0 = 118 := by
  unfold blkf; rw [ko_blk]; decide +kernel

/-! ### Slices of bytes -/
theorem Shows.cut {B : Mem} {v : Value} {l l' : List Nat} {i j : Nat} (h : Shows B 1 v l.length (l.map by8)) (h1 : i ≤ j) (h2 : j ≤ l.length) (hl : (l.drop i).take (j - i) = l') : Shows B 1 (slPart 1 v i j) l'.length (l'.map by8) := by
  have := h.part h1 h2
  rw [Nat.mul_one, Nat.mul_one, ← List.map_drop, ← List.map_take, hl] at this
  have e : j - i = l'.length := by rw [← hl]; simp; omega
  rw [e] at this
  exact this
theorem own_bytes {e : TypeId} {v : Value} {l : List Nat} {n : Nat} {m : Mem} (h : OwnS e 1 v n (l.map by8) m) : Shows m 1 v l.length (l.map by8) := by
  have h1 := h.len
  rw [List.length_map, Nat.mul_one] at h1
  rw [h1]; exact h.shows
def zrs (n : Nat) : List Nat := (List.range n).map fun _ => 0
theorem zrs_len (n : Nat) : (zrs n).length = n := by simp [zrs]
theorem zrs_lt (n : Nat) : ∀ x ∈ zrs n, x < 256 := fun x hx => by
  obtain ⟨_, _, rfl⟩ := List.mem_map.1 hx; decide
theorem made_shows (r n : Nat) (e : TypeId) : Shows [⟨r, arr .u8 n (fun _ => 0), e⟩] 1 (.slice (some ⟨r, 0, none⟩) n n) (zrs n).length ((zrs n).map by8) := by
  rw [zrs_len]
  have := shows_new (z := 1) (len := n) (r := r) (arr .u8 n (fun _ => 0)) e (by rw [arr_size, Nat.mul_one])
  have e2 : (arr .u8 n (fun _ => 0)).toList = (zrs n).map by8 := by
    unfold arr zrs
    rw [List.map_map]
    rfl
  rw [e2] at this
  exact this
theorem take_min (l : List Nat) : (l.drop 0).take (min l.length 300 - 0) = l.take 300 := by
  rw [List.drop_zero, Nat.sub_zero]
  by_cases h : l.length ≤ 300
  · rw [Nat.min_eq_left h, List.take_length, List.take_of_length_le h]
  · rw [Nat.min_eq_right (by omega)]

end Go.Proofs.Ytmnmhmpklknleaa
