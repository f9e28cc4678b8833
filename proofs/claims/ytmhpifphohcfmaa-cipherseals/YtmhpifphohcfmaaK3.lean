import Derived.Test.YtmhpifphohcfmaaK2
import Derived.ProofKit
import Derived.OpenShut
import Derived.Carry
import Derived.SizedLaws
namespace Go.Proofs.Ytmhpifphohcfmaa
open Go Go.RowKit
theorem cat_putp {ps : List Part} {k o l kk : Nat} {F : Nat → Value} (A : Nat → Value) (h : catAt ps k = some (o, l, F)) (hk : kk ≤ l) (i : Nat) : putv (catF ps) o kk A i = catF (catSet ps k (putv F 0 kk A)) i := by
  rw [← cat_put _ h i]
  unfold putv
  by_cases h1 : o ≤ i ∧ i < o + kk
  · rw [if_pos h1, if_pos (by omega)]
    show A (i - o) = if 0 ≤ i - o ∧ i - o < 0 + kk then A (i - o - 0) else F (i - o)
    rw [if_pos (by omega), Nat.sub_zero]
  · rw [if_neg h1]
    by_cases h2 : o ≤ i ∧ i < o + l
    · rw [if_pos h2]
      show catF ps i = if 0 ≤ i - o ∧ i - o < 0 + kk then A (i - o - 0) else F (i - o)
      rw [if_neg (by omega)]
      have := cat_part h (i - o) (by omega)
      rw [← this]; congr 1; omega
    · rw [if_neg h2]
theorem putv_bytes (f : Nat → Nat) (kk : Nat) (l : List Nat) : putv (fun i => .int .u8 (f i : Int)) 0 kk (fun j => by8 (l.getD j 0)) = fun i => .int .u8 ((if i < kk then l.getD i 0 else f i : Nat) : Int) := by
  funext i
  unfold putv
  by_cases h : i < kk
  · rw [if_pos (by omega), if_pos h, Nat.sub_zero]
  · rw [if_neg (by omega), if_neg h]
theorem take_arrv (l : List Nat) (k : Nat) (h : k ≤ l.length) : (l.take k).map by8 = (arrv k (fun j => by8 (l.getD j 0))).toList := by
  apply List.ext_getElem
  · simp [arrv]; omega
  · intro j h1 h2
    have hj : j < l.length := by
      have h3 := h1
      rw [List.length_map, List.length_take] at h3
      omega
    simp [arrv, List.getD, hj]
section
variable {P : Program} {G : Mem} {R : Reg} {ops : Array Oper} {K : Act → Mem → Prop} {rest : List Oper} {a : Act} {m : Mem} {d : Option Tmp} {ty : TypeId} {pos : String} {aft : Array Edge}
variable {T T' : TypeId} {x y : Operand}
theorem st_copyV {e : TypeId} {b o N dl cap i : Nat} {F : Nat → Value} {t : TypeId} {l : List Nat} (hT : P.underlying T = some (.slice e)) (hs : (P.info? e).map (·.size) = some 1) (hx : a.eval x = .slice (some ⟨b, o, none⟩) dl cap) (hy : a.eval y = sv l) (hl : ∀ n ∈ l, n < 256)
    (hm : m[i]? = some ⟨b, arrv N F, t⟩) (ho : o + dl ≤ N)
    (h : ∀ lr, List.Perm m (⟨b, arrv N F, t⟩ :: lr) → opsM P G R ops K rest (a.put d (ii (min l.length dl))) (⟨b, arrv N (putv F o (min l.length dl) (fun j => by8 (l.getD j 0))), t⟩ :: lr)) (hL : R.L = none := by rfl) : opsM P G R ops K (⟨d, .call ⟨.builtin .copy, #[x, y], #[T, T']⟩, ty, pos, aft, none⟩ :: rest) a m := by
  have hmem : (⟨b, arrv N F, t⟩ : Blk) ∈ m := mem_of_get hm
  obtain ⟨l1, l2, hml⟩ := List.append_of_mem hmem
  have hp : List.Perm m (⟨b, arrv N F, t⟩ :: (l1 ++ l2)) := by rw [hml]; exact List.perm_middle
  obtain ⟨c', hc'⟩ : ∃ c', c' = arrv N (putv F o (min l.length dl) (fun j => by8 (l.getD j 0))) := ⟨_, rfl⟩
  refine .inr ⟨rfl, ?_⟩
  show coreM _ _ _ _ _ _ _ 5
  refine ⟨[⟨b, arrv N F, t⟩], l1 ++ l2, fun v r1 nw => v = ii (min l.length dl) ∧ r1 = [⟨b, c', t⟩] ∧ nw = [], by simpa using hp, ⟨_, _, _, ⟨rfl, rfl, rfl⟩, by simp, by simp⟩, ?_, ?_, ?_⟩
  · exact ⟨by rintro v r1 nw ⟨_, rfl, _⟩; rfl, fun _ _ => off_none hL _⟩
  · intro w _ hw _
    have hin := hw _ hmem
    refine .inl ⟨_, _, _, w.setRow b c', ?_, ⟨rfl, rfl, rfl⟩, post_row hin (by rw [hc', arrv_size, arrv_size])⟩
    cases hi : P.info? e with
    | none => simp [hi] at hs
    | some k =>
      have hsz : k.size = 1 := by simpa [hi] using hs
      have hf : (Builtin.firstCells 1 (min l.length dl) (sv l)).run P w = .ok ((l.take (min l.length dl)).map by8).toArray w := by
        simp only [Builtin.firstCells]
        rw [bstr_cut]
        simp only [Sem.run_pure, List.drop_zero, Nat.sub_zero]
        congr 1
        unfold bstr
        apply Array.ext'
        simp only [Array.toList_map, List.map_map]
        exact List.map_congr_left fun n hn => by
          have := hl n (List.mem_of_mem_take hn)
          simp
          omega
      have hst := run_storeCells_in (P := P) b o t ((l.take (min l.length dl)).map by8) 0 (arrv N F) w hin (by simp [arrv_size]; omega) (fun v hv => by
        obtain ⟨n, _, rfl⟩ := List.mem_map.1 hv; rfl)
      have hlen : ((l.take (min l.length dl)).map by8).length = min l.length dl := by simp
      rw [hlen, Nat.add_zero, take_arrv l _ (by omega), arrv_put N o _ F _ (by omega), ← hc', ← take_arrv l _ (by omega)] at hst
      generalize (l.take (min l.length dl)).map by8 = vs at hf hst
      have hmin : Nat.min l.length dl = min l.length dl := rfl
      simp only [execOp, resolve, invoke, builtin, Sem.run_bind, Sem.run_pure, Result.andThen_ok, List.map_toArray, List.map_cons, List.map_nil, hx, hy]
      simp [Builtin.copy_, run_underlying hT, Builtin.lenOf, bstr_size, sizeOf, typeInfo, hi, hsz, hmin, hf, hst, goInt]
  · rintro v r1 nw ⟨rfl, rfl, rfl⟩ _
    rw [hc']
    simpa using h (l1 ++ l2) hp
end
section
variable {P : Program} {G : Mem} {R : Reg} {ops : Array Oper} {n : Nat} {K : Env → Mm → Prop} {rest : List Oper} {E : Env} {M : Mm} {d : Nat} {ty : TypeId} {pos : String} {aft : Array Edge}
variable {T T' : TypeId} {x y : Operand}
theorem e_copyC (k : Nat) {e : TypeId} {b o N dl cap i L : Nat} {f : Nat → Nat} {ps : List Part} {t : TypeId} {l : List Nat} (hT : P.underlying T = some (.slice e)) (hs : (P.info? e).map (·.size) = some 1) (hx : rd E x = some (.slice (some ⟨b, o, none⟩) dl cap)) (hy : rd E y = some (sv l)) (hl : ∀ q ∈ l, q < 256)
    (hm : lkM M i = some ⟨b, cells N ps, t⟩) (hk : catAt ps k = some (o, pI .u8 L f)) (hL : dl ≤ L) (ho : o + dl ≤ N) (hd : Nat.blt d n = true)
    (h : OpsE P G R ops n K rest ((d, ii (min l.length dl)) :: E) ((i, some ⟨b, cells N (catSet ps k (fun i => .int .u8 ((if i < min l.length dl then l.getD i 0 else f i : Nat) : Int))), t⟩) :: M)) (hL : R.L = none := by rfl) : OpsE P G R ops n K (⟨some d, .call ⟨.builtin .copy, #[x, y], #[T, T']⟩, ty, pos, aft, none⟩ :: rest) E M :=
  fun _ _ ha hM => by
    obtain ⟨kk, hkk⟩ := hM.at hm
    refine st_copyV (hL := hL) hT hs (ha.rd hx) (ha.rd hy) hl hkk ho fun lr hp => ?_
    rw [funext (cat_putp _ hk (by omega)), putv_bytes]
    exact h _ _ (ha.put hd _) (hM.same (oz' := some _) hm (by simpa using hp) rfl)
end
def Same (P : Program) (dp : Nat) (t : TypeId) (v : Value) : Prop := ∀ w, (Op.equalIn dp t v v).run P w = .ok true w
section
variable {P : Program}
theorem same_int {dp : Nat} {t : TypeId} {k k' : IntKind} {z : Int} (h : P.underlying t = some (.int k')) : Same P (dp + 1) t (.int k z) := fun w => by rw [run_equalIn_int w dp t k k' z z h]; simp
theorem same_bool {dp : Nat} {t : TypeId} {z : Bool} (h : P.underlying t = some .bool) : Same P (dp + 1) t (.bool z) := fun w => by rw [run_equalIn_bool' w dp t z z h]; simp
theorem same_arr {dp : Nat} {t e : TypeId} {k k' : IntKind} {l : Nat} {f : Nat → Nat} (hT : P.underlying t = some (.array l e)) (he : P.underlying e = some (.int k')) (hs : (P.info? e).map (·.size) = some 1) : Same P (dp + 2) t (.agg (arr k l f)) := fun w => by
  rw [run_equalArr hT he hs w]
  congr 1
  exact allEq_iff.2 fun _ _ => rfl
def Shown (P : Program) (ps : List Part) (N : Nat) (f : Field) (v : Value) : Prop := ∀ w, (part f.type (cells N ps) f.offset).run P w = .ok v w
theorem shown_row {ps : List Part} {N k o l : Nat} {kd : IntKind} {g : Nat → Nat} {f : Field} {td : TypeDesc} (he : P.underlying f.type = some td) (hn : rowLike td = true) (hs : (P.info? f.type).map (·.size) = some l) (hk : catAt ps k = some (o, pI kd l g)) (ho : f.offset = o) (hN : o + l ≤ N) : Shown P ps N f (.agg (arr kd l g)) := fun w => by
  cases hi : P.info? f.type with
  | none => simp [hi] at hs
  | some i =>
    have hsz : i.size = l := by simpa [hi] using hs
    have he2 : (cells N ps).extract o (o + l) = arr kd l g := by rw [cells, arrv_part N o l _ hN, arrv_congr (fun t ht => cat_part hk t ht), ← arr_arrv]
    unfold part
    simp only [Sem.run_bind, run_isAgg he, Result.andThen_ok, hn, if_true, sizeOf, typeInfo, ho]
    simp [hi, hsz, he2]
theorem shown_one {ps : List Part} {N k o : Nat} {v : Value} {f : Field} {td : TypeDesc} (he : P.underlying f.type = some td) (hn : rowLike td = false) (hk : catAt ps k = some (o, pV v)) (ho : f.offset = o) (hN : o < N) : Shown P ps N f v := fun w => by
  have h1 := cat_part hk 0 (by decide)
  rw [Nat.add_zero] at h1
  unfold part
  simp only [Sem.run_bind, run_isAgg he, Result.andThen_ok, hn, ho, cells, arrv_get hN, h1]
  simp
theorem same_fields {dp : Nat} {ps : List Part} {N : Nat} : ∀ fs : List Field, (∀ f ∈ fs, ∃ v, Shown P ps N f v ∧ Same P dp f.type v) → ∀ w, (Op.eqFields dp (cells N ps) (cells N ps) fs).run P w = .ok true w
  | [], _, w => by simp [Op.eqFields]
  | f :: fs, h, w => by
    have ih := same_fields fs (fun g hg => h g (by simp [hg])) w
    obtain ⟨v, h1, h2⟩ := h f (by simp)
    simp only [Op.eqFields]
    split
    · simp only [Sem.run_bind, h1 w, Result.andThen_ok, h2 w]
      simpa using ih
    · exact ih
theorem same_struct {dp : Nat} {t : TypeId} {ps : List Part} {N : Nat} {fs : Array Field} (ht : P.underlying t = some (.struct fs)) (hp : P.stoodInHeld t = false) (h : ∀ f ∈ fs.toList, ∃ v, Shown P ps N f v ∧ Same P dp f.type v) : Same P (dp + 1) t (.agg (cells N ps)) := fun w => by
  have hf : P.fieldsOf t = fs := by simp [Program.fieldsOf, ht]
  rw [run_equalIn_struct w dp t _ _ (by rw [hf]; exact ht) hp, hf]
  exact same_fields fs.toList h w
end
section
variable {P : Program} {G : Mem} {R : Reg} {ops : Array Oper} {n : Nat} {K : Env → Mm → Prop} {rest : List Oper} {E : Env} {M : Mm} {d : Nat} {ty : TypeId} {pos : String} {aft : Array Edge}
variable {T T' : TypeId} {x y : Operand}
theorem e_eqSame {c : Array Value} (hs : Same P 10000 T (.agg c)) (hg : P.eqGuardType P.depth T = false) (hx : rd E x = some (.agg c)) (hy : rd E y = some (.agg c)) (hd : Nat.blt d n = true) (h : OpsE P G R ops n K rest ((d, .bool true) :: E) M) : OpsE P G R ops n K (⟨some d, .binOp .eql T x y T', ty, pos, aft, none⟩ :: rest) E M :=
  fun _ _ ha hM => st_bin (fun w => by
    rw [ha.rd hx, ha.rd hy]
    simp only [Sem.run_bind, run_eqGuard_agg w .eql T x y _ _ hg, Result.andThen_ok, run_eql_struct, hs w]) (h _ _ (ha.put hd _) hM)
end
end Go.Proofs.Ytmhpifphohcfmaa
namespace Go.Proofs.Ytmhpifphohcfmaa
open Go Go.RowKit
def accs (R A : Nat) (S : List Nat) : Nat → Nat
  | 0 => A
  | k + 1 => pst R (accs R A S k) ((S.drop (16 * k)).take 16)
theorem accs_lt {R A : Nat} {S : List Nat} (hA : A < 2 ^ 130) : ∀ k, accs R A S k < 2 ^ 130
  | 0 => hA
  | _ + 1 => mod_lt30 _
theorem w3_wd {x : Nat} (hx : x < 2 ^ 130) : w3 (wd x) = x := by
  unfold w3 wd
  simp only [Nat.mul_zero, Nat.pow_zero, Nat.div_one, Nat.mul_one, Nat.reduceMul]
  omega
theorem wd2_lt {x : Nat} (hx : x < 2 ^ 130) : wd x 2 < 4 := by
  unfold wd
  simp only [Nat.reduceMul]
  omega
def sS (h : Nat → Nat) (n : Nat) (l : List Nat) : List Nat := (List.range n).map h ++ l
theorem sS_len (h : Nat → Nat) (n : Nat) (l : List Nat) : (sS h n l).length = n + l.length := by simp [sS]
theorem sS_lt {h : Nat → Nat} {n : Nat} {l : List Nat} (hh : ∀ j, j < n → h j < 256) (hl : ∀ b ∈ l, b < 256) : ∀ b ∈ sS h n l, b < 256 := by
  intro b hb
  unfold sS at hb
  rw [List.mem_append] at hb
  rcases hb with hb | hb
  · obtain ⟨j, hj, rfl⟩ := List.mem_map.1 hb
    exact hh j (List.mem_range.1 hj)
  · exact hl b hb
theorem drop_next (S : List Nat) (k : Nat) : ((S.drop (16 * k)).drop 16).take ((S.drop (16 * k)).length - 16) = S.drop (16 * (k + 1)) := by
  rw [List.drop_drop, List.take_of_length_le (by simp; omega), show 16 * k + 16 = 16 * (k + 1) by omega]
theorem held_all (L : List Nat) (h : L.length < 16) : (fun i => if i < min L.length 16 then L.getD i 0 else 0) = fun i => L.getD i 0 := by
  funext i
  by_cases hi : i < min L.length 16
  · rw [if_pos hi]
  · rw [if_neg hi, List.getD_eq_getElem?_getD, List.getElem?_eq_none (by omega)]; rfl
end Go.Proofs.Ytmhpifphohcfmaa
namespace Go.Proofs.Ytmhpifphohcfmaa
open Go Go.RowKit
def cr (x y i : Nat) : Nat := (x % 256 ^ i + y % 256 ^ i) / 256 ^ i
def tgn (x y i : Nat) : Nat := (x + y) / 256 ^ i % 256
theorem p256 (i : Nat) : 0 < 256 ^ i := Nat.pow_pos (by decide)
theorem cr_zero (x y : Nat) : cr x y 0 = 0 := by simp [cr, Nat.mod_one]
theorem cr_le (x y i : Nat) : cr x y i ≤ 1 := by
  unfold cr
  have h1 := Nat.mod_lt x (p256 i)
  have h2 := Nat.mod_lt y (p256 i)
  have : (x % 256 ^ i + y % 256 ^ i) / 256 ^ i < 2 := Nat.div_lt_of_lt_mul (by omega)
  omega
theorem cr_next (x y i : Nat) : (cr x y i + (x / 256 ^ i % 256 + y / 256 ^ i % 256)) / 256 = cr x y (i + 1) := by
  unfold cr
  rw [Nat.pow_succ, Nat.mod_mul, Nat.mod_mul (x := y)]
  generalize x / 256 ^ i % 256 = a
  generalize y / 256 ^ i % 256 = b
  generalize x % 256 ^ i = p
  generalize y % 256 ^ i = q
  rw [← Nat.div_div_eq_div_mul]
  congr 1
  have hp := p256 i
  generalize 256 ^ i = M at *
  rw [show p + M * a + (q + M * b) = p + q + M * (a + b) by rw [Nat.mul_add]; omega, Nat.add_mul_div_left _ _ hp]
theorem tgn_at (x y i : Nat) : (cr x y i + (x / 256 ^ i % 256 + y / 256 ^ i % 256)) % 256 = tgn x y i := by
  unfold cr tgn
  have hp := p256 i
  have ex := Nat.div_add_mod x (256 ^ i)
  have ey := Nat.div_add_mod y (256 ^ i)
  have e : (x + y) / 256 ^ i = x / 256 ^ i + y / 256 ^ i + (x % 256 ^ i + y % 256 ^ i) / 256 ^ i := by
    conv => lhs; rw [← ex, ← ey]
    generalize 256 ^ i = M at *
    rw [show M * (x / M) + x % M + (M * (y / M) + y % M) = x % M + y % M + M * (x / M + y / M) by rw [Nat.mul_add]; omega, Nat.add_mul_div_left _ _ hp]
    omega
  rw [e]
  omega
theorem k3_wd (x : Nat) : k3 (wd x) = x % 2 ^ 128 := by
  unfold k3 wd
  simp only [Nat.mul_zero, Nat.pow_zero, Nat.div_one, Nat.mul_one]
  omega
theorem lw_get {r : Nat → Nat} (h0 : r 0 < 18446744073709551616) {i : Nat} (hi : i < 16) : (lw r)[i]? = some (k3 r / 256 ^ i % 256) := by
  unfold lw
  by_cases h : i < 8
  · rw [List.getElem?_append_left (by rw [lowl_len]; exact h)]
    simp only [lowl, List.getElem?_map, List.getElem?_range h, Option.map_some]
    congr 1
    unfold k3
    have : i = 0 ∨ i = 1 ∨ i = 2 ∨ i = 3 ∨ i = 4 ∨ i = 5 ∨ i = 6 ∨ i = 7 := by omega
    rcases this with rfl | rfl | rfl | rfl | rfl | rfl | rfl | rfl <;> simp only [Nat.reducePow] <;> omega
  · rw [List.getElem?_append_right (by rw [lowl_len]; omega), lowl_len]
    simp only [lowl, List.getElem?_map, List.getElem?_range (show i - 8 < 8 by omega), Option.map_some]
    congr 1
    unfold k3
    have : i = 8 ∨ i = 9 ∨ i = 10 ∨ i = 11 ∨ i = 12 ∨ i = 13 ∨ i = 14 ∨ i = 15 := by omega
    rcases this with rfl | rfl | rfl | rfl | rfl | rfl | rfl | rfl <;> simp only [Nat.reducePow, Nat.reduceSub] <;> omega
end Go.Proofs.Ytmhpifphohcfmaa
namespace Go.Proofs.Ytmhpifphohcfmaa
open Go Go.RowKit
def rem16 (m : List Nat) : List Nat := m.drop (16 * (m.length / 16))
theorem rem16_len (m : List Nat) : (rem16 m).length = m.length % 16 := by simp [rem16]; omega
theorem rem16_lt {m : List Nat} (h : ∀ b ∈ m, b < 256) : ∀ b ∈ rem16 m, b < 256 := fun b hb => h b (List.mem_of_mem_drop hb)
def acc0 (R : Nat) (m : List Nat) : Nat := accs R 0 m (m.length / 16)
def heldF (m : List Nat) (i : Nat) : Nat := (rem16 m).getD i 0
theorem wd_none : wd 0 = fun _ => 0 := by funext j; simp [wd]
theorem pst_lt (R A : Nat) (l : List Nat) : pst R A l < QQ := Nat.mod_lt _ QQ_pos
theorem accs_ltQ {R A : Nat} {S : List Nat} (hA : A < QQ) : ∀ k, accs R A S k < QQ
  | 0 => hA
  | _ + 1 => pst_lt _ _ _
theorem acc0_lt (R : Nat) (m : List Nat) : acc0 R m < QQ := accs_ltQ QQ_pos _
theorem accs_pre (R A : Nat) (m l : List Nat) : ∀ k, 16 * k ≤ m.length → accs R A (m ++ l) k = accs R A m k
  | 0, _ => rfl
  | k + 1, h => by
    rw [accs, accs, accs_pre R A m l k (by omega), List.drop_append_of_le_length (by omega), List.take_append_of_le_length (by simp; omega)]
theorem drop_rem (m l : List Nat) (k : Nat) : (m ++ l).drop (16 * (m.length / 16 + k)) = (rem16 m ++ l).drop (16 * k) := by
  have e : (m ++ l).drop (16 * (m.length / 16)) = rem16 m ++ l := List.drop_append_of_le_length (by omega)
  rw [← e, List.drop_drop, Nat.mul_add]
theorem accs_app (R : Nat) (m l : List Nat) : ∀ k, accs R 0 (m ++ l) (m.length / 16 + k) = accs R (acc0 R m) (rem16 m ++ l) k
  | 0 => accs_pre R 0 m l _ (by omega)
  | k + 1 => by
    show accs R 0 (m ++ l) (m.length / 16 + k + 1) = _
    rw [accs, accs, accs_app R m l k, drop_rem]
theorem sS_held (m l : List Nat) : sS (heldF m) (rem16 m).length l = rem16 m ++ l := by
  unfold sS
  congr 1
  apply List.ext_getElem
  · simp
  · intro j h1 h2
    simp only [List.getElem_map, List.getElem_range]
    unfold heldF
    rw [List.getD_eq_getElem?_getD, List.getElem?_eq_getElem h2]; rfl
theorem part_len (m l : List Nat) : m.length / 16 + (rem16 m ++ l).length / 16 = (m ++ l).length / 16 := by
  rw [List.length_append, List.length_append, rem16_len]; omega
theorem acc0_app (R : Nat) (m l : List Nat) : accs R (acc0 R m) (rem16 m ++ l) ((rem16 m ++ l).length / 16) = acc0 R (m ++ l) := by
  rw [← accs_app, part_len]; rfl
theorem rem16_app (m l : List Nat) : (rem16 m ++ l).drop (16 * ((rem16 m ++ l).length / 16)) = rem16 (m ++ l) := by
  rw [← drop_rem, part_len]; rfl
theorem leN_get : ∀ (L : List Nat), (∀ b ∈ L, b < 256) → ∀ i (h : i < L.length), leN L / 256 ^ i % 256 = L[i]
  | [], _, i, h => by simp at h
  | b :: L, hb, 0, _ => by
    have := hb b (by simp)
    simp only [leN, Nat.pow_zero, Nat.div_one, List.getElem_cons_zero]; omega
  | b :: L, hb, i + 1, h => by
    have := hb b (by simp)
    rw [Nat.pow_succ, Nat.mul_comm (256 ^ i), ← Nat.div_div_eq_div_mul]
    simp only [leN, List.getElem_cons_succ]
    rw [show (b + 256 * leN L) / 256 = leN L by omega]
    exact leN_get L (fun x hx => hb x (by simp [hx])) i (by simpa using h)
theorem lowl_leN {L : List Nat} (hb : ∀ b ∈ L, b < 256) {k : Nat} (hk : L.length = k) : lowl (leN L) k = L := by
  apply List.ext_getElem
  · simp [lowl, hk]
  · intro j h1 h2
    simp only [lowl, List.getElem_map, List.getElem_range]
    exact leN_get L hb j h2
theorem lw_w8 {L : List Nat} (hb : ∀ b ∈ L, b < 256) (hl : 16 ≤ L.length) : lw (w8 L) = L.take 16 := by
  unfold lw w8
  rw [lowl_leN (take_lt hb _ _) (by simp; omega), lowl_leN (take_lt hb _ _) (by simp; omega)]
  rw [show 8 * 0 = 0 by rfl, List.drop_zero, show 8 * 1 = 8 by rfl, show (16 : Nat) = 8 + 8 by rfl, List.take_add]
theorem msk_msk (f g : Nat → Nat) {j : Nat} (h : g j = msk f j) : msk g j = msk f j := by
  unfold msk at *
  by_cases h1 : j < 16 ∧ j % 4 = 3
  · rw [if_pos h1] at h ⊢
    rw [if_pos h1, h]
    have : (f j &&& 15) % 256 = f j &&& 15 := Nat.mod_eq_of_lt (Nat.lt_of_le_of_lt Nat.and_le_right (by decide))
    rw [this, Nat.and_assoc]; simp [this]
  · rw [if_neg h1] at h ⊢
    rw [if_neg h1]
    by_cases h2 : 4 ≤ j ∧ j < 16 ∧ j % 4 = 0
    · rw [if_pos h2] at h ⊢
      rw [if_pos h2, h]
      have : (f j &&& 252) % 256 = f j &&& 252 := Nat.mod_eq_of_lt (Nat.lt_of_le_of_lt Nat.and_le_right (by decide))
      rw [this, Nat.and_assoc]; simp [this]
    · rw [if_neg h2] at h ⊢
      rw [if_neg h2, h]
theorem okR_begun {f : Nat → Nat} (hf : ∀ j, j < 32 → f j < 256) : allEq 2 (w8 (bL (kq (w8 (bL f))))) (w8 (bL f)) = true := by
  have hb := bL_lt hf
  have hl := bL_len f
  rw [allEq_iff]
  intro j hj
  have hk : ∀ i, i < 16 → kq (w8 (bL f)) i = msk f i := fun i hi => by
    unfold kq
    rw [lw_w8 hb (by omega), List.getD_eq_getElem?_getD, List.getElem?_take, if_pos hi, List.getElem?_eq_getElem (by omega)]
    simp [bL]
  unfold w8
  congr 1
  apply List.ext_getElem
  · simp [bL_len]
  · intro i h1 h2
    have hi : i < 8 := by simp at h1; omega
    simp only [List.getElem_take, List.getElem_drop, bL, List.getElem_map, List.getElem_range]
    exact msk_msk f _ (hk _ (by omega))
theorem ok_make {r : Nat → Nat} {A n : Nat} {h : Nat → Nat} (hr : allEq 2 (w8 (bL (kq r))) r = true) (hA : A < QQ) (hn : n < 16) (hh : ∀ j, n ≤ j → j < 16 → h j = 0) : (okcd r (wd A) n && okh n h 16) = true := by
  have hA3 : A < 2 ^ 130 := Nat.lt_trans hA QQ_lt
  rw [Bool.and_eq_true]
  refine ⟨(ok_all hr (by omega) (by omega) (wd2_lt hA3) ?_).symm, ?_⟩
  · rw [w3_wd hA3, Nat.mod_eq_of_lt hA]
    exact allEq_iff.2 fun _ _ => rfl
  · unfold okh
    rw [List.all_eq_true]
    intro j hj
    have hj := List.mem_range.1 hj
    by_cases hjn : j < n
    · simp [hjn]
    · simp [hh j (by omega) hj]
theorem ok_heldF {r : Nat → Nat} (hr : allEq 2 (w8 (bL (kq r))) r = true) (R : Nat) (m : List Nat) : (okcd r (wd (acc0 R m)) ((rem16 m).length : Nat) && okh ((rem16 m).length : Nat) (heldF m) 16) = true :=
  ok_make hr (acc0_lt R m) (by rw [rem16_len]; omega) fun j h1 _ => by
    unfold heldF
    rw [List.getD_eq_getElem?_getD, List.getElem?_eq_none h1]; rfl
theorem heldF_lt {m : List Nat} (hm : ∀ b ∈ m, b < 256) (j : Nat) : heldF m j < 256 := getD_lt (rem16_lt hm) j
abbrev cP (f : Nat → Nat) (m : List Nat) : Array Value := cells 24 [pI .u64 2 (w8 (bL f)), pI .u64 2 (fun j => w8 (bL f) (j + 2)), pI .u64 3 (wd (acc0 (k3 (w8 (bL f))) m)), pI .u8 16 (heldF m), pV (.int .i64 ((rem16 m).length : Nat))]
abbrev stP (f : Nat → Nat) (m : List Nat) : Value := .agg (cP f m)
theorem stP_nil (f : Nat → Nat) : PV (w8 (bL f)) (fun j => w8 (bL f) (j + 2)) (fun _ => 0) (fun _ => 0) 0 = stP f [] := by
  have e1 : wd (acc0 (k3 (w8 (bL f))) []) = fun _ => 0 := wd_none
  have e2 : heldF [] = fun _ => 0 := by funext i; simp [heldF, rem16]
  unfold stP cP
  rw [e1, e2]; rfl
def accE (R : Nat) (m : List Nat) : Nat := if (rem16 m).length = 0 then acc0 R m else pst R (acc0 R m) (rem16 m)
def ptg (f : Nat → Nat) (m : List Nat) (i : Nat) : Nat := tgn (k3 (wd (accE (k3 (w8 (bL f))) m))) (k3 fun j => w8 (bL f) (j + 2)) i
theorem ptg_lt (f : Nat → Nat) (m : List Nat) (i : Nat) : ptg f m i < 256 := Nat.mod_lt _ (by decide)
theorem held_list (m : List Nat) : (List.range (rem16 m).length).map (heldF m) = rem16 m := by
  have := sS_held m []
  unfold sS at this
  simpa using this
end Go.Proofs.Ytmhpifphohcfmaa
namespace Go.Proofs.Ytmhpifphohcfmaa
open Go Go.RowKit
theorem bytesRow_list {l : List Nat} (hl : ∀ b ∈ l, b < 256) {cap : Nat} (h : l.length ≤ cap) : (bytesRow (bstr l) cap).toList.take l.length = l.map by8 ∧ (bytesRow (bstr l) cap).size = cap := by
  have hz : (bstr l).size = l.length := by simp [bstr, ByteArray.size]
  have e : ((bstr l).data.map (fun b => Value.int .u8 b.toNat)).toList = l.map by8 := by
    unfold bstr
    simp only [Array.toList_map, List.map_map]
    exact List.map_congr_left fun n hn => by
      have := hl n hn
      simp [by8, Nat.mod_eq_of_lt this]
  constructor
  · unfold bytesRow
    rw [Array.toList_append, e, List.take_append_of_le_length (by simp), List.take_of_length_le (by simp)]
  · unfold bytesRow
    have e2 : ((bstr l).data.map (fun b => Value.int .u8 b.toNat)).size = l.length := by rw [← Array.length_toList, e, List.length_map]
    rw [Array.size_append, e2, Array.size_replicate, hz]; omega
section
variable {P : Program} {G : Mem} {R : Reg} {ops : Array Oper} {K : Act → Mem → Prop} {rest : List Oper} {a : Act} {m : Mem} {d : Option Tmp} {ty : TypeId} {pos : String} {aft : Array Edge}
variable {T T' : TypeId} {x y : Operand}
theorem st_conv_own {e : TypeId} {l : List Nat} (hv : kconv R T T' = 6) (hs : P.underlying T = some .string) (ht : P.underlying T' = some (.slice e)) (he : P.underlying e = some (.int .u8)) (hx : a.eval x = sv l) (hl : ∀ b ∈ l, b < 256) (hm : l.length ≤ maxLen)
    (h : ∀ v nw, OwnS e 1 v l.length (l.map by8) nw → FreshM m nw → opsM P G R ops K rest (a.put d v) (m ++ nw)) : opsM P G R ops K (⟨d, .convert T T' x, ty, pos, aft, none⟩ :: rest) a m := by
  have hz : (bstr l).size = l.length := by simp [bstr, ByteArray.size]
  have hc : cls R ⟨d, .convert T T' x, ty, pos, aft, none⟩ = 6 := by simp only [cls, hv]
  have run : ∀ w : World, ∃ w', (execOp a.eval ⟨d, .convert T T' x, ty, pos, aft, none⟩).run P w = .ok (.value (.slice (some ⟨w.heap.size, 0, none⟩) l.length (grownCap w l.length 0 e))) w' ∧ Post [] [] [⟨w.heap.size, bytesRow (bstr l) (grownCap w l.length 0 e), e⟩] w w' := fun w => by
    have hr := run_bytes_of_string (P := P) w T T' e (bstr l) hs ht he
    rw [hz] at hr
    have hp := post_marked w (bytesRow (bstr l) (grownCap w l.length 0 e)) e
    refine ⟨_, ?_, hp⟩
    simp only [execOp, hx]
    rw [show sv l = .string (bstr l) from rfl, Sem.run_bind, hr]
    rfl
  refine .inr ⟨rfl, ?_⟩
  rw [hc]
  refine ⟨fun w => ?_, fun v z ho hr => ?_⟩
  · obtain ⟨w', h1, h2⟩ := run w
    exact ⟨_, ⟨w.heap.size, bytesRow (bstr l) (grownCap w l.length 0 e), e⟩, w', h1, rfl, h2⟩
  · obtain ⟨w, w', e1, e2, hq⟩ := ho
    obtain ⟨w2, h1, h2⟩ := run w
    have e3 := e1.symm.trans h1
    injection e3 with e4 e5
    injection e4 with e6
    subst e5 e6
    have hge := grownCap_ge w l.length 0 e
    obtain ⟨g1, g2⟩ := bytesRow_list hl hge
    obtain ⟨q1, i1, _⟩ := hq.new z (by simp)
    obtain ⟨q2, i2, _⟩ := h2.new _ (List.mem_singleton.2 rfl)
    rw [e2] at i1
    have i3 := i1.symm.trans i2
    injection i3 with i3
    injection i3 with i4 i5
    have hzq : z = ⟨w.heap.size, bytesRow (bstr l) (grownCap w l.length 0 e), e⟩ := by
      obtain ⟨zb, zc, zt⟩ := z
      exact (Blk.mk.injEq _ _ _ _ _ _).mpr ⟨e2, i4, i5⟩
    rw [hzq] at hr ⊢
    exact h _ _ (.inr ⟨_, _, _, rfl, rfl, hge, grownCap_le_maxLen w l.length 0 e hm, by rw [g2, Nat.mul_one], by simp, by rw [Nat.mul_one]; exact g1⟩) ⟨by simp, fun x' hx' y hy => by simp at hx'; subst hx'; exact hr y hy⟩
end
section
variable {P : Program} {G : Mem} {R : Reg} {ops : Array Oper} {n : Nat} {K : Env → Mm → Prop} {rest : List Oper} {E : Env} {M : Mm} {d : Nat} {ty : TypeId} {pos : String} {aft : Array Edge}
variable {T T' : TypeId} {x y : Operand}
theorem e_conv_own (i : Nat) {e : TypeId} {l : List Nat} (hs : P.underlying T = some .string) (ht : P.underlying T' = some (.slice e)) (he : P.underlying e = some (.int .u8)) (hx : rd E x = some (sv l)) (hl : ∀ b ∈ l, b < 256) (hm : l.length ≤ maxLen) (hd : Nat.blt d n = true) (hv : kconv R T T' = 6)
    (h : ∀ v (oz : Option Blk), OwnS e 1 v l.length (l.map by8) oz.toList → OpsE P G R ops n K rest ((d, v) :: E) ((i, oz) :: M)) : OpsE P G R ops n K (⟨some d, .convert T T' x, ty, pos, aft, none⟩ :: rest) E M :=
  fun _ m ha hM => st_conv_own hv hs ht he (ha.rd hx) hl hm fun v nw ho hf => by
    obtain ⟨oz, rfl⟩ := own_opt ho
    have := hM.fresh i (l0 := []) (lr := m) (by simp) hf
    exact h v oz ho _ _ (ha.put hd _) (by simpa using this)
end
end Go.Proofs.Ytmhpifphohcfmaa
namespace Go.Proofs.Ytmhpifphohcfmaa
open Go Go.RowKit
def catE : Env → Env → Env
  | [], F => F
  | x :: E, F => x :: catE E F
def catL : Mm → Mm → Mm
  | [], F => F
  | x :: E, F => x :: catL E F
section
variable {P : Program} {G : Mem} {R : Reg} {ops : Array Oper} {n : Nat} {K : Env → Mm → Prop} {Q : Exit → Env → Mm → Prop} {rest : List Oper} {E : Env} {M : Mm} {d : Nat} {ty : TypeId} {pos : String} {aft : Array Edge}
variable {T T' : TypeId} {x y : Operand}
theorem e_loopK {c : Code} (Ek : Env) (Mk : Mm) (I : Nat → Env → Mm → Prop) (E0 : Env) (M0 : Mm) (k : Nat) (hs : sub (catE E0 Ek) E) (hl : subL (catL M0 Mk) M) (h0 : I k E0 M0)
    (round : ∀ k E M, I k E M → SatE P G c n (thenE (fun E' M' => ∃ k' E'' M'', k' < k ∧ sub (catE E'' Ek) E' ∧ subL (catL M'' Mk) M' ∧ I k' E'' M'') Q) (catE E Ek) (catL M Mk)) : SatE P G (.loop c) n Q E M :=
  e_loop (fun k E M => ∃ E1 M1, E = catE E1 Ek ∧ M = catL M1 Mk ∧ I k E1 M1) (catE E0 Ek) (catL M0 Mk) k hs hl ⟨_, _, rfl, rfl, h0⟩ fun k E M ⟨E1, M1, e1, e2, hI⟩ => by
    subst e1 e2
    intro a m ha hM
    refine sat_mono (round k E1 M1 hI a m ha hM) fun e a' m' ⟨E', M', h1, h2, h3⟩ => ⟨E', M', h1, h2, ?_⟩
    cases e with
    | normal =>
      obtain ⟨k', E'', M'', q1, q2, q3, q4⟩ := h3
      exact ⟨k', _, _, q1, q2, q3, _, _, rfl, rfl, q4⟩
    | _ => exact h3
theorem e_sub_in {p q : Nat} (hx : rd E x = some (ii p)) (hy : rd E y = some (ii q)) (hd : Nat.blt d n = true) (hb : p < 9223372036854775808) (hq : q ≤ p) (h : OpsE P G R ops n K rest ((d, ii (p - q)) :: E) M) :
    OpsE P G R ops n K (⟨some d, .binOp .sub T x y T', ty, pos, aft, none⟩ :: rest) E M := e_sub_z hx hy hd (by omega) (by omega) (by rw [show (p : Int) - (q : Int) = ((p - q : Nat) : Int) by omega]; exact h)
theorem e_conv_un {k : IntKind} {dk : TypeDesc} {p : Nat} (hs : P.underlying T = some dk) (ht : P.underlying T' = some (.int .u64)) (hx : rd E x = some (.int k (p : Int))) (hd : Nat.blt d n = true) (hv : kconv R T T' = 1) (hb : p < 18446744073709551616)
    (h : OpsE P G R ops n K rest ((d, u p) :: E) M) : OpsE P G R ops n K (⟨some d, .convert T T' x, ty, pos, aft, none⟩ :: rest) E M := e_conv_u hs ht hx hd hv (by rw [Nat.mod_eq_of_lt hb]; exact h)
end
end Go.Proofs.Ytmhpifphohcfmaa
namespace Go.Proofs.Ytmhpifphohcfmaa
open Go Go.RowKit
def pkn (z : Int) (m : Nat) : Nat := (z % (m : Int)).toNat
theorem pkn_lt (z : Int) {m : Nat} (h : 0 < m) : pkn z m < m := by
  have h1 := Int.emod_lt_of_pos z (show (0 : Int) < m by omega)
  have h2 := Int.emod_nonneg z (show (m : Int) ≠ 0 by omega)
  unfold pkn; omega
theorem pkn_int (z : Int) {m : Nat} (h : 0 < m) : ((pkn z m : Nat) : Int) = z % (m : Int) := by
  have h2 := Int.emod_nonneg z (show (m : Int) ≠ 0 by omega)
  unfold pkn; omega
theorem tmod_bd (z : Int) {m : Nat} (h : 0 < m) : -(m : Int) < z.tmod (m : Int) ∧ z.tmod (m : Int) < m := by
  have h1 := Int.emod_lt_of_pos z (show (0 : Int) < m by omega)
  have h2 := Int.emod_nonneg z (show (m : Int) ≠ 0 by omega)
  rw [Int.tmod_eq_emod]
  split
  · omega
  · rename_i hn
    have : z % (m : Int) ≠ 0 := fun e => hn (.inr (Int.dvd_of_emod_eq_zero e))
    simp only [Int.natAbs_natCast]
    omega
theorem pkn_neg {z : Int} {m : Nat} (hm : 0 < m) (h : z.tmod (m : Int) < 0) : z.tmod (m : Int) + (m : Int) = ((pkn z m : Nat) : Int) := by
  rw [pkn_int z hm]
  have h1 := Int.emod_nonneg z (show (m : Int) ≠ 0 by omega)
  rw [Int.tmod_eq_emod] at h ⊢
  split at h
  · omega
  · rename_i hn
    rw [if_neg hn]
    simp only [Int.natAbs_natCast] at *
    omega
theorem pkn_pos {z : Int} {m : Nat} (hm : 0 < m) (h : ¬ z.tmod (m : Int) < 0) : z.tmod (m : Int) = ((pkn z m : Nat) : Int) := by
  rw [pkn_int z hm]
  have h1 := Int.emod_lt_of_pos z (show (0 : Int) < m by omega)
  rw [Int.tmod_eq_emod] at h ⊢
  split at h
  · rename_i hn; rw [if_pos hn]; simp
  · rename_i hn
    simp only [Int.natAbs_natCast] at h
    omega
theorem xor_back {a b : Nat} (ha : a < 256) (hb : b < 256) : ((a ^^^ b) % 256 ^^^ b) % 256 = a := by
  have h1 : a ^^^ b < 2 ^ 8 := Nat.xor_lt_two_pow (by omega) (by omega)
  rw [Nat.mod_eq_of_lt (show a ^^^ b < 256 by omega), Nat.xor_assoc, Nat.xor_self, Nat.xor_zero, Nat.mod_eq_of_lt ha]
theorem strl_get (k : Nat → Nat) (c : Nat) (nn : Nat → Nat) (l : List Nat) {t : Nat} (h : t < l.length) : (strl k c nn l 0).getD t 0 = strv k c nn l t := by
  rw [List.getD_eq_getElem?_getD, List.getElem?_eq_getElem (by rw [strl_len]; omega)]
  simp [strl]
theorem str_twice (k : Nat → Nat) (c : Nat) (nn : Nat → Nat) {l : List Nat} (hl : ∀ x ∈ l, x < 256) : strl k c nn (strl k c nn l 0) 0 = l := by
  apply List.ext_getElem
  · simp [strl_len]
  · intro j h1 h2
    have e : (strl k c nn (strl k c nn l 0) 0)[j] = strv k c nn (strl k c nn l 0) j := by simp [strl]
    rw [e]
    unfold strv
    rw [strl_get k c nn l h2]
    unfold strv
    rw [List.getD_eq_getElem?_getD, List.getElem?_eq_getElem h2]
    exact xor_back (hl _ (List.getElem_mem _)) (blkf_lt _ _ _ _)
theorem nth_by8 {l : List Nat} {i : Nat} (h : i < l.length) : (l.map by8)[i]? = some (by8 l[i]) := by
  rw [List.getElem?_map, List.getElem?_eq_getElem h]; rfl
theorem Shows.cut {B : Mem} {v : Value} {l l' : List Nat} {i j : Nat} (h : Shows B 1 v l.length (l.map by8)) (h1 : i ≤ j) (h2 : j ≤ l.length) (hl : (l.drop i).take (j - i) = l') : Shows B 1 (slPart 1 v i j) l'.length (l'.map by8) := by
  have := h.part h1 h2
  rw [Nat.mul_one, Nat.mul_one, ← List.map_drop, ← List.map_take, hl] at this
  have e : j - i = l'.length := by rw [← hl]; simp; omega
  rw [e] at this
  exact this
theorem own_bytes {e : TypeId} {v : Value} {l : List Nat} {n : Nat} {m : Mem} (h : OwnS e 1 v n (l.map by8) m) : Shows m 1 v l.length (l.map by8) := by
  have h1 := h.len
  rw [List.length_map, Nat.mul_one] at h1
  rw [h1]; exact h.shows
def zrs (n : Nat) : List Nat := (List.range n).map fun _ => 0
theorem zrs_len (n : Nat) : (zrs n).length = n := by simp [zrs]
theorem zrs_lt (n : Nat) : ∀ x ∈ zrs n, x < 256 := fun x hx => by
  obtain ⟨_, _, rfl⟩ := List.mem_map.1 hx; decide
theorem made_shows (r n : Nat) (e : TypeId) : Shows [⟨r, arr .u8 n (fun _ => 0), e⟩] 1 (.slice (some ⟨r, 0, none⟩) n n) (zrs n).length ((zrs n).map by8) := by
  rw [zrs_len]
  have := shows_new (z := 1) (len := n) (r := r) (arr .u8 n (fun _ => 0)) e (by rw [arr_size, Nat.mul_one])
  have e2 : (arr .u8 n (fun _ => 0)).toList = (zrs n).map by8 := by
    unfold arr zrs
    rw [List.map_map]
    rfl
  rw [e2] at this
  exact this
end Go.Proofs.Ytmhpifphohcfmaa
namespace Go.Proofs.Ytmhpifphohcfmaa
open Go Go.RowKit
end Go.Proofs.Ytmhpifphohcfmaa
namespace Go.Proofs.Ytmhpifphohcfmaa
open Go Go.RowKit
def okey (k nn : Nat → Nat) : Nat → Nat := fun j => blkf k 0 nn j
theorem okey_lt (k nn : Nat → Nat) : ∀ j, j < 32 → okey k nn j < 256 := fun _ _ => blkf_lt _ _ _ _
def pad16 (l : List Nat) : List Nat := l ++ zrs ((16 - l.length % 16) % 16)
theorem pad16_len (l : List Nat) : (pad16 l).length ≤ l.length + 15 := by simp [pad16, zrs_len]; omega
theorem pad16_lt {l : List Nat} (h : ∀ b ∈ l, b < 256) : ∀ b ∈ pad16 l, b < 256 := fun b hb => by
  rcases List.mem_append.1 hb with hb | hb
  · exact h b hb
  · exact zrs_lt _ b hb
def macIn (ad b : List Nat) : List Nat := pad16 ad ++ pad16 b ++ lowl ad.length 8 ++ lowl b.length 8
theorem macIn_len (ad b : List Nat) : (macIn ad b).length ≤ ad.length + b.length + 46 := by
  have h1 := pad16_len ad
  have h2 := pad16_len b
  simp [macIn, lowl_len]; omega
theorem macIn_lt {ad b : List Nat} (h1 : ∀ x ∈ ad, x < 256) (h2 : ∀ x ∈ b, x < 256) : ∀ x ∈ macIn ad b, x < 256 := fun x hx => by
  unfold macIn at hx
  rcases List.mem_append.1 hx with hx | hx
  · rcases List.mem_append.1 hx with hx | hx
    · rcases List.mem_append.1 hx with hx | hx
      · exact pad16_lt h1 x hx
      · exact pad16_lt h2 x hx
    · exact lowl_lt _ _ x hx
  · exact lowl_lt _ _ x hx
def tagl (k nn : Nat → Nat) (ad b : List Nat) : List Nat := (List.range 16).map (ptg (okey k nn) (macIn ad b))
theorem tagl_len (k nn : Nat → Nat) (ad b : List Nat) : (tagl k nn ad b).length = 16 := by simp [tagl]
theorem tagl_lt (k nn : Nat → Nat) (ad b : List Nat) : ∀ x ∈ tagl k nn ad b, x < 256 := range_lt fun _ _ => ptg_lt _ _ _
def sealL (k nn : Nat → Nat) (ad tx : List Nat) : List Nat := strl k 1 nn tx 0 ++ tagl k nn ad (strl k 1 nn tx 0)
theorem sealL_len (k nn : Nat → Nat) (ad tx : List Nat) : (sealL k nn ad tx).length = tx.length + 16 := by
  simp [sealL, tagl_len, strl_len]
theorem sealL_lt (k nn : Nat → Nat) (ad tx : List Nat) : ∀ x ∈ sealL k nn ad tx, x < 256 := fun x hx => by
  rcases List.mem_append.1 hx with hx | hx
  · exact strl_lt _ _ _ _ _ x hx
  · exact tagl_lt _ _ _ _ x hx
def opensL (k nn : Nat → Nat) (ad b : List Nat) : Prop := tagl k nn ad (b.take (b.length - 16)) = b.drop (b.length - 16)
def openL (k nn : Nat → Nat) (b : List Nat) : List Nat := strl k 1 nn (b.take (b.length - 16)) 0
theorem openL_len (k nn : Nat → Nat) (b : List Nat) : (openL k nn b).length = b.length - 16 := by
  simp [openL, strl_len]
theorem seal_opens (k nn : Nat → Nat) (ad tx : List Nat) : opensL k nn ad (sealL k nn ad tx) := by
  unfold opensL
  rw [sealL_len, show tx.length + 16 - 16 = tx.length by omega]
  unfold sealL
  have hl : (strl k 1 nn tx 0).length = tx.length := strl_len k 1 nn tx 0
  rw [List.take_append_of_le_length (by omega), List.drop_append_of_le_length (by omega), List.take_of_length_le (by omega), List.drop_eq_nil_of_le (by omega)]
  rfl
theorem seal_open (k nn : Nat → Nat) (ad : List Nat) {tx : List Nat} (ht : ∀ x ∈ tx, x < 256) : openL k nn (sealL k nn ad tx) = tx := by
  unfold openL
  rw [sealL_len, show tx.length + 16 - 16 = tx.length by omega]
  unfold sealL
  have hl : (strl k 1 nn tx 0).length = tx.length := strl_len k 1 nn tx 0
  rw [List.take_append_of_le_length (by omega), List.take_of_length_le (by omega)]
  exact str_twice k 1 nn ht
end Go.Proofs.Ytmhpifphohcfmaa
namespace Go.Proofs.Ytmhpifphohcfmaa
open Go Go.RowKit
theorem okey_copy (k nn : Nat → Nat) : ∀ j, j < 32 → (if 0 + 0 * 1 ≤ j ∧ j < 0 + 0 * 1 + min ((List.range 32).map fun j => blkf k 0 nn (0 + j)).length (32 - 0) then ((List.range 32).map fun j => blkf k 0 nn (0 + j)).getD (j - (0 + 0 * 1)) 0 else 0) = okey k nn j := fun j hj => by
  rw [if_pos (by simp; omega)]
  simp [List.getD_eq_getElem?_getD, hj, okey]
theorem take_minN (l : List Nat) (n : Nat) : (l.drop 0).take (min l.length n - 0) = l.take n := by
  rw [List.drop_zero, Nat.sub_zero]
  by_cases h : l.length ≤ n
  · rw [Nat.min_eq_left h, List.take_length, List.take_of_length_le h]
  · rw [Nat.min_eq_right (by omega)]
end Go.Proofs.Ytmhpifphohcfmaa
namespace Go.Proofs.Ytmhpifphohcfmaa
open Go Go.RowKit
theorem bstr_eq {l k : List Nat} (hl : ∀ b ∈ l, b < 256) (hk : ∀ b ∈ k, b < 256) : ((bstr l).toList == (bstr k).toList) = decide (l = k) := by
  have e : ∀ r : List Nat, (bstr r).toList = r.map UInt8.ofNat := fun r => by
    rw [ByteArray.toList_eq]
    simp [bstr]
  rw [e, e]
  by_cases hlk : l = k
  · subst hlk; simp
  · rw [decide_eq_false hlk, beq_eq_false_iff_ne]
    intro hh
    apply hlk
    have back : ∀ r : List Nat, (∀ b ∈ r, b < 256) → (r.map UInt8.ofNat).map UInt8.toNat = r := fun r hr => by
      rw [List.map_map]
      conv => rhs; rw [← List.map_id r]
      exact List.map_congr_left fun b hb => by have := hr b hb; simp; omega
    rw [← back l hl, ← back k hk, hh]
theorem arr_shows (r N : Nat) (f : Nat → Nat) (t : TypeId) (o len cap : Nat) (h : o + len ≤ N) (hc : len ≤ cap) : Shows [⟨r, arr .u8 N f, t⟩] 1 (.slice (some ⟨r, o, none⟩) len cap) ((List.range len).map fun j => f (o + j)).length (((List.range len).map fun j => f (o + j)).map by8) := by
  have e : ((List.range len).map fun j => f (o + j)).length = len := by simp
  refine .inr ⟨r, o, cap, arr .u8 N f, t, by rw [e], by rw [e]; exact hc, by simp, by simp, by rw [e, arr_size]; omega, fun j u hj => ?_⟩
  rw [List.getElem?_map, List.getElem?_map] at hj
  by_cases hl : j < len
  · rw [List.getElem?_eq_getElem (by simpa using hl)] at hj
    simp at hj
    rw [arr_get (by omega), ← hj]
  · rw [List.getElem?_eq_none (by simpa using hl)] at hj
    cases hj
theorem shows_one {B : Mem} {z n : Nat} {v : Value} {xs : List Value} (h : Shows B z v n xs) : v.cells = #[v] := by
  rcases h with ⟨_, _, oa, c, rfl, _⟩ | ⟨b, o, c, cs, t, rfl, _⟩ <;> rfl
section
variable {P : Program} {G : Mem} {R : Reg} {ops : Array Oper} {K : Act → Mem → Prop} {rest : List Oper} {a : Act} {m : Mem} {d : Option Tmp} {ty : TypeId} {pos : String} {aft : Array Edge}
variable {T T' : TypeId} {x y : Operand}
theorem first_shows {B : Mem} {vy : Value} {k n : Nat} {xs : List Value} (hsrc : Shows B 1 vy k xs) (hn : n ≤ k) {w : World} (hR : ∀ q ∈ B, RIn w q) : (Builtin.firstCells 1 n vy).run P w = .ok (xs.take n).toArray w ∧ (Builtin.lenOf vy).run P w = .ok k w := by
  rcases hsrc with ⟨rfl, rfl, oa, cap, rfl, _⟩ | ⟨b, o, cap, c, t, rfl, _, hb, hl, ho, hc⟩
  · have : n = 0 := by omega
    subst this
    refine ⟨?_, by simp [Builtin.lenOf]⟩
    cases oa with
    | none => simp [Builtin.firstCells]
    | some a => simp [Builtin.firstCells, loadCells, loadCellsFrom]
  · refine ⟨?_, by simp [Builtin.lenOf]⟩
    have hin := hR _ hb
    refine run_firstCells_some (P := P) w 1 n ⟨b, o, none⟩ k cap (xs.take n) (by rw [List.length_take, hl]; omega) fun j v hj => ?_
    rw [List.getElem?_take] at hj
    split at hj
    · have h1 := hc j v hj
      have hlt : o + j < c.size := (Array.getElem?_eq_some_iff.1 h1).1
      rw [add_off]
      have := hin.2 (o + j) hlt
      simp only at this
      rw [this]; exact h1
    · cases hj
theorem st_copyS {e : TypeId} {b o N dl cap i k : Nat} {F : Nat → Value} {t : TypeId} {xs : List Value} {B : Mem} {vy : Value} (hT : P.underlying T = some (.slice e)) (hs : (P.info? e).map (·.size) = some 1) (hx : a.eval x = .slice (some ⟨b, o, none⟩) dl cap) (hy : a.eval y = vy)
    (hsrc : Shows B 1 vy k xs) (hB : ∀ q ∈ B, q ∈ G ∨ q ∈ m) (h1 : ∀ u ∈ xs, u.oneCell' = true) (hm : m[i]? = some ⟨b, arrv N F, t⟩) (ho : o + dl ≤ N)
    (h : ∀ lr, List.Perm m (⟨b, arrv N F, t⟩ :: lr) → opsM P G R ops K rest (a.put d (ii (min k dl))) (⟨b, arrv N (putv F o (min k dl) (fun j => xs.getD j undef)), t⟩ :: lr)) (hL : R.L = none := by rfl) : opsM P G R ops K (⟨d, .call ⟨.builtin .copy, #[x, y], #[T, T']⟩, ty, pos, aft, none⟩ :: rest) a m := by
  have hmem : (⟨b, arrv N F, t⟩ : Blk) ∈ m := mem_of_get hm
  obtain ⟨l1, l2, hml⟩ := List.append_of_mem hmem
  have hp : List.Perm m (⟨b, arrv N F, t⟩ :: (l1 ++ l2)) := by rw [hml]; exact List.perm_middle
  obtain ⟨c', hc'⟩ : ∃ c', c' = arrv N (putv F o (min k dl) (fun j => xs.getD j undef)) := ⟨_, rfl⟩
  have hxl : xs.length = k := by have := hsrc.len; omega
  refine .inr ⟨rfl, ?_⟩
  show coreM _ _ _ _ _ _ _ 5
  refine ⟨[⟨b, arrv N F, t⟩], l1 ++ l2, fun v r1 nw => v = ii (min k dl) ∧ r1 = [⟨b, c', t⟩] ∧ nw = [], by simpa using hp, ⟨_, _, _, ⟨rfl, rfl, rfl⟩, by simp, by simp⟩, ?_, ?_, ?_⟩
  · exact ⟨by rintro v r1 nw ⟨_, rfl, _⟩; rfl, fun _ _ => off_none hL _⟩
  · intro w hG hw _
    have hin := hw _ hmem
    refine .inl ⟨_, _, _, w.setRow b c', ?_, ⟨rfl, rfl, rfl⟩, post_row hin (by rw [hc', arrv_size, arrv_size])⟩
    obtain ⟨hf, hlo⟩ := first_shows (P := P) (n := min k dl) hsrc (by omega) (w := w) (fun q hq => by
      rcases hB q hq with h2 | h2
      · exact hG q h2
      · exact (hw q h2).read)
    have e1 : xs.take (min k dl) = (arrv (min k dl) (fun j => xs.getD j undef)).toList := by
      apply List.ext_getElem
      · simp [arrv]; omega
      · intro j h2 h3
        have hj : j < xs.length := by simp at h2; omega
        simp [arrv, List.getD_eq_getElem?_getD, List.getElem?_eq_getElem hj]
    have hst := run_storeCells_in (P := P) b o t (xs.take (min k dl)) 0 (arrv N F) w hin (by simp [arrv_size]; omega) (fun v hv => h1 v (List.mem_of_mem_take hv))
    have hc2 : ((arrv N F).toList.take (o + 0) ++ xs.take (min k dl) ++ (arrv N F).toList.drop (o + 0 + (xs.take (min k dl)).length)).toArray = c' := by
      have hl2 : (xs.take (min k dl)).length = min k dl := by rw [List.length_take]; omega
      rw [hc', hl2, e1, Nat.add_zero, arrv_put N o (min k dl) F _ (by omega)]
    rw [hc2] at hst
    generalize xs.take (min k dl) = vs at hf hst
    cases hi : P.info? e with
    | none => simp [hi] at hs
    | some q =>
      have hsz : q.size = 1 := by simpa [hi] using hs
      have hmin : Nat.min k dl = min k dl := rfl
      simp only [execOp, resolve, invoke, builtin, Sem.run_bind, Sem.run_pure, Result.andThen_ok, List.map_toArray, List.map_cons, List.map_nil, hx, hy]
      simp [Builtin.copy_, run_underlying hT, hlo, sizeOf, typeInfo, hi, hsz, hmin, hf, hst, goInt]
  · rintro v r1 nw ⟨rfl, rfl, rfl⟩ _
    rw [hc']
    simpa using h (l1 ++ l2) hp
end
section
variable {P : Program} {G : Mem} {R : Reg} {ops : Array Oper} {n : Nat} {K : Env → Mm → Prop} {rest : List Oper} {E : Env} {M : Mm} {d : Nat} {ty : TypeId} {pos : String} {aft : Array Edge}
variable {T T' : TypeId} {x y : Operand}
theorem SeenE.mem {B : Mem} (h : SeenE G R M B) {m : Mem} (hM : FitsM M m) : ∀ q ∈ B, q ∈ G ∨ q ∈ m := fun q hq => by
  rcases h q hq with h1 | ⟨i, h1, _⟩
  · exact .inl h1
  · exact .inr (hM.has i q h1)
theorem e_copyS {e : TypeId} {b o N dl cap i k : Nat} {F : Nat → Value} {t : TypeId} {xs : List Value} {B : Mem} {vy : Value} (hT : P.underlying T = some (.slice e)) (hs : (P.info? e).map (·.size) = some 1) (hsrc : Shows B 1 vy k xs) (hB : SeenE G R M B) (h1 : ∀ u ∈ xs, u.oneCell' = true)
    (hx : rd E x = some (.slice (some ⟨b, o, none⟩) dl cap)) (hy : rd E y = some vy) (hm : lkM M i = some ⟨b, arrv N F, t⟩) (ho : o + dl ≤ N) (hd : Nat.blt d n = true)
    (h : OpsE P G R ops n K rest ((d, ii (min k dl)) :: E) ((i, some ⟨b, arrv N (putv F o (min k dl) (fun j => xs.getD j undef)), t⟩) :: M)) (hL : R.L = none := by rfl) : OpsE P G R ops n K (⟨some d, .call ⟨.builtin .copy, #[x, y], #[T, T']⟩, ty, pos, aft, none⟩ :: rest) E M :=
  fun _ _ ha hM => by
    obtain ⟨k', hk⟩ := hM.at hm
    exact st_copyS (hL := hL) hT hs (ha.rd hx) (ha.rd hy) hsrc (hB.mem hM) h1 hk ho fun lr hp => h _ _ (ha.put hd _) (hM.same (oz' := some _) hm (by simpa using hp) rfl)
theorem seen_app {A B : Mem} (h1 : SeenE G R M A) (h2 : SeenE G R M B) : SeenE G R M (A ++ B) := fun z hz => by
  rcases List.mem_append.1 hz with h | h
  · exact h1 z h
  · exact h2 z h
theorem e_callS {g' : Mem} {fo : Operand} {f : FuncId} {args : Array Operand} {tys : Array TypeId} {vs cap : List Value} {v : Value} (hf : rd E fo = some (.func (.func f) #[] cap.toArray)) (hargs : rdl E args.toList = some vs) (he : enters P f = true) (hg : SeenE G R M g')
    (hF : Fn P g' f (vs ++ cap).toArray v) (hd : Nat.blt d n = true) (hR : callOk R = true) (h : OpsE P G R ops n K rest ((d, v) :: E) M) : OpsE P G R ops n K (⟨some d, .call ⟨.value fo, args, tys⟩, ty, pos, aft, none⟩ :: rest) E M :=
  fun _ _ ha hM => st_callV hR (ha.rd hf) (ha.args hargs) he (fun w hG hm => by
    have := hF w (fun z hz => (hg.seen hM).rin hG hm hz)
    simpa using this) (h _ _ (ha.put hd _) hM)
theorem e_neStr {l k : List Nat} (hx : rd E x = some (sv l)) (hy : rd E y = some (sv k)) (hd : Nat.blt d n = true) (hl : ∀ b ∈ l, b < 256) (hk : ∀ b ∈ k, b < 256) (h : OpsE P G R ops n K rest ((d, .bool (decide (l ≠ k))) :: E) M) :
    OpsE P G R ops n K (⟨some d, .binOp .neq T x y T', ty, pos, aft, none⟩ :: rest) E M := fun _ _ ha hM => st_bin (fun w => by
      have e1 := bstr_eq hl hk
      rw [ha.rd hx, ha.rd hy]
      have e2 : ((bstr l).toList != (bstr k).toList) = decide (l ≠ k) := by
        rw [bne, e1]
        by_cases h : l = k <;> simp [h]
      simp only [eqGuard, binOp, Op.stringOp]
      rw [← e2]
      rfl) (h _ _ (ha.put hd _) hM)
theorem e_copyB {e : TypeId} {b o N dl cap i : Nat} {f : Nat → Nat} {t : TypeId} {l : List Nat} {B : Mem} {vy : Value} (hT : P.underlying T = some (.slice e)) (hs : (P.info? e).map (·.size) = some 1) (hsrc : Shows B 1 vy l.length (l.map by8)) (hB : SeenE G R M B)
    (hx : rd E x = some (.slice (some ⟨b, o, none⟩) dl cap)) (hy : rd E y = some vy) (hm : lkM M i = some ⟨b, arr .u8 N f, t⟩) (ho : o + dl ≤ N) (hd : Nat.blt d n = true)
    (h : OpsE P G R ops n K rest ((d, ii (min l.length dl)) :: E) ((i, some ⟨b, arr .u8 N (fun j => if o ≤ j ∧ j < o + min l.length dl then l.getD (j - o) 0 else f j), t⟩) :: M)) (hL : R.L = none := by rfl) : OpsE P G R ops n K (⟨some d, .call ⟨.builtin .copy, #[x, y], #[T, T']⟩, ty, pos, aft, none⟩ :: rest) E M :=
  e_copyS (hL := hL) (F := fun i => .int .u8 (f i : Int)) hT hs hsrc hB (fun u hu => by obtain ⟨n, _, rfl⟩ := List.mem_map.1 hu; rfl) hx hy hm ho hd (by
    have e1 : arrv N (putv (fun i => .int .u8 (f i : Int)) o (min l.length dl) (fun j => (l.map by8).getD j undef)) = arr .u8 N (fun j => if o ≤ j ∧ j < o + min l.length dl then l.getD (j - o) 0 else f j) := by
      rw [arr_arrv]
      refine arrv_congr fun j _ => ?_
      unfold putv
      by_cases hj : o ≤ j ∧ j < o + min l.length dl
      · rw [if_pos hj, if_pos hj]
        have : j - o < l.length := by omega
        simp [List.getD_eq_getElem?_getD, List.getElem?_eq_getElem this]
      · rw [if_neg hj, if_neg hj]
    rw [e1]; exact h)
end
end Go.Proofs.Ytmhpifphohcfmaa
namespace Go.Proofs.Ytmhpifphohcfmaa
open Go Go.RowKit
section
variable {P : Program}
end
end Go.Proofs.Ytmhpifphohcfmaa
namespace Go.Proofs.Ytmhpifphohcfmaa
open Go Go.RowKit
section
variable {P : Program} {G : Mem} {R : Reg} {ops : Array Oper} {K : Act → Mem → Prop} {rest : List Oper} {a : Act} {m : Mem} {d : Option Tmp} {ty : TypeId} {pos : String} {aft : Array Edge}
variable {T T' : TypeId} {x y : Operand}
theorem st_toArr {N len cap : Nat} {e : TypeId} {q : Addr} (hT : P.underlying T = some (.array N e)) (hx : a.eval x = .slice (some q) len cap) (hl : N ≤ len)
    (hK : opsM P G R ops K rest (a.put d (.pointer (some q))) m) : opsM P G R ops K (⟨d, .sliceToArrayPointer T x, ty, pos, aft, none⟩ :: rest) a m :=
  st_quiet (v := .pointer (some q)) rfl rfl (fun w => by
    have hn : ¬ len < N := by omega
    simp only [execOp, Instr.arrayAt, hx, underlying, program]
    simp [Sem.run, hT, hn]) hK
theorem st_lenSl {len cap : Nat} {e : TypeId} {q : Option Addr} (hR : callOk R = true) (hT : P.underlying T = some (.slice e)) (hx : a.eval x = .slice q len cap) (h : opsM P G R ops K rest (a.put d (ii len)) m) :
    opsM P G R ops K (⟨d, .call ⟨.builtin .len, #[x], #[T]⟩, ty, pos, aft, none⟩ :: rest) a m :=
  st_value rfl hR (fun w => by
    have : (Builtin.len_ #[T] ty #[.slice q len cap]).run P w = .ok (ii len) w := by simp [Builtin.len_, run_underlying hT, goInt]
    simp only [execOp, resolve, invoke, builtin, Sem.run_bind, Sem.run_pure, Result.andThen_ok, List.map_toArray, List.map_cons, List.map_nil, hx, this]) h
end
variable {P : Program} {G : Mem} {R : Reg} {ops : Array Oper} {n : Nat} {K : Env → Mm → Prop} {rest : List Oper} {E : Env} {M : Mm} {d : Nat} {ty : TypeId} {pos : String} {aft : Array Edge}
variable {T T' : TypeId} {x y : Operand}
theorem e_toArr {N len cap : Nat} {e : TypeId} {q : Addr} (hT : P.underlying T = some (.array N e)) (hx : rd E x = some (.slice (some q) len cap)) (hl : N ≤ len) (hd : Nat.blt d n = true)
    (h : OpsE P G R ops n K rest ((d, .pointer (some q)) :: E) M) : OpsE P G R ops n K (⟨some d, .sliceToArrayPointer T x, ty, pos, aft, none⟩ :: rest) E M :=
  fun _ _ ha hM => st_toArr hT (ha.rd hx) hl (h _ _ (ha.put hd _) hM)
theorem e_lenSl {len cap : Nat} {e : TypeId} {q : Option Addr} (hT : P.underlying T = some (.slice e)) (hx : rd E x = some (.slice q len cap)) (hd : Nat.blt d n = true) (hR : callOk R = true) (h : OpsE P G R ops n K rest ((d, ii len) :: E) M) :
    OpsE P G R ops n K (⟨some d, .call ⟨.builtin .len, #[x], #[T]⟩, ty, pos, aft, none⟩ :: rest) E M := fun _ _ ha hM => st_lenSl hR hT (ha.rd hx) (h _ _ (ha.put hd _) hM)
end Go.Proofs.Ytmhpifphohcfmaa
namespace Go.Proofs.Ytmhpifphohcfmaa
open Go Go.RowKit
section
variable {P : Program} {G : Mem} {n : Nat}
theorem mapM3 {r r' r'' : ResultVar} (f : ResultVar → Sem Value) : Array.mapM f #[r, r', r''] = (do let v ← f r; let v' ← f r'; let v'' ← f r''; pure #[v, v', v'']) := by
  rw [Array.mapM_eq_mapM_toList]; simp
def End3 (P : Program) (fn : Func) (v v' v'' : Value) : Exit → Env → Mm → Prop
  | .normal, E, M | .ret, E, M => ∃ r r' r'', fn.results = #[r, r', r''] ∧ Res P E M r v ∧ Res P E M r' v' ∧ Res P E M r'' v''
  | _, _, _ => False
theorem fn3 {f : FuncId} {fn : Func} {c : Code} {args : Array Value} {v v' v'' : Value} (hf : P.funcs[f]? = some fn) (hb : fn.body = some c) (hn : fn.ntmps = n) (ha : args.size ≤ n) (E : Env) (hE : ∀ t v, lk E t = some v → args[t]? = some v)
    (h : SatE P G c n (End3 P fn v v' v'') E []) : Fn P G f args (.tuple #[v, v', v'']) :=
  fn_of hf hb (sat_mono (h _ [] ⟨by simp [hn]; omega, rfl, fun t v ht => by
    have := hE t v ht
    have hlt := (Array.getElem?_eq_some_iff.1 this).1
    rw [Array.getElem?_append_left hlt]; exact this⟩ (FitsM.nil _)) fun e a m ⟨E', M', h1, h0, h2⟩ => by
      have key : (∃ r r' r'', fn.results = #[r, r', r''] ∧ Res P E' M' r v ∧ Res P E' M' r' v' ∧ Res P E' M' r'' v'') → a.defers = [] ∧ ∀ w, MemIn m w → (results fn a.tmps).run P w = .ok (.tuple #[v, v', v'']) w := fun ⟨r, r', r'', hr, hR, hR', hR''⟩ => ⟨h1.defers, fun w hw => by
        have := res_run h1 h0 hw hR
        have t' := res_run h1 h0 hw hR'
        have t'' := res_run h1 h0 hw hR''
        rw [results_eq, hr, mapM3]
        simp [this, t', t'']⟩
      cases e <;> first | exact key h2 | exact h2.elim)
def EndN3 (P : Program) (e : TypeId) (z k : Nat) (xs : List Value) (q u : Value) (fn : Func) : Exit → Env → Mm → Prop
  | .normal, E, M | .ret, E, M => ∃ r r' r'' v oz i, fn.results = #[r, r', r''] ∧ Res P E M r q ∧ Res P E M r' v ∧ Res P E M r'' u ∧ OwnS e z v k xs (Option.toList oz) ∧ lkM M i = oz
  | _, _, _ => False
theorem fxN3 {f : FuncId} {fn : Func} {c : Code} {args : Array Value} {e : TypeId} {z k : Nat} {xs : List Value} {q u : Value} (hf : P.funcs[f]? = some fn) (hb : fn.body = some c) (hn : fn.ntmps = n) (ha : args.size ≤ n) (E : Env) (hE : ∀ t v, lk E t = some v → args[t]? = some v)
    (h : SatE P G c n (EndN3 P e z k xs q u fn) E []) : Fx P G [] f args (fun v l1 nw => l1 = [] ∧ ∃ v', v = .tuple #[q, v', u] ∧ OwnS e z v' k xs nw) :=
  fx_of hf hb (sat_mono (h _ [] ⟨by simp [hn]; omega, rfl, fun t v ht => by
    have := hE t v ht
    have hlt := (Array.getElem?_eq_some_iff.1 this).1
    rw [Array.getElem?_append_left hlt]; exact this⟩ (FitsM.nil _)) fun e' a m ⟨E', M', h1, h0, h2⟩ => by
      have key : (∃ r r' r'' v oz i, fn.results = #[r, r', r''] ∧ Res P E' M' r q ∧ Res P E' M' r' v ∧ Res P E' M' r'' u ∧ OwnS e z v k xs (Option.toList oz) ∧ lkM M' i = oz) → a.defers = [] ∧ ∃ v l1 nw, (l1 = [] ∧ ∃ v', v = Value.tuple #[q, v', u] ∧ OwnS e z v' k xs nw) ∧ (nw.map (·.b)).Nodup ∧ (∀ x ∈ nw, x.b ∉ ([] : Mem).map (·.b)) ∧ (∀ x ∈ l1 ++ nw, x ∈ m) ∧ ∀ w, MemIn m w → (results fn a.tmps).run P w = .ok v w := fun ⟨r, r', r'', v, oz, i, hr, hR, hR', hR'', ho, hi⟩ =>
        ⟨h1.defers, .tuple #[q, v, u], [], oz.toList, ⟨rfl, v, rfl, ho⟩, own_nd ho, by simp, fun x hx => by
          have : oz = some x := by simpa using hx
          exact h0.has i x (hi.trans this), fun w hw => by
          have := res_run h1 h0 hw hR
          have t' := res_run h1 h0 hw hR'
          have t'' := res_run h1 h0 hw hR''
          rw [results_eq, hr, mapM3]
          simp [this, t', t'']⟩
      cases e' <;> first | exact key h2 | exact h2.elim)
end
section
variable {P : Program} {G : Mem} {R : Reg} {ops : Array Oper} {K : Act → Mem → Prop} {rest : List Oper} {a : Act} {m : Mem} {d : Option Tmp} {ty : TypeId} {pos : String} {aft : Array Edge}
variable {T T' : TypeId} {x y : Operand}
theorem Shows.cells {z n o : Nat} {c : Array Value} {xs : List Value} {j l : Nat} (hl : xs.length = n * z) (ho : o + n * z ≤ c.size) (hc : ∀ j u, xs[j]? = some u → c[o + j]? = some u) (hj : j + l ≤ xs.length) : c.extract (o + j) (o + j + l) = ((xs.drop j).take l).toArray := by
  apply Array.ext_getElem?
  intro i
  by_cases hi : i < l
  · have h1 : (xs.drop j)[i]? = xs[j + i]? := List.getElem?_drop
    have h2 : xs[j + i]? = some xs[j + i] := List.getElem?_eq_getElem (by omega)
    have h3 := hc (j + i) _ h2
    have hL : (c.extract (o + j) (o + j + l))[i]? = some xs[j + i] := by rw [Array.getElem?_extract, if_pos (by omega), show o + j + i = o + (j + i) by omega, h3]
    have hR : ((xs.drop j).take l).toArray[i]? = some xs[j + i] := by rw [List.getElem?_toArray, List.getElem?_take_of_lt hi, h1, h2]
    rw [hL, hR]
  · rw [Array.getElem?_eq_none (by simp; omega), Array.getElem?_eq_none (by simp; omega)]
theorem st_loadVS {td : TypeDesc} {v : Value} {B : Mem} {n j l z : Nat} {xs : List Value} (hB : Seen G R m B) (hT : P.underlying T = some td) (hn : rowLike td = true) (hs : (P.info? T).map (·.size) = some l) (hx : a.eval x = slAddr v j) (hv : Shows B z v n xs) (hl : 0 < l) (hj : j + l ≤ xs.length)
    (h : opsM P G R ops K rest (a.put d (.agg ((xs.drop j).take l).toArray)) m) : opsM P G R ops K (⟨d, .load T x, ty, pos, aft, none⟩ :: rest) a m :=
  .inr ⟨rfl, .agg ((xs.drop j).take l).toArray, fun w hG hm => .inl (by
    rcases hv with ⟨_, rfl, _⟩ | ⟨b, o, cap, c, t, rfl, _, hb, hlx, ho, hc⟩
    · simp at hj; omega
    · have hin := hB.rin hG hm hb
      have e := Shows.cells hlx ho hc hj
      have hsz : o + j + l ≤ c.size := by omega
      simp only [execOp, Instr.loadAt, hx, slAddr, Instr.sureAddr]
      simp [run_loadPart hin hT hn hs hsz, e]), h⟩
end
section
variable {P : Program} {G : Mem} {R : Reg} {ops : Array Oper} {n : Nat} {K : Env → Mm → Prop} {rest : List Oper} {E : Env} {M : Mm} {d : Nat} {ty : TypeId} {pos : String} {aft : Array Edge}
variable {T T' : TypeId} {x y : Operand}
theorem e_loadVS {td : TypeDesc} {v : Value} {B : Mem} {k j l z : Nat} {xs cs : List Value} (hv : Shows B z v k xs) (hB : SeenE G R M B) (hT : P.underlying T = some td) (hn : rowLike td = true) (hs : (P.info? T).map (·.size) = some l) (hx : rd E x = some (slAddr v j)) (hl : 0 < l) (hj : j + l ≤ xs.length) (hc : (xs.drop j).take l = cs) (hd : Nat.blt d n = true)
    (h : OpsE P G R ops n K rest ((d, .agg cs.toArray) :: E) M) : OpsE P G R ops n K (⟨some d, .load T x, ty, pos, aft, none⟩ :: rest) E M := fun _ _ ha hM => st_loadVS (hB.seen hM) hT hn hs (ha.rd hx) hv hl hj (by rw [hc]; exact h _ _ (ha.put hd _) hM)
theorem e_neSame {c : Array Value} (hs : Same P 10000 T (.agg c)) (hg : P.eqGuardType P.depth T = false) (hx : rd E x = some (.agg c)) (hy : rd E y = some (.agg c)) (hd : Nat.blt d n = true) (h : OpsE P G R ops n K rest ((d, .bool false) :: E) M) : OpsE P G R ops n K (⟨some d, .binOp .neq T x y T', ty, pos, aft, none⟩ :: rest) E M :=
  fun _ _ ha hM => st_bin (fun w => by
    rw [ha.rd hx, ha.rd hy]
    simp only [Sem.run_bind, run_eqGuard_agg w .neq T x y _ _ hg, Result.andThen_ok, run_neq_struct, hs w]; rfl) (h _ _ (ha.put hd _) hM)
theorem flatMap_len {α : Type} {C : α → List Value} {z : Nat} (hC : ∀ x, (C x).length = z) : ∀ rs : List α, (rs.flatMap C).length = rs.length * z
  | [] => by simp
  | r :: rs => by rw [List.flatMap_cons, List.length_append, hC, flatMap_len hC rs, List.length_cons, Nat.succ_mul]; omega
theorem flatMap_at {α : Type} {C : α → List Value} {z : Nat} (hC : ∀ x, (C x).length = z) : ∀ (rs : List α) (i : Nat) (h : i < rs.length), ((rs.flatMap C).drop (i * z)).take z = C rs[i]
  | r :: rs, 0, _ => by rw [List.flatMap_cons, Nat.zero_mul, List.drop_zero, ← hC r, List.take_left']; rfl; rfl
  | r :: rs, i + 1, h => by
    rw [List.flatMap_cons, Nat.succ_mul, Nat.add_comm, ← List.drop_drop, List.drop_left' (hC r)]
    exact flatMap_at hC rs i (by simpa using h)
theorem flatMap_take {α : Type} {C : α → List Value} {z : Nat} (hC : ∀ x, (C x).length = z) : ∀ (rs : List α) (i : Nat), (rs.flatMap C).take (i * z) = (rs.take i).flatMap C
  | [], i => by simp
  | r :: rs, 0 => by simp
  | r :: rs, i + 1 => by
    rw [List.flatMap_cons, List.take_succ_cons, List.flatMap_cons, Nat.succ_mul, Nat.add_comm, List.take_append, hC, Nat.add_sub_cancel_left, List.take_of_length_le (by rw [hC]; omega), flatMap_take hC rs i]
end
end Go.Proofs.Ytmhpifphohcfmaa
namespace Go.Proofs.Ytmhpifphohcfmaa
open Go Go.RowKit
theorem NILG (G : Mem) : Shows G 1 nilS ([] : List Nat).length (([] : List Nat).map by8) := .inl ⟨rfl, rfl, none, 0, rfl, fun _ => rfl⟩
abbrev cC (has : Bool) (k : Nat → Nat) (n : Nat) : Array Value := cells 34 [pV (.bool has), pI .u8 32 k, pV (u n)]
abbrev CV (has : Bool) (k : Nat → Nat) (n : Nat) : Value := .agg (cC has k n)
abbrev CZ : Value := .agg (cells 34 [pV (.bool false), pI .u8 32 (fun _ => 0), pV (.int .u64 0)])
def nonU (n j : Nat) : Nat := if 4 ≤ j then n / 256 ^ (j - 4) % 256 else 0
theorem nonU_lt (n : Nat) : ∀ j, j < 12 → nonU n j < 256 := fun j _ => by
  unfold nonU
  split
  · exact Nat.mod_lt _ (by decide)
  · decide
theorem nonU_copy (n : Nat) : ∀ j, j < 12 → (if 4 ≤ j ∧ j < 4 + min (lowl n 8).length 8 then (lowl n 8).getD (j - 4) 0 else 0) = nonU n j := fun j hj => by
  unfold nonU
  rw [lowl_len]
  by_cases h : 4 ≤ j
  · rw [if_pos ⟨h, by omega⟩, if_pos h, List.getD_eq_getElem?_getD]
    simp only [lowl, List.getElem?_map, List.getElem?_range (show j - 4 < 8 by omega), Option.map_some, Option.getD_some]
  · rw [if_neg (by omega), if_neg h]
def okC (has : Bool) (k : Nat → Nat) (n : Nat) : Bool := has || (decide (n = 0) && allEq 32 k (fun _ => 0))
theorem ccases (has : Bool) (k : Nat → Nat) (n : Nat) : (has = true ∧ okC has k n = true) ∨ (has = false ∧ n ≠ 0 ∧ okC has k n = false) ∨ (has = false ∧ n = 0 ∧ allEq 32 k (fun _ => 0) = false ∧ okC has k n = false) ∨ (has = false ∧ n = 0 ∧ allEq 32 k (fun _ => 0) = true ∧ okC has k n = true) := by
  unfold okC
  cases has
  · right
    by_cases h : n = 0
    · right
      cases hk : allEq 32 k (fun _ => 0)
      · exact .inl ⟨rfl, h, rfl, by simp⟩
      · exact .inr ⟨rfl, h, rfl, by simp [h]⟩
    · exact .inl ⟨rfl, h, by simp [h]⟩
  · exact .inl ⟨rfl, rfl⟩
def rekL (k : Nat → Nat) : List Nat := (sealL k (nonU 18446744073709551615) [] (zrs 32)).take 32
def rek (k : Nat → Nat) (j : Nat) : Nat := (rekL k).getD j 0
theorem rek_lt (k : Nat → Nat) : ∀ j, j < 32 → rek k j < 256 := fun j _ => getD_lt (fun b hb => sealL_lt _ _ _ _ b (List.mem_of_mem_take hb)) j
end Go.Proofs.Ytmhpifphohcfmaa
namespace Go.Proofs.Ytmhpifphohcfmaa
open Go.ChangeShapes Go.WideShapes Go.ChangeAt Go.RowKit
section
variable {H : Type} {enc : TypeId × Value → H} {P : Program} {n : Nat} {t e : TypeId} {k : IntKind}
theorem open_arr {bound : Nat} (hT : P.underlying t = some (.array n e)) (he : P.underlying e = some (.int k)) (hc : P.cellsOf e = 1) (hct : P.cellsOf t = n)
    (hb : ∀ z : Int, (Lit.int k z).wf = true → 0 ≤ z ∧ z < bound) {W : World} {b0 b : Nat} {s : Nat → Bool} {h : Bool} {v : Value} {d : DataW H} {ps : List MemPlace}
    (hval : Value.okWide P W .any b0 t v) (hd : DataW.Trod enc P W b s h t v d ps) :
    ∃ f : Nat → Nat, v = .agg (arr k n f) ∧ (∀ j, j < n → f j < bound) ∧ ps = [] := by
  unfold Value.okWide at hval
  rw [hT] at hval
  obtain ⟨cs, rfl, hsz, _⟩ := hval
  rw [hct] at hsz
  obtain ⟨fuel, hf⟩ := hd
  obtain ⟨xs, m, _, ex, _, hl, hel⟩ := DataW.trod_array hT hf
  have key : ∀ i, i < n → ∃ z : Int, cs[i]? = some (.int k z) ∧ 0 ≤ z ∧ z < bound ∧ ∃ x, xs[i]? = some x ∧ x.2 = [] := fun i hi => by
    have hE := hel i hi
    have hxi : i < xs.length := by omega
    rw [hc, Nat.mul_one, List.getElem?_eq_getElem hxi] at hE
    obtain ⟨z, e1, e2, hw⟩ := DataW.trod_int he hE
    have h0 : ((cs.toList.drop i).take 1)[0]? = some (.int k z) := by
      have : (Value.agg cs).cells.toList = cs.toList := rfl
      rw [this] at e1
      rw [e1]; rfl
    refine ⟨z, by simpa using h0, (hb z hw).1, (hb z hw).2, xs[i], List.getElem?_eq_getElem hxi, by rw [e2]⟩
  refine ⟨fun i => match cs[i]? with
    | some (.int _ z) => z.toNat
    | _ => 0, ?_, fun j hj => ?_, ?_⟩
  · congr 1
    apply Array.ext_getElem?
    intro i
    by_cases hi : i < n
    · obtain ⟨z, h1, h2, _⟩ := key i hi
      rw [arr_get hi, h1]
      simp only
      congr 2
      omega
    · rw [Array.getElem?_eq_none (by omega), Array.getElem?_eq_none (by rw [arr_size]; omega)]
  · obtain ⟨z, h1, h2, h3, _⟩ := key j hj
    simp only [h1]
    omega
  · have e2 : ps = xs.flatMap (·.2) := (Prod.mk.inj ex).2
    rw [e2]
    apply List.flatMap_eq_nil_iff.2
    intro x hx
    obtain ⟨i, hi, rfl⟩ := List.getElem_of_mem hx
    obtain ⟨_, _, _, _, y, h4, h5⟩ := key i (by omega)
    rw [List.getElem?_eq_getElem hi] at h4
    rw [Option.some.inj h4]; exact h5
theorem wf_u8 (z : Int) (h : (Lit.int .u8 z).wf = true) : 0 ≤ z ∧ z < (256 : Nat) := by
  simp [Lit.wf, IntKind.min, IntKind.max, IntKind.signed, IntKind.bits] at h
  omega
end
end Go.Proofs.Ytmhpifphohcfmaa
namespace Go.Proofs.Ytmhpifphohcfmaa
open Go Go.ChangeShapes Go.WideShapes Go.ChangeAt Go.RowKit
section
variable {H : Type} {enc : TypeId × Value → H} {P : Program} {t e : TypeId}
theorem row_of_cell {w : World} {b o : Nat} {u : Value} (h : w.cell? ⟨b, o, none⟩ = some u) : ∃ cs et fr, w.heap[b]? = some (.cells cs et fr) := by
  unfold World.cell? at h
  cases hb : w.heap[b]? with
  | none => simp [hb] at h
  | some ob => cases ob with
    | cells cs t fr => exact ⟨cs, t, fr, rfl⟩
    | _ => simp [hb] at h
theorem open_bytes {W : World} {b0 base : Nat} {s : Nat → Bool} {held : Bool} {v : Value} {d : DataW H} {ps : List MemPlace} (ht : P.underlying t = some (.slice e)) (he : P.underlying e = some (.int .u8)) (hc : P.cellsOf e = 1)
    (hval : Value.okWide P W .any b0 t v) (hd : DataW.Trod enc P W base s held t v d ps) :
    ∃ (l : List Nat) (G : Mem), (∀ b ∈ l, b < 256) ∧ l.length ≤ maxLen ∧ Shows G 1 v l.length (l.map by8) ∧ MemR G W := by
  have hcell : ∃ a len cap, v = .slice a len cap := by
    unfold Value.okWide at hval
    rw [ht] at hval
    unfold Cell.okWide at hval
    rw [ht] at hval
    unfold Cell.ok at hval
    rw [ht] at hval
    cases v <;> simp_all
  obtain ⟨a0, len0, cap0, rfl⟩ := hcell
  obtain ⟨fuel, hf⟩ := hd
  rcases open_ints ht he hc hf with ⟨h1, _⟩ | ⟨a, len, cap, zs, h1, _, hlc, hcm, hzl, _, hz, hw⟩
  · have h1 : [Value.slice a0 len0 cap0] = [.slice none 0 0] := h1
    injection h1 with h1 _
    rw [h1]
    exact ⟨[], [], by simp, by simp [maxLen], .inl ⟨rfl, rfl, none, 0, rfl, fun _ => rfl⟩, by simp [MemR]⟩
  · have h1 : [Value.slice a0 len0 cap0] = [.slice (some a) len cap] := h1
    injection h1 with h1 _
    rw [h1]
    have hlz : len ≤ zs.length := by rw [hzl]; split <;> omega
    by_cases h0 : len = 0
    · subst h0
      exact ⟨[], [], by simp, by simp [maxLen], .inl ⟨rfl, rfl, some a, cap, rfl, fun h => by cases h⟩, by simp [MemR]⟩
    · obtain ⟨b, off, rfl, hc2⟩ := ints_at hz (by omega)
      obtain ⟨cs, et, fr, hb⟩ := row_of_cell (hc2 0 (by omega))
      have hcl : ∀ o, W.cell? ⟨b, o, none⟩ = cs[o]? := fun o => by simp [World.cell?, hb]
      have hlen : ((zs.take len).map Int.toNat).length = len := by simp; omega
      have hwj : ∀ j, j < len → 0 ≤ zs.getD j 0 ∧ zs.getD j 0 ≤ 255 := fun j hj => bounds_u8 (hw (zs.getD j 0) (by
        have : zs.getD j 0 = zs[j] := by simp [List.getD, show j < zs.length by omega]
        rw [this]; exact List.getElem_mem _))
      have hnth : ∀ j x, ((zs.take len).map Int.toNat)[j]? = some x → j < len ∧ x = (zs.getD j 0).toNat := fun j x hj => by
        have hlt := (List.getElem?_eq_some_iff.1 hj).1
        rw [hlen] at hlt
        refine ⟨hlt, ?_⟩
        rw [List.getElem?_map, List.getElem?_take, if_pos hlt, List.getElem?_eq_getElem (by omega)] at hj
        simp at hj
        rw [← hj]
        simp [List.getD, show j < zs.length by omega]
      refine ⟨(zs.take len).map Int.toNat, [⟨b, cs, et⟩], fun q hq => ?_, by rw [hlen]; omega, .inr ⟨b, off, cap, cs, et, by rw [hlen], by rw [hlen]; exact hlc, by simp, by simp, ?_, fun j u hj => ?_⟩, fun x hx => ?_⟩
      · obtain ⟨j, hj⟩ := List.getElem?_of_mem hq
        obtain ⟨h2, rfl⟩ := hnth j q hj
        have := hwj j h2
        omega
      · have h2 := hc2 (len - 1) (by omega)
        rw [hcl] at h2
        have := (Array.getElem?_eq_some_iff.1 h2).1
        rw [hlen]
        omega
      · rw [List.getElem?_map] at hj
        cases hx : ((zs.take len).map Int.toNat)[j]? with
        | none => rw [hx] at hj; cases hj
        | some x =>
          rw [hx, Option.map_some] at hj
          obtain ⟨h2, rfl⟩ := hnth j x hx
          have h3 := hwj j h2
          injection hj with hj
          rw [← hj, ← hcl, hc2 j (by omega)]
          have e1 : (((zs.getD j 0).toNat : Nat) : Int) = zs.getD j 0 := by omega
          show some (Value.int IntKind.u8 (zs.getD j 0)) = some (Value.int IntKind.u8 (((zs.getD j 0).toNat : Nat) : Int))
          rw [e1]
      · simp at hx; subst hx
        exact ⟨(Array.getElem?_eq_some_iff.1 hb).1, fun o _ => hcl o⟩
theorem str_list (s : ByteArray) : ∃ l : List Nat, (∀ x ∈ l, x < 256) ∧ s = bstr l := by
  refine ⟨s.data.toList.map UInt8.toNat, fun x hx => ?_, ?_⟩
  · obtain ⟨b, _, rfl⟩ := List.mem_map.1 hx
    exact b.toNat_lt
  · unfold bstr
    rw [List.map_map]
    have : s.data.toList.map (UInt8.ofNat ∘ UInt8.toNat) = s.data.toList := by
      conv => rhs; rw [← List.map_id s.data.toList]
      exact List.map_congr_left fun b _ => by simp
    rw [this]
end
end Go.Proofs.Ytmhpifphohcfmaa
namespace Go.Proofs.Ytmhpifphohcfmaa
open Go Go.ChangeShapes Go.WideShapes Go.ChangeAt Go.RowKit
section
variable {P : Program} {t : TypeId}
theorem open_cells {W : World} {b0 : Nat} {v : Value} {ts : List TypeId} {fs : Array Field} (hT : P.underlying t = some (.struct fs)) (hct : P.cellTypes P.depth t = some ts) (hsz : P.cellsOf t = ts.length) (hval : Value.okWide P W .any b0 t v) :
    ∃ cs, v = .agg cs ∧ cs.size = ts.length ∧ ∀ (i : Nat) u, ts[i]? = some u → ∃ x, cs[i]? = some x ∧ Cell.okWide P W .any b0 u x := by
  unfold Value.okWide at hval
  rw [hT] at hval
  obtain ⟨cs, rfl, h1, ts', h2, _, h3⟩ := hval
  have e : ts' = ts := Option.some.inj (h2.symm.trans hct)
  subst e
  refine ⟨cs, rfl, h1.trans hsz, fun i u hi => ?_⟩
  have hlt : i < ts'.length := (List.getElem?_eq_some_iff.1 hi).1
  have hcs : i < cs.size := by omega
  obtain ⟨u', h4, h5⟩ := h3 i cs[i] (Array.getElem?_eq_getElem hcs)
  rw [Nat.mod_eq_of_lt hlt, hi] at h4
  injection h4 with h4
  subst h4
  exact ⟨_, Array.getElem?_eq_getElem hcs, h5⟩
theorem cell_int {W : World} {b0 : Nat} {u : TypeId} {x : Value} {k : IntKind} (hu : P.underlying u = some (.int k)) (h : Cell.okWide P W .any b0 u x) : ∃ z : Int, x = .int k z ∧ k.has z := by
  unfold Cell.okWide at h
  rw [hu] at h
  unfold Cell.ok at h
  rw [hu] at h
  cases x <;> simp_all
theorem cell_bool {W : World} {b0 : Nat} {u : TypeId} {x : Value} (hu : P.underlying u = some .bool) (h : Cell.okWide P W .any b0 u x) : ∃ b : Bool, x = .bool b := by
  unfold Cell.okWide at h
  rw [hu] at h
  unfold Cell.ok at h
  rw [hu] at h
  cases x <;> simp_all
theorem seg_nat {W : World} {b0 : Nat} {ts : List TypeId} {cs : Array Value} (hc : ∀ (i : Nat) u, ts[i]? = some u → ∃ x, cs[i]? = some x ∧ Cell.okWide P W .any b0 u x) (off len : Nat) {u : TypeId} {k : IntKind} {bound : Nat} (hu : P.underlying u = some (.int k)) (hb : ∀ z : Int, k.has z → 0 ≤ z ∧ z < bound) (hts : ∀ j, j < len → ts[off + j]? = some u) :
    ∃ f : Nat → Nat, (∀ j, j < len → cs[off + j]? = some (.int k (f j : Int))) ∧ ∀ j, j < len → f j < bound := by
  have key : ∀ j, j < len → ∃ z : Int, cs[off + j]? = some (.int k z) ∧ 0 ≤ z ∧ z < bound := fun j hj => by
    obtain ⟨x, h1, h2⟩ := hc _ _ (hts j hj)
    obtain ⟨z, rfl, h3⟩ := cell_int hu h2
    exact ⟨z, h1, hb z h3⟩
  refine ⟨fun j => match cs[off + j]? with
    | some (.int _ z) => z.toNat
    | _ => 0, fun j hj => ?_, fun j hj => ?_⟩
  · obtain ⟨z, h1, h2, _⟩ := key j hj
    simp only [h1]
    congr 2
    omega
  · obtain ⟨z, h1, h2, h3⟩ := key j hj
    simp only [h1]
    omega
theorem seg_int {W : World} {b0 : Nat} {ts : List TypeId} {cs : Array Value} (hc : ∀ (i : Nat) u, ts[i]? = some u → ∃ x, cs[i]? = some x ∧ Cell.okWide P W .any b0 u x) (off : Nat) {u : TypeId} {k : IntKind} (hu : P.underlying u = some (.int k)) (hts : ts[off]? = some u) :
    ∃ z : Int, (∀ j, j < 1 → cs[off + j]? = some (.int k z)) ∧ k.has z := by
  obtain ⟨x, h1, h2⟩ := hc _ _ hts
  obtain ⟨z, rfl, h3⟩ := cell_int hu h2
  exact ⟨z, fun j hj => by rw [show off + j = off by omega]; exact h1, h3⟩
theorem seg_bool {W : World} {b0 : Nat} {ts : List TypeId} {cs : Array Value} (hc : ∀ (i : Nat) u, ts[i]? = some u → ∃ x, cs[i]? = some x ∧ Cell.okWide P W .any b0 u x) (off : Nat) {u : TypeId} (hu : P.underlying u = some .bool) (hts : ts[off]? = some u) :
    ∃ b : Bool, ∀ j, j < 1 → cs[off + j]? = some (.bool b) := by
  obtain ⟨x, h1, h2⟩ := hc _ _ hts
  obtain ⟨b, rfl⟩ := cell_bool hu h2
  exact ⟨b, fun j hj => by rw [show off + j = off by omega]; exact h1⟩
def SegOk (cs : Array Value) : Nat → List Part → Prop
  | _, [] => True
  | off, p :: ps => (∀ j, j < p.1 → cs[off + j]? = some (p.2 j)) ∧ SegOk cs (off + p.1) ps
def total : List Part → Nat
  | [] => 0
  | p :: ps => p.1 + total ps
theorem seg_cat {cs : Array Value} : ∀ (ps : List Part) (off : Nat), SegOk cs off ps → ∀ i, i < total ps → cs[off + i]? = some (catF ps i)
  | [], _, _, i, hi => by simp [total] at hi
  | p :: ps, off, ⟨h1, h2⟩, i, hi => by
    simp only [catF]
    by_cases hp : i < p.1
    · rw [if_pos hp]; exact h1 i hp
    · rw [if_neg hp]
      have := seg_cat ps (off + p.1) h2 (i - p.1) (by simp only [total] at hi; omega)
      rw [show off + p.1 + (i - p.1) = off + i by omega] at this
      exact this
theorem cells_make {cs : Array Value} {N : Nat} {ps : List Part} (hs : cs.size = N) (ht : total ps = N) (h : SegOk cs 0 ps) : cs = cells N ps := by
  apply Array.ext_getElem?
  intro i
  by_cases hi : i < N
  · have := seg_cat ps 0 h i (by omega)
    rw [Nat.zero_add] at this
    rw [this, arrv_get hi]
  · rw [Array.getElem?_eq_none (by omega), Array.getElem?_eq_none (by rw [arrv_size]; omega)]
theorem has_u8 (z : Int) (h : IntKind.u8.has z) : 0 ≤ z ∧ z < (256 : Nat) := by
  simp [IntKind.has, IntKind.min, IntKind.max, IntKind.signed, IntKind.bits] at h
  omega
theorem has_u64 (z : Int) (h : IntKind.u64.has z) : 0 ≤ z ∧ z < (18446744073709551616 : Nat) := by
  simp [IntKind.has, IntKind.min, IntKind.max, IntKind.signed, IntKind.bits] at h
  omega
end
end Go.Proofs.Ytmhpifphohcfmaa
namespace Go.Proofs.Ytmhpifphohcfmaa
open Go Go.ChangeShapes Go.WideShapes Go.ChangeAt Go.RowKit
abbrev RB : Nat := 140737488351232
section
variable {H : Type} {enc : TypeId × Value → H} {P : Program} {t e : TypeId}
theorem shows_num {B : Mem} {z n len cap : Nat} {a : Option Addr} {xs : List Value} (h : Shows B z (.slice a len cap) n xs) : len = n := by
  rcases h with ⟨h0, _, oa, c, h1, _⟩ | ⟨b, o, c, cs, t, h1, _⟩
  · injection h1 with _ h2; rw [h2, h0]
  · injection h1
theorem open_sized {W : World} {base : Nat} {s : Nat → Bool} {held : Bool} {v : Value} {d : DataW H} {ps : List MemPlace} {B : Mem} {n : Nat} {xs : List Value} (ht : P.underlying t = some (.slice e)) (he : P.underlying e = some (.int .u8)) (hc : P.cellsOf e = 1) (hby : P.bytesOf e = 1)
    (hd : DataW.Trod enc P W base s held t v d ps) (hw : ∀ k ∈ d.weights P t, k ≤ RB) (hv : Shows B 1 v n xs) : n ≤ RB := by
  have hcell : ∃ a len cap, v = .slice a len cap := by
    rcases hv with ⟨_, _, oa, c, h1, _⟩ | ⟨b, o, c, cs, t, h1, _⟩
    · exact ⟨_, _, _, h1⟩
    · exact ⟨_, _, _, h1⟩
  obtain ⟨a0, len0, cap0, rfl⟩ := hcell
  have hn := shows_num hv
  subst hn
  obtain ⟨fuel, hf⟩ := hd
  rcases open_ints ht he hc hf with ⟨h1, _⟩ | ⟨a, len, cap, zs, h1, _, hlc, hcm, hzl, hx, hz, _⟩
  · have h1 : [Value.slice a0 len0 cap0] = [.slice none 0 0] := h1
    injection h1 with h1 _
    injection h1 with _ h2
    omega
  · have h1 : [Value.slice a0 len0 cap0] = [.slice (some a) len cap] := h1
    injection h1 with h1 _
    injection h1 with _ h2
    have hlz : len ≤ zs.length := by rw [hzl]; split <;> omega
    injection hx with hx _
    subst hx
    have := hw ((lits .u8 (zs.take len)).length * 1 + (lits .u8 (zs.drop len)).length * 1) (by
      simp only [DataW.weights, ht, hby]
      rw [← Nat.add_mul]
      exact List.mem_cons_self)
    have hl : (lits (H := H) .u8 (zs.take len)).length = len := by simp [lits]; omega
    rw [hl] at this
    omega
theorem each_sized {ts : List TypeId} {ds : List (DataW H)} (h : (DataW.weightsEach P ts ds).all (· ≤ reachBytes) = true) {j : Nat} {t : TypeId} {d : DataW H} (ht : ts[j]? = some t) (hd : ds[j]? = some d) : ∀ n ∈ d.weights P t, n ≤ RB := fun n hn => by
  have := List.all_eq_true.1 h _ (DataW.weights_mem_each ht hd n hn)
  exact of_decide_eq_true this
end
end Go.Proofs.Ytmhpifphohcfmaa
namespace Go.Proofs.Ytmhpifphohcfmaa
open Go Go.ChangeShapes Go.WideShapes Go.ChangeAt Go.RowKit
abbrev Dat := Nat
def repN (P : Program) (G : Mem) : Nat → TypeId → List Value → Prop
  | 0, _, _ => False
  | d + 1, t, cs => match P.underlying t with
    | some (.int k) => ∃ z, cs = [.int k z] ∧ (Lit.int k z).wf = true
    | some .bool => ∃ b, cs = [.bool b]
    | some .string => ∃ l : List Nat, cs = [sv l] ∧ (∀ b ∈ l, b < 256) ∧ l.length ≤ maxLen
    | some (.struct fs) => cs.length = P.cellsOf t ∧ ∀ (i : Nat) f, fs[i]? = some f → repN P G d f.type ((cs.drop f.offset).take (P.cellsOf f.type))
    | some (.array n e) => cs.length = P.cellsOf t ∧ ∀ i, i < n → repN P G d e ((cs.drop (i * P.cellsOf e)).take (P.cellsOf e))
    | some (.slice e) => ∃ v xs n, cs = [v] ∧ n ≤ maxLen ∧ Shows G (P.cellsOf e) v n xs ∧ ∀ i, i < n → repN P G d e ((xs.drop (i * P.cellsOf e)).take (P.cellsOf e))
    | _ => False
abbrev Rep (P : Program) (G : Mem) (t : TypeId) (cs : List Value) (d : Dat) : Prop := repN P G d t cs
section
variable {P : Program} {G : Mem}
theorem repN_mono {G' : Mem} (hs : ∀ x ∈ G, x ∈ G') : ∀ (d : Nat) {t : TypeId} {cs : List Value}, repN P G d t cs → repN P G' d t cs
  | 0, _, _, h => h
  | d + 1, t, cs, h => by
    unfold repN at h ⊢
    cases hu : P.underlying t with
    | none => rw [hu] at h; exact h
    | some td =>
      rw [hu] at h
      cases td with
      | struct fs => exact ⟨h.1, fun i f hf => repN_mono hs d (h.2 i f hf)⟩
      | array n e => exact ⟨h.1, fun i hi => repN_mono hs d (h.2 i hi)⟩
      | slice e =>
        obtain ⟨v, xs, n, h1, h2, h3, h4⟩ := h
        exact ⟨v, xs, n, h1, h2, h3.mono hs, fun i hi => repN_mono hs d (h4 i hi)⟩
      | _ => exact h
def closedT (P : Program) (L : List TypeId) : Bool := L.all fun t => match P.underlying t with
  | some (.int _) | some .bool | some .string => true
  | some (.struct fs) => fs.all fun f => L.contains f.type
  | some (.array _ e) => L.contains e
  | some (.slice e) => L.contains e && decide (0 < P.cellsOf e)
  | _ => false
theorem closed_at {L : List TypeId} (h : closedT P L = true) {t : TypeId} (ht : t ∈ L) : (match P.underlying t with
  | some (.int _) | some .bool | some .string => true
  | some (.struct fs) => fs.all fun f => L.contains f.type
  | some (.array _ e) => L.contains e
  | some (.slice e) => L.contains e && decide (0 < P.cellsOf e)
  | _ => false) = true := (List.all_eq_true.1 h) t ht
theorem rep_all {W : World} {n d : Nat} (T : Nat → TypeId) (C : Nat → List Value) (h : ∀ i, i < n → ∃ G, repN P G d (T i) (C i) ∧ MemR G W) : ∃ G : Mem, MemR G W ∧ ∀ i, i < n → repN P G d (T i) (C i) := by
  induction n with
  | zero => exact ⟨[], by simp [MemR], fun i hi => absurd hi (Nat.not_lt_zero i)⟩
  | succ n ih =>
    obtain ⟨G, h2, h3⟩ := ih fun i hi => h i (by omega)
    obtain ⟨G', h4, h5⟩ := h n (by omega)
    refine ⟨G ++ G', fun x hx => (List.mem_append.1 hx).elim (h2 x) (h5 x), fun i hi => ?_⟩
    by_cases hin : i < n
    · exact repN_mono (fun x hx => List.mem_append_left _ hx) d (h3 i hin)
    · obtain rfl : i = n := by omega
      exact repN_mono (fun x hx => List.mem_append_right _ hx) d h4
variable {H : Type} {enc : TypeId × Value → H}
theorem rep_trod {W : World} {base : Nat} {s : Nat → Bool} {held : Bool} {L : List TypeId} (hL : closedT P L = true) : ∀ (fuel : Nat) (t : TypeId) (cs : List Value) (x : DataW H × List MemPlace), t ∈ L → DataW.trod enc P W base s held fuel t cs = some x → ∃ G, repN P G fuel t cs ∧ MemR G W := by
  intro fuel
  induction fuel with
  | zero => intro t cs x _ h; simp [DataW.trod] at h
  | succ m ih =>
    intro t cs x ht h
    have hc := closed_at hL ht
    cases hu : P.underlying t with
    | none => rw [hu] at hc; cases hc
    | some td =>
      rw [hu] at hc
      cases td with
      | int k =>
        obtain ⟨z, rfl, _, hw⟩ := DataW.trod_int hu h
        exact ⟨[], by unfold repN; rw [hu]; exact ⟨z, rfl, hw⟩, by simp [MemR]⟩
      | bool =>
        obtain ⟨b, rfl, _⟩ := DataW.trod_bool hu h
        exact ⟨[], by unfold repN; rw [hu]; exact ⟨b, rfl⟩, by simp [MemR]⟩
      | string =>
        obtain ⟨b, rfl, _, hm⟩ := DataW.trod_string hu h
        obtain ⟨l, hl, rfl⟩ := str_list b
        exact ⟨[], by unfold repN; rw [hu]; exact ⟨l, rfl, hl, by rw [← bstr_size]; exact hm⟩, by simp [MemR]⟩
      | struct fs =>
        obtain ⟨xs, m', e1, _, hlen, hn, hel⟩ := DataW.trod_struct hu h
        have e1 : m = m' := by omega
        subst e1
        obtain ⟨G, h2, h3⟩ := rep_all (P := P) (W := W) (n := fs.size) (d := m) (fun i => (fs[i]?.map (·.type)).getD 0) (fun i => match fs[i]? with
          | some f => (cs.drop f.offset).take (P.cellsOf f.type)
          | none => []) fun i hi => by
            have hf : fs[i]? = some fs[i] := Array.getElem?_eq_getElem hi
            have := hel i fs[i] hf
            rw [List.getElem?_eq_getElem (by omega)] at this
            have hmem : fs[i].type ∈ L := by
              have := (Array.all_eq_true.1 hc) i hi
              simpa using this
            simp only [hf, Option.map_some, Option.getD_some]
            exact ih _ _ _ hmem this
        refine ⟨G, ?_, h2⟩
        unfold repN
        rw [hu]
        refine ⟨hlen, fun i f hf => ?_⟩
        have := h3 i (Array.getElem?_eq_some_iff.1 hf).1
        simp only [hf, Option.map_some, Option.getD_some] at this
        exact this
      | array n e =>
        obtain ⟨xs, m', e1, _, hlen, hn, hel⟩ := DataW.trod_array hu h
        have e1 : m = m' := by omega
        subst e1
        have hmem : e ∈ L := by simpa using hc
        obtain ⟨G, h2, h3⟩ := rep_all (P := P) (W := W) (n := n) (d := m) (fun _ => e) (fun i => (cs.drop (i * P.cellsOf e)).take (P.cellsOf e)) fun i hi => by
          have := hel i hi
          rw [List.getElem?_eq_getElem (by omega)] at this
          exact ih _ _ _ hmem this
        refine ⟨G, ?_, h2⟩
        unfold repN
        rw [hu]
        exact ⟨hlen, h3⟩
      | slice e =>
        have hc : (L.contains e && decide (0 < P.cellsOf e)) = true := hc
        rw [Bool.and_eq_true, decide_eq_true_eq] at hc
        have hmem : e ∈ L := by simpa using hc.1
        have hz := hc.2
        rcases DataW.trod_slice hu h with ⟨rfl, _⟩ | ⟨a, len, cap, elems, rest, m', e1, rfl, _, hb, hl, hm, hlen, hel, _, _⟩
        · exact ⟨[], by unfold repN; rw [hu]; exact ⟨_, [], 0, rfl, by simp [maxLen], .inl ⟨rfl, rfl, none, 0, rfl, fun _ => rfl⟩, fun i hi => absurd hi (Nat.not_lt_zero i)⟩, by simp [MemR]⟩
        have e1 : m = m' := by omega
        subst e1
        obtain ⟨z, hze⟩ : ∃ z, z = P.cellsOf e := ⟨_, rfl⟩
        rw [← hze] at hz hel
        have hE : ∀ i, i < len → ∃ ci y, W.cells? base (a.add (i * z)) z = some ci ∧ DataW.trod enc P W base s held m e ci = some y := fun i hi => by
          have := hel i hi
          rw [List.getElem?_eq_getElem (by omega)] at this
          cases hcc : W.cells? base (a.add (i * z)) z with
          | none => rw [hcc] at this; cases this
          | some ci => rw [hcc] at this; exact ⟨ci, _, rfl, this⟩
        by_cases h0 : len = 0
        · subst h0
          exact ⟨[], by unfold repN; rw [hu]; exact ⟨_, [], 0, rfl, by simp [maxLen], .inl ⟨rfl, rfl, some a, cap, rfl, fun h => by cases h⟩, fun i hi => absurd hi (Nat.not_lt_zero i)⟩, by simp [MemR]⟩
        obtain ⟨c0, y0, hc0, _⟩ := hE 0 (by omega)
        obtain ⟨b, off, spot⟩ := a
        have hg0 := (World.cells?_some hc0).2.2 0 hz
        have hl0 := (World.cells?_some hc0).2.1
        rw [List.getElem?_eq_getElem (by omega)] at hg0
        have hspot : spot = none := by simpa [Addr.add] using World.cell?_spot hg0
        subst hspot
        obtain ⟨cs0, et, fr, hbk⟩ := row_of_cell (b := b) (o := off) (by simpa [Addr.add] using hg0)
        have hcl : ∀ o, W.cell? ⟨b, o, none⟩ = cs0[o]? := fun o => by simp [World.cell?, hbk]
        have hadd : ∀ i r, (Addr.add (Addr.add ⟨b, off, none⟩ (i * z)) r) = ⟨b, off + (i * z + r), none⟩ := fun i r => by
          rw [Go.WideShapes.add_plain, Go.WideShapes.add_plain, Nat.add_assoc]
        have hcell : ∀ i, i < len → ∀ ci, W.cells? base (Addr.add ⟨b, off, none⟩ (i * z)) z = some ci → ∀ r, r < z → cs0[off + (i * z + r)]? = ci[r]? := fun i _ ci hci r hr => by
          rw [← hcl, ← hadd i r]
          exact (World.cells?_some hci).2.2 r hr
        have hbound : off + len * z ≤ cs0.size := by
          obtain ⟨ci, y, hci, _⟩ := hE (len - 1) (by omega)
          have h1 := hcell (len - 1) (by omega) ci hci (z - 1) (by omega)
          rw [List.getElem?_eq_getElem (by have := (World.cells?_some hci).2.1; omega)] at h1
          have h2 := (Array.getElem?_eq_some_iff.1 h1).1
          have h3 : (len - 1) * z + z = len * z := by rw [← Nat.succ_mul]; congr 1; omega
          omega
        obtain ⟨xs, hxs⟩ : ∃ xs, xs = (cs0.toList.drop off).take (len * z) := ⟨_, rfl⟩
        have hxl : xs.length = len * z := by rw [hxs]; simp; omega
        have hxj : ∀ j, j < len * z → xs[j]? = cs0[off + j]? := fun j hj => by rw [hxs, List.getElem?_take_of_lt hj, List.getElem?_drop]; simp
        obtain ⟨G, h2, h3⟩ := rep_all (P := P) (W := W) (n := len) (d := m) (fun _ => e) (fun i => (xs.drop (i * z)).take z) fun i hi => by
          obtain ⟨ci, y, hci, hy⟩ := hE i hi
          have hcl2 := (World.cells?_some hci).2.1
          have hle : i * z + z ≤ len * z := by rw [← Nat.succ_mul]; exact Nat.mul_le_mul_right _ hi
          have : (xs.drop (i * z)).take z = ci := by
            apply List.ext_getElem?
            intro r
            by_cases hr : r < z
            · rw [List.getElem?_take_of_lt hr, List.getElem?_drop, hxj _ (by omega)]
              exact hcell i hi ci hci r hr
            · rw [List.getElem?_eq_none (by rw [List.length_take]; omega), List.getElem?_eq_none (by omega)]
          rw [this]
          exact ih _ _ _ hmem hy
        refine ⟨⟨b, cs0, et⟩ :: G, ?_, fun x hx => ?_⟩
        · unfold repN
          rw [hu]
          refine ⟨_, xs, len, rfl, by omega, .inr ⟨b, off, cap, cs0, et, rfl, by omega, List.mem_cons_self, by rw [← hze]; exact hxl, by rw [← hze]; exact hbound, fun j u hj => ?_⟩, fun i hi => ?_⟩
          · rw [← hxj j (by rw [← hxl]; exact (List.getElem?_eq_some_iff.1 hj).1)]; exact hj
          · rw [← hze]
            exact repN_mono (fun x hx => List.mem_cons_of_mem _ hx) m (h3 i hi)
        · rcases List.mem_cons.1 hx with rfl | hx
          · exact ⟨(Array.getElem?_eq_some_iff.1 hbk).1, fun o _ => hcl o⟩
          · exact h2 x hx
      | _ => cases hc
theorem rep_open {W : World} {base : Nat} {s : Nat → Bool} {held : Bool} {t : TypeId} {v : Value} {d : DataW H} {ps : List MemPlace} (L : List TypeId) (hL : closedT P L = true) (ht : t ∈ L) (hd : DataW.Trod enc P W base s held t v d ps) : ∃ x G, Rep P G t v.cells.toList x ∧ MemR G W := by
  obtain ⟨fuel, hf⟩ := hd
  exact ⟨fuel, rep_trod hL fuel t _ _ ht hf⟩
end
end Go.Proofs.Ytmhpifphohcfmaa
namespace Go.Proofs.Ytmhpifphohcfmaa
open Go Go.ChangeShapes Go.WideShapes Go.ChangeAt Go.RowKit
structure RawT where
  a : Int
  b : Int
  c : Int
  t : List Nat
abbrev rawC (r : RawT) : List Value := [.int .i64 r.a, .int .i64 r.b, .int .i64 r.c, sv r.t]
def rawOk (r : RawT) : Prop := (∀ x ∈ r.t, x < 256) ∧ r.t.length ≤ maxLen
section
variable {P : Program} {G : Mem}
theorem rep_int {t : TypeId} {cs : List Value} {d : Dat} {k : IntKind} (hu : P.underlying t = some (.int k)) (h : Rep P G t cs d) : ∃ z, cs = [.int k z] ∧ (Lit.int k z).wf = true := by
  cases d with
  | zero => exact h.elim
  | succ d => unfold Rep repN at h; rw [hu] at h; exact h
theorem rep_str {t : TypeId} {cs : List Value} {d : Dat} (hu : P.underlying t = some .string) (h : Rep P G t cs d) : ∃ l : List Nat, cs = [sv l] ∧ (∀ b ∈ l, b < 256) ∧ l.length ≤ maxLen := by
  cases d with
  | zero => exact h.elim
  | succ d => unfold Rep repN at h; rw [hu] at h; exact h
theorem rep_struct {t : TypeId} {cs : List Value} {d : Dat} {fs : Array Field} (hu : P.underlying t = some (.struct fs)) (h : Rep P G t cs d) : ∃ d', cs.length = P.cellsOf t ∧ ∀ (i : Nat) f, fs[i]? = some f → Rep P G f.type ((cs.drop f.offset).take (P.cellsOf f.type)) d' := by
  cases d with
  | zero => exact h.elim
  | succ d => unfold Rep repN at h; rw [hu] at h; exact ⟨d, h⟩
theorem rep_slice {t e : TypeId} {cs : List Value} {d : Dat} (hu : P.underlying t = some (.slice e)) (h : Rep P G t cs d) : ∃ d' v xs n, cs = [v] ∧ n ≤ maxLen ∧ Shows G (P.cellsOf e) v n xs ∧ ∀ i, i < n → Rep P G e ((xs.drop (i * P.cellsOf e)).take (P.cellsOf e)) d' := by
  cases d with
  | zero => exact h.elim
  | succ d => unfold Rep repN at h; rw [hu] at h; exact ⟨d, h⟩
theorem rep_raw {t : TypeId} {cs : List Value} {d : Dat} {f0 f1 f2 f3 : Field} (ht : P.underlying t = some (.struct #[f0, f1, f2, f3])) (hc : P.cellsOf t = 4)
    (o0 : f0.offset = 0) (o1 : f1.offset = 1) (o2 : f2.offset = 2) (o3 : f3.offset = 3) (u0 : P.underlying f0.type = some (.int .i64)) (u1 : P.underlying f1.type = some (.int .i64)) (u2 : P.underlying f2.type = some (.int .i64)) (u3 : P.underlying f3.type = some .string)
    (c0 : P.cellsOf f0.type = 1) (c1 : P.cellsOf f1.type = 1) (c2 : P.cellsOf f2.type = 1) (c3 : P.cellsOf f3.type = 1) (h : Rep P G t cs d) : ∃ r : RawT, cs = rawC r ∧ rawOk r := by
  obtain ⟨d', hl, he⟩ := rep_struct ht h
  rw [hc] at hl
  match cs, hl with
  | [w0, w1, w2, w3], _ =>
    have e0 := he 0 f0 rfl
    have e1 := he 1 f1 rfl
    have e2 := he 2 f2 rfl
    have e3 := he 3 f3 rfl
    rw [o0, c0] at e0
    rw [o1, c1] at e1
    rw [o2, c2] at e2
    rw [o3, c3] at e3
    obtain ⟨za, h0, _⟩ := rep_int u0 e0
    obtain ⟨zb, h1, _⟩ := rep_int u1 e1
    obtain ⟨zc, h2, _⟩ := rep_int u2 e2
    obtain ⟨tx, h3, hb, hm⟩ := rep_str u3 e3
    simp at h0 h1 h2 h3
    exact ⟨⟨za, zb, zc, tx⟩, by rw [h0, h1, h2, h3], hb, hm⟩
theorem rep_elems {α : Type} {e : TypeId} {z n : Nat} {d : Dat} (C : α → List Value) (Q : α → Prop) {xs : List Value} (hx : xs.length = n * z) (hE : ∀ cs d, Rep P G e cs d → ∃ x, cs = C x ∧ Q x)
    (he : ∀ i, i < n → Rep P G e ((xs.drop (i * z)).take z) d) : ∃ rs : List α, rs.length = n ∧ xs = rs.flatMap C ∧ ∀ r ∈ rs, Q r := by
  induction n generalizing xs with
  | zero => exact ⟨[], rfl, by simpa using hx, by simp⟩
  | succ m ih =>
    have h0 := he 0 (by omega)
    rw [Nat.zero_mul, List.drop_zero] at h0
    obtain ⟨r, hr, hq⟩ := hE _ _ h0
    obtain ⟨rs, h1, h2, h3⟩ := ih (xs := xs.drop z) (by rw [List.length_drop, hx, Nat.succ_mul]; omega) fun i hi => by
      have := he (i + 1) (by omega)
      rw [List.drop_drop, show z + i * z = (i + 1) * z by rw [Nat.succ_mul]; omega]
      exact this
    refine ⟨r :: rs, by simp [h1], ?_, fun x hx' => ?_⟩
    · rw [List.flatMap_cons, ← h2, ← hr, List.take_append_drop]
    · rcases List.mem_cons.1 hx' with rfl | hx'
      · exact hq
      · exact h3 x hx'
end
abbrev rawK (r : RawT) : Array Value := cells 4 [pV (.int .i64 r.a), pV (.int .i64 r.b), pV (.int .i64 r.c), pV (sv r.t)]
theorem rawC_len (r : RawT) : (rawC r).length = 4 := rfl
theorem raw_cells (r : RawT) : Value.agg (rawC r).toArray = Value.agg (rawK r) := rfl
theorem shows_some {G : Mem} {v : Value} {rs : List RawT} (m : Nat) (h : Shows G 4 v rs.length (rs.flatMap rawC)) : Shows G 4 (slPart 4 v 0 (min rs.length m)) (rs.take m).length ((rs.take m).flatMap rawC) := by
  have := h.part (i := 0) (j := min rs.length m) (by omega) (by omega)
  rw [Nat.zero_mul, List.drop_zero, Nat.sub_zero] at this
  have e1 : (rs.take m).length = min rs.length m := by rw [List.length_take, Nat.min_comm]
  have e2 : (rs.flatMap rawC).take (min rs.length m * 4) = (rs.take m).flatMap rawC := by
    rw [flatMap_take rawC_len]
    congr 1
    rcases Nat.le_total rs.length m with hm | hm
    · rw [Nat.min_eq_left hm, List.take_length, List.take_of_length_le hm]
    · rw [Nat.min_eq_right hm]
  rw [e1, ← e2]
  exact this
theorem open_raws {P : Program} {G : Mem} {t e : TypeId} {v : Value} {d : Dat} {f0 f1 f2 f3 : Field} (hu : P.underlying t = some (.slice e)) (ht : P.underlying e = some (.struct #[f0, f1, f2, f3])) (hc : P.cellsOf e = 4)
    (o0 : f0.offset = 0) (o1 : f1.offset = 1) (o2 : f2.offset = 2) (o3 : f3.offset = 3) (u0 : P.underlying f0.type = some (.int .i64)) (u1 : P.underlying f1.type = some (.int .i64)) (u2 : P.underlying f2.type = some (.int .i64)) (u3 : P.underlying f3.type = some .string)
    (c0 : P.cellsOf f0.type = 1) (c1 : P.cellsOf f1.type = 1) (c2 : P.cellsOf f2.type = 1) (c3 : P.cellsOf f3.type = 1) (h : Rep P G t [v] d) : ∃ rs : List RawT, Shows G 4 v rs.length (rs.flatMap rawC) ∧ (∀ r ∈ rs, rawOk r) ∧ rs.length ≤ maxLen := by
  obtain ⟨d', v', xs, n, h1, hm, hv, he⟩ := rep_slice hu h
  obtain rfl : v = v' := by simpa using h1
  rw [hc] at hv he
  obtain ⟨rs, h2, h3, h4⟩ := rep_elems (n := n) rawC rawOk hv.len (fun cs d hd => rep_raw ht hc o0 o1 o2 o3 u0 u1 u2 u3 c0 c1 c2 c3 hd) he
  exact ⟨rs, by rw [h2, ← h3]; exact hv, h4, by omega⟩
section
variable {P : Program} {H : Type} {enc : TypeId × Value → H}
theorem val_cell {W : World} {b0 : Nat} {t : TypeId} {v : Value} {td : TypeDesc} (ht : P.underlying t = some td) (hn : rowLike td = false) (hval : Value.okWide P W .any b0 t v) : Cell.okWide P W .any b0 t v := by
  unfold Value.okWide at hval
  rw [ht] at hval
  cases td <;> simp_all [rowLike]
theorem rep_open1 {W : World} {b0 base : Nat} {s : Nat → Bool} {held : Bool} {t e : TypeId} {v : Value} {d : DataW H} {ps : List MemPlace} (L : List TypeId) (hL : closedT P L = true) (htL : t ∈ L) (ht : P.underlying t = some (.slice e)) (hval : Value.okWide P W .any b0 t v) (hd : DataW.Trod enc P W base s held t v d ps) : ∃ x G, Rep P G t [v] x ∧ MemR G W := by
  obtain ⟨x, G, h1, h2⟩ := rep_open L hL htL hd
  have hc : v.cells.toList = [v] := by
    have := val_cell ht rfl hval
    unfold Cell.okWide at this
    rw [ht] at this
    unfold Cell.ok at this
    rw [ht] at this
    cases v <;> simp_all [Value.cells]
  rw [hc] at h1
  exact ⟨x, G, h1, h2⟩
end
end Go.Proofs.Ytmhpifphohcfmaa
namespace Go.Proofs.Ytmhpifphohcfmaa
open Go Go.RowKit
theorem and31 {s : Nat} (h : s < 32) : (s &&& 31) % 18446744073709551616 = s := by
  rw [show (31 : Nat) = 2 ^ 5 - 1 by decide, Nat.and_two_pow_sub_one_eq_mod]; omega
def qst (f : Nat → Nat) (a b c d : Nat) : Nat → Nat :=
  let f1 := upd f a ((f a + f b) % 4294967296)
  let f2 := upd f1 d (rotl ((f1 d ^^^ f1 a) % 4294967296) 16)
  let f3 := upd f2 c ((f2 c + f2 d) % 4294967296)
  let f4 := upd f3 b (rotl ((f3 b ^^^ f3 c) % 4294967296) 12)
  let f5 := upd f4 a ((f4 a + f4 b) % 4294967296)
  let f6 := upd f5 d (rotl ((f5 d ^^^ f5 a) % 4294967296) 8)
  let f7 := upd f6 c ((f6 c + f6 d) % 4294967296)
  upd f7 b (rotl ((f7 b ^^^ f7 c) % 4294967296) 7)
def qat (f : Nat → Nat) (a b c d : Nat) : Nat → Nat := fun t =>
  if t = a then (qrt (f a) (f b) (f c) (f d)).1 else if t = b then (qrt (f a) (f b) (f c) (f d)).2.1 else if t = c then (qrt (f a) (f b) (f c) (f d)).2.2.1 else if t = d then (qrt (f a) (f b) (f c) (f d)).2.2.2 else f t
theorem upd_same (f : Nat → Nat) (a v : Nat) : upd f a v a = v := if_pos rfl
theorem upd_ne (f : Nat → Nat) {a t : Nat} (v : Nat) (h : t ≠ a) : upd f a v t = f t := if_neg h
theorem qst_at (f : Nat → Nat) {a b c d : Nat} (ab : a ≠ b) (ac : a ≠ c) (ad : a ≠ d) (bc : b ≠ c) (bd : b ≠ d) (cd : c ≠ d) (t : Nat) : qst f a b c d t = qat f a b c d t := by
  have ba := ab.symm
  have ca := ac.symm
  have da := ad.symm
  have cb := bc.symm
  have db := bd.symm
  have dc := cd.symm
  unfold qst qat qrt
  simp only [upd_same, upd_ne _ _ ab, upd_ne _ _ ac, upd_ne _ _ ad, upd_ne _ _ bc, upd_ne _ _ bd, upd_ne _ _ cd, upd_ne _ _ ba, upd_ne _ _ ca, upd_ne _ _ da, upd_ne _ _ cb, upd_ne _ _ db, upd_ne _ _ dc]
  by_cases ha : t = a
  · subst ha
    simp only [upd_same, upd_ne _ _ ab, upd_ne _ _ ac, upd_ne _ _ ad, if_pos]
  · by_cases hb : t = b
    · subst hb
      simp only [upd_same, if_neg ha, if_pos]
    · by_cases hc : t = c
      · subst hc
        simp only [upd_same, upd_ne _ _ cb, if_neg ha, if_neg hb, if_pos]
      · by_cases hd : t = d
        · subst hd
          simp only [upd_same, upd_ne _ _ db, upd_ne _ _ dc, if_neg ha, if_neg hb, if_neg hc, if_pos]
        · simp only [if_neg ha, if_neg hb, if_neg hc, if_neg hd, upd_ne _ _ ha, upd_ne _ _ hb, upd_ne _ _ hc, upd_ne _ _ hd]
theorem qst_eq (f : Nat → Nat) {a b c d : Nat} (h : a ≠ b ∧ a ≠ c ∧ a ≠ d ∧ b ≠ c ∧ b ≠ d ∧ c ≠ d) : qst f a b c d = qat f a b c d := funext fun t => qst_at f h.1 h.2.1 h.2.2.1 h.2.2.2.1 h.2.2.2.2.1 h.2.2.2.2.2 t
def cols (f : Nat → Nat) : Nat → Nat := qat (qat (qat (qat f 0 4 8 12) 1 5 9 13) 2 6 10 14) 3 7 11 15
def diag (f : Nat → Nat) : Nat → Nat := qat (qat (qat (qat f 0 5 10 15) 1 6 11 12) 2 7 8 13) 3 4 9 14
theorem cols_rnd (f : Nat → Nat) : ∀ t, t < 16 → cols f t = rnd f t := fun t ht => by
  have : t = 0 ∨ t = 1 ∨ t = 2 ∨ t = 3 ∨ t = 4 ∨ t = 5 ∨ t = 6 ∨ t = 7 ∨ t = 8 ∨ t = 9 ∨ t = 10 ∨ t = 11 ∨ t = 12 ∨ t = 13 ∨ t = 14 ∨ t = 15 := by omega
  rcases this with rfl | rfl | rfl | rfl | rfl | rfl | rfl | rfl | rfl | rfl | rfl | rfl | rfl | rfl | rfl | rfl <;> simp [cols, qat, rnd]
theorem diag_rnd (f : Nat → Nat) : ∀ t, t < 16 → diag f t = shm (rnd (sh1 f)) t := fun t ht => by
  have : t = 0 ∨ t = 1 ∨ t = 2 ∨ t = 3 ∨ t = 4 ∨ t = 5 ∨ t = 6 ∨ t = 7 ∨ t = 8 ∨ t = 9 ∨ t = 10 ∨ t = 11 ∨ t = 12 ∨ t = 13 ∨ t = 14 ∨ t = 15 := by omega
  rcases this with rfl | rfl | rfl | rfl | rfl | rfl | rfl | rfl | rfl | rfl | rfl | rfl | rfl | rfl | rfl | rfl <;> simp [diag, qat, rnd, sh1, shm]
theorem rnd_congr {f g : Nat → Nat} (h : ∀ t, t < 16 → f t = g t) : ∀ t, t < 16 → rnd f t = rnd g t := fun t ht => by
  unfold rnd
  rw [h (t % 4) (by omega), h (4 + t % 4) (by omega), h (8 + t % 4) (by omega), h (12 + t % 4) (by omega)]
theorem sh1_congr {f g : Nat → Nat} (h : ∀ t, t < 16 → f t = g t) : ∀ t, t < 16 → sh1 f t = sh1 g t := fun t ht => h _ (by omega)
theorem shm_congr {f g : Nat → Nat} (h : ∀ t, t < 16 → f t = g t) : ∀ t, t < 16 → shm f t = shm g t := fun t ht => h _ (by omega)
theorem both_dbl (f : Nat → Nat) : ∀ t, t < 16 → diag (cols f) t = dbl f t := fun t ht =>
  (diag_rnd (cols f) t ht).trans (shm_congr (rnd_congr (sh1_congr (cols_rnd f))) t ht)
end Go.Proofs.Ytmhpifphohcfmaa
