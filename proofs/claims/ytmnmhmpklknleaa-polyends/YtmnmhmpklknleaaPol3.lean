/-
  Bytes taken in by the one-time sum, in plain numbers.
-/
import Derived.Test.YtmnmhmpklknleaaPol2
import Derived.Test.YtmnmhmpklknleaaEnvA
namespace Go.Proofs.Ytmnmhmpklknleaa
open Go Go.RowKit

def accs (R A : Nat) (S : List Nat) : Nat → Nat
  | 0 => A
  | k + 1 => pst R (accs R A S k) ((S.drop (16 * k)).take 16)
theorem accs_lt {R A : Nat} {S : List Nat} (hA : A < 2 ^ 130) : ∀ k, accs R A S k < 2 ^ 130
  | 0 => hA
  | _ + 1 => mod_lt30 _
theorem w3_wd {x : Nat} (hx : x < 2 ^ 130) : w3 (wd x) = x := by
  unfold w3 wd
  simp only [Nat.mul_zero, Nat.pow_zero, Nat.div_one, Nat.mul_one, Nat.reduceMul]
  omega
theorem wd2_lt {x : Nat} (hx : x < 2 ^ 130) : wd x 2 < 4 := by
  unfold wd
  simp only [Nat.reduceMul]
  omega
/-- What was held, and what comes. -/
def sS (h : Nat → Nat) (n : Nat) (l : List Nat) : List Nat := (List.range n).map h ++ l
theorem sS_len (h : Nat → Nat) (n : Nat) (l : List Nat) : (sS h n l).length = n + l.length := by simp [sS]
theorem sS_lt {h : Nat → Nat} {n : Nat} {l : List Nat} (hh : ∀ j, j < n → h j < 256) (hl : ∀ b ∈ l, b < 256) : ∀ b ∈ sS h n l, b < 256 := by
  intro b hb
  unfold sS at hb
  rw [List.mem_append] at hb
  rcases hb with hb | hb
  · obtain ⟨j, hj, rfl⟩ := List.mem_map.1 hb
    exact hh j (List.mem_range.1 hj)
  · exact hl b hb
theorem drop_next (S : List Nat) (k : Nat) : ((S.drop (16 * k)).drop 16).take ((S.drop (16 * k)).length - 16) = S.drop (16 * (k + 1)) := by
  rw [List.drop_drop, List.take_of_length_le (by simp; omega), show 16 * k + 16 = 16 * (k + 1) by omega]
theorem held_all (L : List Nat) (h : L.length < 16) : (fun i => if i < min L.length 16 then L.getD i 0 else 0) = fun i => L.getD i 0 := by
  funext i
  by_cases hi : i < min L.length 16
  · rw [if_pos hi]
  · rw [if_neg hi, List.getD_eq_getElem?_getD, List.getElem?_eq_none (by omega)]; rfl

end Go.Proofs.Ytmnmhmpklknleaa
