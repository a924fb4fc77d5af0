/-
  Numbers with a sign, as the reference holds them, and numbers of two words. Nothing here speaks of the program.
-/
import Derived.Test.YtfalllekhcocgaaDoorDigs
namespace Go.Proofs.YtfalllekhcocgaaDoor
open Go.RowKit

/-- a number, as the reference holds it -/
def BigZ (z : Int) : Value := BigV (decide (z < 0)) z.natAbs

/-- two's complement of two words, as the reference reckons it: what is turned, and one more -/
theorem complement_words (hi lo : Nat) (h1 : hi < 18446744073709551616) (h2 : lo < 18446744073709551616) :
    let l := (18446744073709551615 - lo + 1) % 18446744073709551616
    let h := if l = 0 then (18446744073709551615 - hi + 1) % 18446744073709551616 else 18446744073709551615 - hi
    h < 18446744073709551616 ∧ l < 18446744073709551616 ∧ (0 < hi * 18446744073709551616 + lo → h * 18446744073709551616 + l = 340282366920938463463374607431768211456 - (hi * 18446744073709551616 + lo)) ∧ (hi * 18446744073709551616 + lo = 0 → h * 18446744073709551616 + l = 0) := by
  intro l h
  have hl : l = (18446744073709551615 - lo + 1) % 18446744073709551616 := rfl
  have hh : h = if l = 0 then (18446744073709551615 - hi + 1) % 18446744073709551616 else 18446744073709551615 - hi := rfl
  clear_value l h
  by_cases h0 : l = 0
  · rw [if_pos h0] at hh
    omega
  · rw [if_neg h0] at hh
    omega

/-! ## Sums of numbers with signs -/
theorem sum_same {x y : Int} (h : decide (x < 0) = decide (y < 0)) : BigV (decide (x < 0)) (x.natAbs + y.natAbs) = BigZ (x + y) := by
  have h' : x < 0 ↔ y < 0 := by simpa using h
  unfold BigZ
  rw [show (x + y).natAbs = x.natAbs + y.natAbs by omega, show decide (x + y < 0) = decide (x < 0) by rw [decide_eq_decide]; omega]
theorem sum_less {x y : Int} (h : decide (x < 0) ≠ decide (y < 0)) (hl : x.natAbs < y.natAbs) : BigV (decide (y < 0)) (y.natAbs - x.natAbs) = BigZ (x + y) := by
  have h' : ¬ (x < 0 ↔ y < 0) := by simpa using h
  unfold BigZ
  rw [show (x + y).natAbs = y.natAbs - x.natAbs by omega, show decide (x + y < 0) = decide (y < 0) by rw [decide_eq_decide]; omega]
theorem sum_more {x y : Int} (h : decide (x < 0) ≠ decide (y < 0)) (hl : y.natAbs ≤ x.natAbs) : BigV (decide (x < 0) && !decide (x.natAbs - y.natAbs = 0)) (x.natAbs - y.natAbs) = BigZ (x + y) := by
  have h' : ¬ (x < 0 ↔ y < 0) := by simpa using h
  unfold BigZ
  rw [show (x + y).natAbs = x.natAbs - y.natAbs by omega]
  congr 1
  by_cases h1 : x < 0 <;> by_cases h2 : x.natAbs - y.natAbs = 0 <;> simp [h1, h2] <;> omega
theorem minus_z (x : Int) : BigV (!decide (x < 0) && !decide (x.natAbs = 0)) x.natAbs = BigZ (-x) := by
  unfold BigZ
  rw [Int.natAbs_neg]
  congr 1
  by_cases h1 : x < 0
  · have h2 : x.natAbs ≠ 0 := by omega
    have h3 : ¬ -x < 0 := by omega
    simp [h1, h3]; omega
  · by_cases h2 : x.natAbs = 0
    · have h3 : ¬ -x < 0 := by omega
      rw [decide_eq_false h1, decide_eq_true h2, decide_eq_false h3]; rfl
    · have h3 : -x < 0 := by omega
      rw [decide_eq_false h1, decide_eq_false h2, decide_eq_true h3]; rfl
theorem times_z (x y : Int) : BigV ((decide (x < 0) != decide (y < 0)) && !decide (x.natAbs * y.natAbs = 0)) (x.natAbs * y.natAbs) = BigZ (x * y) := by
  unfold BigZ
  rw [Int.natAbs_mul]
  congr 1
  rcases Int.lt_trichotomy x 0 with hx | hx | hx <;> rcases Int.lt_trichotomy y 0 with hy | hy | hy
  · have h := Int.mul_pos_of_neg_of_neg hx hy
    simp [hx, hy]; omega
  · subst hy; simp
  · have h := Int.mul_neg_of_neg_of_pos hx hy
    have h2 : ¬ y < 0 := by omega
    have : x.natAbs * y.natAbs ≠ 0 := by rw [← Int.natAbs_mul]; omega
    simp [hx, h2, h, this]
  · subst hx; simp
  · subst hx; simp
  · subst hx; simp
  · have h := Int.mul_neg_of_pos_of_neg hx hy
    have h2 : ¬ x < 0 := by omega
    have : x.natAbs * y.natAbs ≠ 0 := by rw [← Int.natAbs_mul]; omega
    simp [hy, h2, h, this]
  · subst hy; simp
  · have h := Int.mul_pos hx hy
    have h2 : ¬ x < 0 := by omega
    have h3 : ¬ y < 0 := by omega
    simp [h2, h3]; omega

/-! ## Half-even -/
/-- a quotient, rounded half-even -/
def halfEven (n d : Nat) : Nat := if d < 2 * (n % d) ∨ (2 * (n % d) = d ∧ n / d % 2 = 1) then n / d + 1 else n / d
/-- likewise, with a sign -/
def rounded (z : Int) (d : Nat) : Int := if z < 0 then -(halfEven z.natAbs d : Int) else (halfEven z.natAbs d : Int)
end Go.Proofs.YtfalllekhcocgaaDoor
