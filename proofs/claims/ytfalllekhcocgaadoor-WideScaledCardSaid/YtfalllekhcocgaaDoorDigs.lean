/-
  Sixteen digits as cells. Nothing here speaks of the program.
-/
import Derived.Test.YtfalllekhcocgaaDoorDigits
import Derived.Test.YtfalllekhcocgaaDoorWords
import Derived.Test.YtfalllekhcocgaaDoorSign
namespace Go.Proofs.YtfalllekhcocgaaDoor
open Go.RowKit

/-- the sixteen digits of a number, as cells -/
def digs (n : Nat) : Array Value := ((List.range 16).map fun i => Value.int .u64 (dg n i : Int)).toArray
theorem digs_size (n : Nat) : (digs n).size = 16 := by simp [digs]
theorem digs_get (n : Nat) {i : Nat} (h : i < 16) : (digs n)[i]? = some (.int .u64 (dg n i : Int)) := by
  simp [digs, h]
theorem digs_set (n : Nat) {j v : Nat} (hv : v < 4294967296) : (digs n).setIfInBounds j (.int .u64 (v : Int)) = digs (put n j v) := by
  apply Array.ext_getElem?
  intro i
  rw [Array.getElem?_setIfInBounds]
  rcases Nat.lt_or_ge i 16 with hi | hi
  · rw [digs_get _ hi, digs_get _ hi, dg_put hv]
    by_cases hj : j = i
    · subst hj
      rw [if_pos rfl, if_pos (by rw [digs_size]; exact hi), if_pos rfl]
    · rw [if_neg hj, if_neg (fun e => hj e.symm)]
  · have h1 : ∀ m, (digs m)[i]? = none := fun m => Array.getElem?_eq_none (by rw [digs_size]; exact hi)
    rw [h1, h1]
    by_cases hj : j = i
    · subst hj
      rw [if_pos rfl, if_neg (by rw [digs_size]; omega)]
    · rw [if_neg hj]
theorem digs_inj {m n : Nat} (hm : m < BP 16) (hn : n < BP 16) (h : digs m = digs n) : m = n := by
  apply dg_ext hm hn
  intro i hi
  have h1 := digs_get m hi
  rw [h, digs_get n hi] at h1
  simp only [Option.some.injEq, Value.int.injEq, true_and] at h1
  omega
/-- a number of digits, as the reference holds it -/
def DV (n : Nat) : Value := .agg (digs n)
/-- a number with a sign, as the reference holds it -/
def bigs (neg : Bool) (n : Nat) : Array Value := #[.bool neg] ++ digs n
def BigV (neg : Bool) (n : Nat) : Value := .agg (bigs neg n)
theorem bigs_size (neg : Bool) (n : Nat) : (bigs neg n).size = 17 := by simp [bigs, digs_size]
theorem bigs_get0 (neg : Bool) (n : Nat) : (bigs neg n)[0]? = some (.bool neg) := by unfold bigs; rw [Array.getElem?_append_left (by simp)]; rfl
theorem bigs_get (neg : Bool) (n : Nat) {i : Nat} (h : i < 16) : (bigs neg n)[i + 1]? = some (.int .u64 (dg n i : Int)) := by
  unfold bigs
  rw [Array.getElem?_append_right (by simp)]
  simpa using digs_get n h
theorem bigs_digs (neg : Bool) (n : Nat) : (bigs neg n).extract 1 17 = digs n := by
  apply Array.ext_getElem?
  intro i
  rcases Nat.lt_or_ge i 16 with hi | hi
  · rw [digs_get _ hi, Array.getElem?_extract, if_pos (by rw [bigs_size]; omega), Nat.add_comm, bigs_get _ _ hi]
  · rw [Array.getElem?_eq_none (by simp [bigs_size]; omega), Array.getElem?_eq_none (by rw [digs_size]; exact hi)]
theorem bigs_set (neg : Bool) (n : Nat) {j v : Nat} (hv : v < 4294967296) : (bigs neg n).setIfInBounds (j + 1) (.int .u64 (v : Int)) = bigs neg (put n j v) := by
  unfold bigs
  rw [← digs_set n hv]
  apply Array.ext_getElem?
  intro i
  rcases i with _ | i
  · simp
  · rw [Array.getElem?_setIfInBounds, Array.getElem?_append_right (by simp), Array.getElem?_append_right (by simp), Array.getElem?_setIfInBounds]
    simp [Nat.add_comm 1]

/-! ## What numbers of both kinds have to do with each other -/
/-- a number of two words, in digits of half a word -/
theorem dg_four (hi lo : Nat) (h1 : hi < 18446744073709551616) (h2 : lo < 18446744073709551616) :
    dg (hi * 18446744073709551616 + lo) 0 = lo % 4294967296 ∧ dg (hi * 18446744073709551616 + lo) 1 = lo / 4294967296 ∧ dg (hi * 18446744073709551616 + lo) 2 = hi % 4294967296 ∧ dg (hi * 18446744073709551616 + lo) 3 = hi / 4294967296 := by
  have b0 : BP 0 = 1 := rfl
  have b1 : BP 1 = 4294967296 := rfl
  have b2 : BP 2 = 18446744073709551616 := by decide
  have b3 : BP 3 = 79228162514264337593543950336 := by decide
  unfold dg
  rw [b0, b1, b2, b3]
  omega
theorem put_four (hi lo : Nat) (h1 : hi < 18446744073709551616) (h2 : lo < 18446744073709551616) :
    put (put (put (put 0 0 (lo % 4294967296)) 1 (lo / 4294967296)) 2 (hi % 4294967296)) 3 (hi / 4294967296) = hi * 18446744073709551616 + lo := by
  have b0 : BP 0 = 1 := rfl
  have b1 : BP 1 = 4294967296 := rfl
  have b2 : BP 2 = 18446744073709551616 := by decide
  have b3 : BP 3 = 79228162514264337593543950336 := by decide
  have z : ∀ n j v, dg n j = 0 → put n j v = n + v * BP j := fun n j v h => by unfold put; rw [h]; omega
  have b4 : BP 4 = 340282366920938463463374607431768211456 := by decide
  rw [z 0 0 _ (dg_zero 0), b0, Nat.zero_add, Nat.mul_one, z _ 1 _ (dg_high (by rw [b1]; omega)), b1, z _ 2 _ (dg_high (by rw [b2]; omega)), b2, z _ 3 _ (dg_high (by rw [b3]; omega)), b3]
  omega
end Go.Proofs.YtfalllekhcocgaaDoor
