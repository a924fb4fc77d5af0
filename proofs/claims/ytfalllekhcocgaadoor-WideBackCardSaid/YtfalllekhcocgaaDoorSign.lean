/-
  Numbers of two words, and the signs of what is xored and anded: plain arithmetic. Nothing here speaks of the program.
-/
import Derived.WalkKit
import Derived.WalkSpells
namespace Go.Proofs.YtfalllekhcocgaaDoor
open Go.RowKit

/-- a number that has a place in 128 bits -/
def Fits (x : Int) : Prop := -170141183460469231731687303715884105728 ≤ x ∧ x < 170141183460469231731687303715884105728
instance (x : Int) : Decidable (Fits x) := by unfold Fits; infer_instance
/-- as the program holds it -/
def WV (x : Int) : Value := .agg #[.int .i64 (x / 18446744073709551616), .int .u64 (x % 18446744073709551616)]
/-- how great a number is, as the program holds it -/
def UV (m : Int) : Value := .agg #[.int .u64 (m / 18446744073709551616), .int .u64 (m % 18446744073709551616)]
/-- a size that has a place -/
def Big (m : Int) : Prop := 0 ≤ m ∧ m < 340282366920938463463374607431768211456
/-- what a function answers of an exact number -/
def resV (z : Int) : Value := if Fits z then .tuple #[WV z, .int .i64 0] else .tuple #[WV 0, .int .i64 20]
theorem resV_fit {z : Int} (h : Fits z) : resV z = .tuple #[WV z, .int .i64 0] := if_pos h
theorem resV_over {z : Int} (h : ¬ Fits z) : resV z = .tuple #[WV 0, .int .i64 20] := if_neg h

theorem WV_words {hi lo : Int} (h0 : 0 ≤ lo) (h1 : lo < 18446744073709551616) : WV (hi * 18446744073709551616 + lo) = .agg #[.int .i64 hi, .int .u64 lo] := by
  unfold WV
  rw [show (hi * 18446744073709551616 + lo) / 18446744073709551616 = hi by omega, show (hi * 18446744073709551616 + lo) % 18446744073709551616 = lo by omega]
theorem UV_words {hi lo : Int} (h0 : 0 ≤ lo) (h1 : lo < 18446744073709551616) : UV (hi * 18446744073709551616 + lo) = .agg #[.int .u64 hi, .int .u64 lo] := by
  unfold UV
  rw [show (hi * 18446744073709551616 + lo) / 18446744073709551616 = hi by omega, show (hi * 18446744073709551616 + lo) % 18446744073709551616 = lo by omega]
theorem WV_inj {x y : Int} (h : WV x = WV y) : x = y := by
  unfold WV at h
  simp only [Value.agg.injEq, Array.mk.injEq, List.cons.injEq, Value.int.injEq, true_and, and_true] at h
  omega

/-! ## Signs -/
theorem ofInt_wrap (v : BitVec 64) : BitVec.ofInt 64 (IntKind.i64.wrap (v.toNat : Int)) = v := by
  apply BitVec.eq_of_toNat_eq
  have h := v.isLt
  rw [BitVec.toNat_ofInt, IntKind.wrap_i64]
  omega
theorem wrap_neg (v : BitVec 64) : IntKind.i64.wrap (v.toNat : Int) < 0 ↔ v.msb = true := by
  have h := v.isLt
  rw [BitVec.msb_eq_decide, IntKind.wrap_i64, decide_eq_true_iff]
  omega
theorem msb_of (a : Int) (h0 : -9223372036854775808 ≤ a) (h1 : a < 9223372036854775808) : (BitVec.ofInt 64 a).msb = decide (a < 0) := by
  rw [BitVec.msb_eq_decide, BitVec.toNat_ofInt]
  by_cases h : a < 0
  · rw [decide_eq_true h]
    apply decide_eq_true
    omega
  · rw [decide_eq_false h]
    apply decide_eq_false
    omega
theorem ofInt_xor (a b : Int) : BitVec.ofInt 64 (bits .xor .i64 a b) = BitVec.ofInt 64 a ^^^ BitVec.ofInt 64 b := ofInt_wrap _
/-- '(a ^ c) & (b ^ d) < 0' -/
theorem sign_two (a b c d : Int) (ha : -9223372036854775808 ≤ a ∧ a < 9223372036854775808) (hb : -9223372036854775808 ≤ b ∧ b < 9223372036854775808) (hc : -9223372036854775808 ≤ c ∧ c < 9223372036854775808) (hd : -9223372036854775808 ≤ d ∧ d < 9223372036854775808) :
    bits .and .i64 (bits .xor .i64 a c) (bits .xor .i64 b d) < 0 ↔ ((a < 0 ↔ ¬ c < 0) ∧ (b < 0 ↔ ¬ d < 0)) := by
  show IntKind.i64.wrap ((BitVec.ofInt 64 (bits .xor .i64 a c) &&& BitVec.ofInt 64 (bits .xor .i64 b d)).toNat : Int) < 0 ↔ _
  rw [wrap_neg, ofInt_xor, ofInt_xor, BitVec.msb_and, BitVec.msb_xor, BitVec.msb_xor, msb_of a ha.1 ha.2, msb_of b hb.1 hb.2, msb_of c hc.1 hc.2, msb_of d hd.1 hd.2]
  by_cases h1 : a < 0 <;> by_cases h2 : b < 0 <;> by_cases h3 : c < 0 <;> by_cases h4 : d < 0 <;> simp [h1, h2, h3, h4]
theorem or_pos (a b : Int) (ha : 0 ≤ a) (ha' : a < 18446744073709551616) (hb : 0 ≤ b) (hb' : b < 18446744073709551616) : 0 < bits .or .u64 a b ↔ ¬ (a = 0 ∧ b = 0) := by
  obtain ⟨a, rfl⟩ := Int.eq_ofNat_of_zero_le ha
  obtain ⟨b, rfl⟩ := Int.eq_ofNat_of_zero_le hb
  have hx : a ||| b < 2 ^ 64 := Nat.or_lt_two_pow (by omega) (by omega)
  have e : bits .or .u64 (a : Int) (b : Int) = ((a ||| b : Nat) : Int) := by
    show IntKind.u64.wrap ((BitVec.ofInt 64 (a : Int) ||| BitVec.ofInt 64 (b : Int)).toNat : Int) = _
    rw [BitVec.toNat_or, BitVec.ofInt_natCast, BitVec.ofInt_natCast, BitVec.toNat_ofNat, BitVec.toNat_ofNat, Nat.mod_eq_of_lt (by omega), Nat.mod_eq_of_lt (by omega)]
    simp [IntKind.wrap, IntKind.signed, IntKind.bits]
    omega
  rw [e]
  have h1 := @Nat.left_le_or a b
  have h2 := @Nat.right_le_or a b
  constructor
  · rintro h ⟨h3, h4⟩
    have h3 : a = 0 := by omega
    have h4 : b = 0 := by omega
    subst h3; subst h4
    simp at h
  · intro h
    have : a ≠ 0 ∨ b ≠ 0 := by omega
    omega
end Go.Proofs.YtfalllekhcocgaaDoor
