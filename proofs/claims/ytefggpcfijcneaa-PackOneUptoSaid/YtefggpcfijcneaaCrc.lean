/-
  The sum (CRC-32C), said plainly over bits; that one byte that is another gives another sum; how the model reckons a step.
-/
import Derived.Test.YtefggpcfijcneaaBits
namespace Go.Proofs.Ytefggpcfijcneaa
open Go.RowKit

def crcMask : BitVec 32 := 2197175160#32
/-- one bit -/
def crcBit (h : BitVec 32) : BitVec 32 := (h >>> 1) ^^^ (if h.getLsbD 0 then crcMask else 0#32)
def crcBits : Nat → BitVec 32 → BitVec 32
  | 0, h => h
  | n + 1, h => crcBit (crcBits n h)
/-- one byte -/
def crcByte (h : BitVec 32) (c : UInt8) : BitVec 32 := crcBits 8 (h ^^^ BitVec.ofNat 32 c.toNat)
def crcRun (h : BitVec 32) (l : List UInt8) : BitVec 32 := l.foldl crcByte h
def crcSum (l : List UInt8) : Nat := (~~~ crcRun (BitVec.allOnes 32) l).toNat

theorem crcBit_get (h : BitVec 32) (i : Nat) : (crcBit h).getLsbD i = (h.getLsbD (i + 1) ^^ (h.getLsbD 0 && crcMask.getLsbD i)) := by
  unfold crcBit
  rw [BitVec.getLsbD_xor, BitVec.getLsbD_ushiftRight, Nat.add_comm 1 i]
  cases h.getLsbD 0 <;> simp

theorem crcBit_inj {a b : BitVec 32} (h : crcBit a = crcBit b) : a = b := by
  have hi : ∀ i, (a.getLsbD (i + 1) ^^ (a.getLsbD 0 && crcMask.getLsbD i)) = (b.getLsbD (i + 1) ^^ (b.getLsbD 0 && crcMask.getLsbD i)) := fun i => by
    rw [← crcBit_get, ← crcBit_get, h]
  have h0 : a.getLsbD 0 = b.getLsbD 0 := by
    have := hi 31
    rw [BitVec.getLsbD_of_ge a 32 (Nat.le_refl _), BitVec.getLsbD_of_ge b 32 (Nat.le_refl _), show crcMask.getLsbD 31 = true by decide] at this
    simpa using this
  apply BitVec.eq_of_getLsbD_eq
  intro i _
  cases i with
  | zero => exact h0
  | succ i =>
    have := hi i
    rw [h0] at this
    simpa using this
theorem crcBits_inj {a b : BitVec 32} : ∀ n, crcBits n a = crcBits n b → a = b
  | 0, h => h
  | n + 1, h => crcBits_inj n (crcBit_inj h)
theorem crcByte_inj {a b : BitVec 32} {c : UInt8} (h : crcByte a c = crcByte b c) : a = b := by
  have := crcBits_inj 8 h
  exact (BitVec.xor_left_inj _).1 this
theorem crcByte_ne {a : BitVec 32} {c d : UInt8} (h : crcByte a c = crcByte a d) : c = d := by
  have h1 := (BitVec.xor_right_inj _).1 (crcBits_inj 8 h)
  have h2 := congrArg BitVec.toNat h1
  have hc := UInt8.toNat_lt c
  have hd := UInt8.toNat_lt d
  simp only [BitVec.toNat_ofNat] at h2
  apply UInt8.toNat_inj.1
  omega
theorem crcRun_inj : ∀ (l : List UInt8) {a b : BitVec 32}, crcRun a l = crcRun b l → a = b
  | [], _, _, h => h
  | _ :: l, _, _, h => crcByte_inj (crcRun_inj l h)

/-- one byte that is another one gives another sum -/
theorem crcSum_ne {l m : List UInt8} {c d : UInt8} (hne : c ≠ d) : crcSum (l ++ c :: m) ≠ crcSum (l ++ d :: m) := by
  intro h
  unfold crcSum at h
  have h1 := BitVec.eq_of_toNat_eq h
  have h2 : crcRun (BitVec.allOnes 32) (l ++ c :: m) = crcRun (BitVec.allOnes 32) (l ++ d :: m) := by
    have := congrArg (fun x => ~~~ x) h1
    simpa using this
  unfold crcRun at h2
  rw [List.foldl_append, List.foldl_append, List.foldl_cons, List.foldl_cons] at h2
  exact hne (crcByte_ne (crcRun_inj m h2))
theorem crcSum_lt (l : List UInt8) : crcSum l < 4294967296 := (~~~ crcRun (BitVec.allOnes 32) l).isLt

/-! ## the model's words -/
theorem ofInt_u32 (a : Nat) (ha : a < 4294967296) : BitVec.ofInt 32 (a : Int) = BitVec.ofNat 32 a := BitVec.ofInt_natCast ..
theorem u32_xor (a b : BitVec 32) : bits .xor .u32 (a.toNat : Int) (b.toNat : Int) = ((a ^^^ b).toNat : Int) := by
  show IntKind.u32.wrap ((BitVec.ofInt 32 (a.toNat : Int) ^^^ BitVec.ofInt 32 (b.toNat : Int)).toNat : Int) = _
  rw [BitVec.ofInt_natCast, BitVec.ofInt_natCast, BitVec.ofNat_toNat, BitVec.ofNat_toNat, BitVec.setWidth_eq, BitVec.setWidth_eq, IntKind.wrap_u32]
  have := (a ^^^ b).isLt
  omega
theorem u32_and_one (a : BitVec 32) : bits .and .u32 (a.toNat : Int) 1 = if a.getLsbD 0 then 1 else 0 := by
  show IntKind.u32.wrap ((BitVec.ofInt 32 (a.toNat : Int) &&& BitVec.ofInt 32 1).toNat : Int) = _
  have h1 : BitVec.ofInt 32 1 = 1#32 := by decide
  rw [BitVec.ofInt_natCast, BitVec.ofNat_toNat, BitVec.setWidth_eq, h1, BitVec.toNat_and, IntKind.wrap_u32]
  have e : a.toNat &&& (1#32).toNat = a.toNat % 2 := Nat.and_one_is_mod _
  rw [e]
  have e2 : a.getLsbD 0 = decide (a.toNat % 2 = 1) := by simp [BitVec.getLsbD, Nat.testBit_zero]
  rw [e2]
  by_cases h : a.toNat % 2 = 1
  · simp [h]
  · have : a.toNat % 2 = 0 := by omega
    simp [this]
/-- a step as the program's Sum reckons it -/
theorem u32_bit (a : BitVec 32) : bits .xor .u32 ((a.toNat : Int) / 2) (IntKind.u32.wrap (bits .and .u32 (a.toNat : Int) 1 * 2197175160)) = ((crcBit a).toNat : Int) := by
  have e1 : (a.toNat : Int) / (2 : Int) = ((a >>> 1).toNat : Int) := by
    rw [BitVec.toNat_ushiftRight, Nat.shiftRight_eq_div_pow]; omega
  have e2 : IntKind.u32.wrap (bits .and .u32 (a.toNat : Int) 1 * 2197175160) = ((if a.getLsbD 0 then crcMask else 0#32).toNat : Int) := by
    rw [u32_and_one, IntKind.wrap_u32]
    cases a.getLsbD 0
    · rfl
    · rfl
  rw [e1, e2, u32_xor]
  rfl
/-- a step as the reference reckons it, where the bit is set -/
theorem u32_odd (a : BitVec 32) (h : a.getLsbD 0 = true) : bits .xor .u32 ((a.toNat : Int) / 2) 2197175160 = ((crcBit a).toNat : Int) := by
  have := u32_bit a
  rw [u32_and_one, h] at this
  exact this
theorem u32_even (a : BitVec 32) (h : a.getLsbD 0 = false) : (a.toNat : Int) / 2 = ((crcBit a).toNat : Int) := by
  have e1 : (a.toNat : Int) / (2 : Int) = ((a >>> 1).toNat : Int) := by
    rw [BitVec.toNat_ushiftRight, Nat.shiftRight_eq_div_pow]; omega
  rw [e1]
  unfold crcBit
  rw [h]
  simp
theorem u32_in (a : BitVec 32) (c : UInt8) : bits .xor .u32 (a.toNat : Int) (c.toNat : Int) = ((a ^^^ BitVec.ofNat 32 c.toNat).toNat : Int) := by
  rw [← u32_xor]
  have := UInt8.toNat_lt c
  rw [BitVec.toNat_ofNat, Nat.mod_eq_of_lt (by omega)]
theorem u32_or_nat (a b : Nat) (ha : a < 4294967296) (hb : b < 4294967296) : bits .or .u32 (a : Int) (b : Int) = ((a ||| b : Nat) : Int) := by
  have hx : a ||| b < 2 ^ 32 := Nat.or_lt_two_pow (by omega) (by omega)
  show IntKind.u32.wrap ((BitVec.ofInt 32 (a : Int) ||| BitVec.ofInt 32 (b : Int)).toNat : Int) = _
  rw [BitVec.toNat_or, ofInt_u32 a ha, ofInt_u32 b hb, BitVec.toNat_ofNat, BitVec.toNat_ofNat, Nat.mod_eq_of_lt (by omega), Nat.mod_eq_of_lt (by omega), IntKind.wrap_u32]
  omega
theorem or_above (a b k : Nat) (ha : a < 2 ^ k) : a ||| b * 2 ^ k = a + b * 2 ^ k := by
  rw [Nat.or_comm, Nat.add_comm, ← Nat.shiftLeft_eq, Nat.shiftLeft_add_eq_or_of_lt ha]
/-- four bytes put together -/
theorem u32_four (x0 x1 x2 x3 : Nat) (h0 : x0 < 256) (h1 : x1 < 256) (h2 : x2 < 256) (h3 : x3 < 256) :
    bits .or .u32 (bits .or .u32 (bits .or .u32 (x0 : Int) ((x1 : Int) * 256)) ((x2 : Int) * 65536)) ((x3 : Int) * 16777216) = ((x0 + x1 * 256 + x2 * 65536 + x3 * 16777216 : Nat) : Int) := by
  have e1 : (x1 : Int) * 256 = ((x1 * 2 ^ 8 : Nat) : Int) := by omega
  have e2 : (x2 : Int) * 65536 = ((x2 * 2 ^ 16 : Nat) : Int) := by omega
  have e3 : (x3 : Int) * 16777216 = ((x3 * 2 ^ 24 : Nat) : Int) := by omega
  rw [e1, u32_or_nat _ _ (by omega) (by omega), or_above _ _ _ (by omega), e2, u32_or_nat _ _ (by omega) (by omega), or_above _ _ _ (by omega), e3, u32_or_nat _ _ (by omega) (by omega), or_above _ _ _ (by omega)]
theorem u32_not (r : BitVec 32) : bits .xor .u32 IntKind.u32.max (r.toNat : Int) = ((~~~ r).toNat : Int) := by
  have h : IntKind.u32.max = ((BitVec.allOnes 32).toNat : Int) := by decide
  rw [h, u32_xor, BitVec.allOnes_xor]
theorem u32_not' (r : BitVec 32) : bits .xor .u32 (r.toNat : Int) 4294967295 = ((~~~ r).toNat : Int) := by
  have h : (4294967295 : Int) = ((BitVec.allOnes 32).toNat : Int) := by decide
  rw [h, u32_xor, BitVec.xor_allOnes]
end Go.Proofs.Ytefggpcfijcneaa
