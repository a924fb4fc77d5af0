/-
  MbM · TyC · TyT · MbE
-/
import Derived.Test.YtnebloeideodmaaND03
import Derived.Test.YtnebloeideodmaaND04
import Derived.Test.YtnebloeideodmaaChecked
set_option linter.unusedSimpArgs false
set_option linter.unusedVariables false

namespace Go.Proofs.Ytnebloeideodmaa.Sep
open Go.RowKit
/-- is a set right? -/
def rs (s : Int) : Bool := decide (0 ≤ s ∧ s ≤ 254 ∧ s % 2 = 0)
/-- a number's bit, of its lowest eight -/
def bt (v : Int) (n : Nat) : Bool := (v % 256).toNat.testBit n
def may (s n : Int) : Bool := rs s && decide (1 ≤ n ∧ n ≤ 7)
def hs (s n : Int) : Bool := may s n && bt s n.toNat
/-! ## Bits of numbers of 64 bits -/
theorem toNat_i64 (s : Int) : (BitVec.ofInt 64 s).toNat = (s % 18446744073709551616).toNat := by rw [BitVec.toNat_ofInt]; rfl
theorem i64_zero {x : Nat} (h : x < 18446744073709551616) : IntKind.i64.wrap (x : Int) = 0 ↔ x = 0 := by
  have e : IntKind.i64.wrap (x : Int) = if (x : Int) % 18446744073709551616 ≥ 9223372036854775808 then (x : Int) % 18446744073709551616 - 18446744073709551616 else (x : Int) % 18446744073709551616 := by
    simp [IntKind.wrap, IntKind.signed, IntKind.bits]
  rw [e]
  split <;> omega
theorem testBit_gt {x i n : Nat} (h : x < 2 ^ n) (hi : n ≤ i) : x.testBit i = false := Nat.testBit_lt_two_pow (Nat.lt_of_lt_of_le h (Nat.pow_le_pow_right (by decide) hi))
theorem andn_mask {x : Nat} (hx : x < 18446744073709551616) : x &&& 18446744073709551361 = 0 ↔ x < 256 ∧ x % 2 = 0 := by
  have hM : ∀ i, i < 64 → (18446744073709551361).testBit i = decide (i = 0 ∨ 8 ≤ i) := by decide
  constructor
  · intro h
    have hb : ∀ i, (x.testBit i && (18446744073709551361).testBit i) = false := fun i => by rw [← Nat.testBit_and, h]; simp
    have h0 : x.testBit 0 = false := by have := hb 0; rw [hM 0 (by omega)] at this; simpa using this
    have h8 : ∀ i, 8 ≤ i → x.testBit i = false := fun i hi => by
      by_cases h64 : i < 64
      · have := hb i; rw [hM i h64] at this; simpa [hi] using this
      · exact testBit_gt (n := 64) (by omega) (by omega)
    refine ⟨Nat.lt_pow_two_of_testBit (n := 8) x h8, ?_⟩
    rw [Nat.testBit_eq_decide_div_mod_eq] at h0
    simp at h0
    omega
  · rintro ⟨h1, h2⟩
    refine Nat.eq_of_testBit_eq fun i => ?_
    rw [Nat.testBit_and, Nat.zero_testBit]
    by_cases h64 : i < 64
    · rw [hM i h64]
      by_cases h : i = 0
      · subst h
        rw [Nat.testBit_eq_decide_div_mod_eq]
        simp
        omega
      · by_cases h8 : 8 ≤ i
        · rw [testBit_gt (n := 8) (by omega) h8]; rfl
        · simp [h, h8]
    · rw [testBit_gt (n := 64) (by omega) (by omega)]; rfl
theorem andn_right {s : Int} (h1 : -9223372036854775808 ≤ s) (h2 : s ≤ 9223372036854775807) : decide (bits .andNot .i64 s 254 = 0) = rs s := by
  have hb : bits .andNot .i64 s 254 = IntKind.i64.wrap ((BitVec.ofInt 64 s &&& ~~~BitVec.ofInt 64 254).toNat : Int) := rfl
  have hc : (~~~BitVec.ofInt 64 254).toNat = 18446744073709551361 := by decide
  have hl : (s % 18446744073709551616).toNat &&& 18446744073709551361 < 18446744073709551616 := by
    have := @Nat.and_le_left (s % 18446744073709551616).toNat 18446744073709551361
    omega
  unfold rs
  rw [hb, BitVec.toNat_and, toNat_i64, hc, decide_eq_decide, i64_zero hl, andn_mask (by omega)]
  omega
end Go.Proofs.Ytnebloeideodmaa.Sep

namespace Go.Proofs.Ytnebloeideodmaa.Sep
open Go.RowKit
open Go.Proofs.Ytnebloeideodmaa.Mem (Dist Blk Chg below0)
theorem ty_p_rlog_ring_of_bursar_api_Entry : OneOf Try.prog 90 := oneOf Try.underlying90 rfl (by kernel_rfl)
theorem ty_s_api_Entry : OneOf Try.prog 34 := oneOf Try.underlying34 rfl (by kernel_rfl)
theorem ze_s_api_Entry : Zero Try.prog 34 #[.slice none 0 0] := zero_of (z := .slice none 0 0) (by kernel_rfl) rfl
theorem ty_s_uint8 : OneOf Try.prog 30 := oneOf Try.underlying30 rfl (by kernel_rfl)
theorem ty_api_Base : AggOf Try.prog 28 3 := aggOf Try.underlying28 rfl (by kernel_rfl)
theorem ze_api_Base : Zero Try.prog 28 #[.int .u64 0, .int .u64 0, .int .i64 0] := zero_of (z := .agg #[.int .u64 0, .int .u64 0, .int .i64 0]) (by kernel_rfl) rfl
theorem ty_api_Entry : AggOf Try.prog 32 5 := aggOf Try.underlying32 rfl (by kernel_rfl)
theorem ze_api_Entry : Zero Try.prog 32 #[.int .i64 0, .int .u64 0, .int .u64 0, .slice none 0 0, .int .i64 0] := zero_of (z := .agg #[.int .i64 0, .int .u64 0, .int .u64 0, .slice none 0 0, .int .i64 0]) (by kernel_rfl) rfl
theorem ty_int : OneOf Try.prog 3 := oneOf Try.underlying3 rfl (by kernel_rfl)
theorem ze_int : Zero Try.prog 3 #[.int .i64 0] := zero_of (z := .int .i64 0) (by kernel_rfl) rfl
theorem ty_uint64 : OneOf Try.prog 26 := oneOf Try.underlying26 rfl (by kernel_rfl)
theorem ze_uint64 : Zero Try.prog 26 #[.int .u64 0] := zero_of (z := .int .u64 0) (by kernel_rfl) rfl
theorem fd_api_Base_0 : FieldAt Try.prog 28 0 0 := fun g off w => by kernel_rfl
theorem fd_api_Base_1 : FieldAt Try.prog 28 1 1 := fun g off w => by kernel_rfl
theorem fd_api_Base_2 : FieldAt Try.prog 28 2 2 := fun g off w => by kernel_rfl
theorem fd_api_Entry_0 : FieldAt Try.prog 32 0 0 := fun g off w => by kernel_rfl
theorem fd_api_Entry_1 : FieldAt Try.prog 32 1 1 := fun g off w => by kernel_rfl
theorem fd_api_Entry_2 : FieldAt Try.prog 32 2 2 := fun g off w => by kernel_rfl
theorem fd_api_Entry_3 : FieldAt Try.prog 32 3 3 := fun g off w => by kernel_rfl
theorem fd_api_Entry_4 : FieldAt Try.prog 32 4 4 := fun g off w => by kernel_rfl
theorem fd_bursarlaw15_Step_0 : FieldAt Try.prog 51 0 0 := fun g off w => by kernel_rfl
theorem fd_bursarlaw15_Step_1 : FieldAt Try.prog 51 1 1 := fun g off w => by kernel_rfl
theorem fd_bursarlaw15_Step_2 : FieldAt Try.prog 51 2 2 := fun g off w => by kernel_rfl
theorem fd_bursarlaw15_Step_3 : FieldAt Try.prog 51 3 3 := fun g off w => by kernel_rfl
theorem fd_bursarlaw15_Step_4 : FieldAt Try.prog 51 4 4 := fun g off w => by kernel_rfl
theorem fd_bursarlaw15_Step_5 : FieldAt Try.prog 51 5 7 := fun g off w => by kernel_rfl
theorem fd_bursarlaw15_Step_6 : FieldAt Try.prog 51 6 8 := fun g off w => by kernel_rfl
theorem fd_bursarref15_Log_0 : FieldAt Try.prog 74 0 0 := fun g off w => by kernel_rfl
theorem fd_bursarref15_Log_1 : FieldAt Try.prog 74 1 3 := fun g off w => by kernel_rfl
theorem fd_rlog_Log_0 : FieldAt Try.prog 67 0 0 := fun g off w => by kernel_rfl
theorem fd_rlog_Log_1 : FieldAt Try.prog 67 1 3 := fun g off w => by kernel_rfl
theorem fd_rlog_ring_of_bursar_api_Entry_0 : FieldAt Try.prog 65 0 0 := fun g off w => by kernel_rfl
theorem fd_rlog_ring_of_bursar_api_Entry_1 : FieldAt Try.prog 65 1 1 := fun g off w => by kernel_rfl
theorem fd_rlog_ring_of_bursar_api_Entry_2 : FieldAt Try.prog 65 2 2 := fun g off w => by kernel_rfl
theorem sl_api_Entry : SliceT Try.prog 34 32 5 := sliceT_of (z := .agg #[.int .i64 0, .int .u64 0, .int .u64 0, .slice none 0 0, .int .i64 0]) Try.underlying34 (by kernel_rfl) rfl rfl (by decide)
theorem sl_uint8 : SliceT Try.prog 30 5 1 := sliceT_of (z := .int .u8 0) Try.underlying30 (by kernel_rfl) rfl rfl (by decide)
def flS : List ((Nat × Nat) × Nat) := [((28, 0), 0), ((28, 1), 1), ((28, 2), 2), ((32, 0), 0), ((32, 1), 1), ((32, 2), 2), ((32, 3), 3), ((32, 4), 4), ((51, 0), 0), ((51, 1), 1), ((51, 2), 2), ((51, 3), 3), ((51, 4), 4), ((51, 5), 7), ((51, 6), 8), ((74, 0), 0), ((74, 1), 3), ((67, 0), 0), ((67, 1), 3), ((65, 0), 0), ((65, 1), 1), ((65, 2), 2)]
theorem hflS : Flds Try.prog flS := flds_of ⟨fd_api_Base_0, fd_api_Base_1, fd_api_Base_2, fd_api_Entry_0, fd_api_Entry_1, fd_api_Entry_2, fd_api_Entry_3, fd_api_Entry_4, fd_bursarlaw15_Step_0, fd_bursarlaw15_Step_1, fd_bursarlaw15_Step_2, fd_bursarlaw15_Step_3, fd_bursarlaw15_Step_4, fd_bursarlaw15_Step_5, fd_bursarlaw15_Step_6, fd_bursarref15_Log_0, fd_bursarref15_Log_1, fd_rlog_Log_0, fd_rlog_Log_1, fd_rlog_ring_of_bursar_api_Entry_0, fd_rlog_ring_of_bursar_api_Entry_1, fd_rlog_ring_of_bursar_api_Entry_2, trivial⟩

theorem neB (b c : Bool) : NeAt Try.prog 4 (.bool b) (.bool c) (b != c) := fun x y w => by
  cases b <;> cases c <;> go_simp
theorem neB_same (b : Bool) : NeAt Try.prog 4 (.bool b) (.bool b) false := by
  have h := neB b b
  rwa [show (b != b) = false by simp] at h
theorem eqBase (a b c d e f : Int) : EqAt Try.prog 28 (.agg #[.int .u64 a, .int .u64 b, .int .i64 c]) (.agg #[.int .u64 d, .int .u64 e, .int .i64 f]) (a == d && (b == e && c == f)) := fun x y w => by
  go_simp
  by_cases h1 : a = d <;> by_cases h2 : b = e <;> by_cases h3 : c = f <;> simp [h1, h2, h3]
end Go.Proofs.Ytnebloeideodmaa.Sep

namespace Go.Proofs.Ytnebloeideodmaa.Sep
open Go.RowKit
open Go.Proofs.Ytnebloeideodmaa.Mem (Dist Blk Chg below0)
end Go.Proofs.Ytnebloeideodmaa.Sep

namespace Go.Proofs.Ytnebloeideodmaa.Sep
open Go.RowKit
open Go.Proofs.Ytnebloeideodmaa.Mem (Dist Blk Chg below0)
section
variable {P : Program} {Q : Exit → Act → World → Prop} {n : Nat} {B : Nat → Prop} {w0 w : World} {os : List Ass} {env : List (Nat × Value)} {o : Oper} {a : Act}
theorem exec_bits {op : BinOp} {T T' : TypeId} {x y : Operand} {k : IntKind} {p q r : Int} (hop : op = .and ∨ op = .or ∨ op = .andNot) (hr : bits op k p q = r) (ho : o.op = .binOp op T x y T') (hx : evs env x = some (.int k p)) (hy : evs env y = some (.int k q)) (hF : Fr n a env) : (execOp a.eval o).run P w = .ok (.value (.int k r)) w := by
  unfold execOp
  simp only [ho, hF.evs hx, hF.evs hy]
  rcases hop with rfl | rfl | rfl <;> simp [eqGuard, binOp, intBits_and, intBits_or, intBits_andNot, hr]
theorem exec_andnI {T T' : TypeId} {x y : Operand} {k : IntKind} {p q r : Int} (hr : bits .andNot k p q = r) (ho : o.op = .binOp .andNot T x y T') (hx : evs env x = some (.int k p)) (hy : evs env y = some (.int k q)) (hF : Fr n a env) : (execOp a.eval o).run P w = .ok (.value (.int k r)) w := exec_bits (.inr (.inr rfl)) hr ho hx hy hF
end
end Go.Proofs.Ytnebloeideodmaa.Sep
