/-
  MbM · TyC · TyT · MbE
-/
import Derived.Test.YtnebloeideodmaaPD03
import Derived.Test.YtnebloeideodmaaPD04
import Derived.Test.YtnebloeideodmaaChecked
set_option linter.unusedSimpArgs false
set_option linter.unusedVariables false
namespace Go.Proofs.Ytnebloeideodmaa.Sep
open Go.RowKit
def rs (s : Int) : Bool := decide (0 ≤ s ∧ s ≤ 254 ∧ s % 2 = 0)
def bt (v : Int) (n : Nat) : Bool := (v % 256).toNat.testBit n
def Xb (s n : Int) : Bool := rs s && decide (1 ≤ n ∧ n ≤ 7)
def hs (s n : Int) : Bool := Xb s n && bt s n.toNat
theorem Px (s : Int) : (BitVec.ofInt 64 s).toNat = (s % 18446744073709551616).toNat := by rw [BitVec.toNat_ofInt]; rfl
theorem Ry {x : Nat} (h : x < 18446744073709551616) : IntKind.i64.wrap (x : Int) = 0 ↔ x = 0 := by
 have e : IntKind.i64.wrap (x : Int) = if (x : Int) % 18446744073709551616 ≥ 9223372036854775808 then (x : Int) % 18446744073709551616 - 18446744073709551616 else (x : Int) % 18446744073709551616 := by
  simp [IntKind.wrap, IntKind.signed, IntKind.bits]
 rw [e]
 split <;> omega
theorem GS {x i n : Nat} (h : x < 2 ^ n) (hi : n ≤ i) : x.testBit i = false := Nat.testBit_lt_two_pow (Nat.lt_of_lt_of_le h (Nat.pow_le_pow_right (by decide) hi))
theorem Py {x : Nat} (hx : x < 18446744073709551616) : x &&& 18446744073709551361 = 0 ↔ x < 256 ∧ x % 2 = 0 := by
  have hM : ∀ i, i < 64 → (18446744073709551361).testBit i = decide (i = 0 ∨ 8 ≤ i) := by decide
  constructor
  · intro h
    have hb : ∀ i, (x.testBit i && (18446744073709551361).testBit i) = false := fun i => by rw [← Nat.testBit_and, h]; simp
    have h0 : x.testBit 0 = false := by have := hb 0; rw [hM 0 (by omega)] at this; simpa using this
    have h8 : ∀ i, 8 ≤ i → x.testBit i = false := fun i hi => by
      by_cases h64 : i < 64
      · have := hb i; rw [hM i h64] at this; simpa [hi] using this
      · exact GS (n := 64) (by omega) (by omega)
    refine ⟨Nat.lt_pow_two_of_testBit (n := 8) x h8, ?_⟩
    rw [Nat.testBit_eq_decide_div_mod_eq] at h0
    simp at h0
    omega
  · rintro ⟨h1, h2⟩
    refine Nat.eq_of_testBit_eq fun i => ?_
    rw [Nat.testBit_and, Nat.zero_testBit]
    by_cases h64 : i < 64
    · rw [hM i h64]
      by_cases h : i = 0
      · subst h
        rw [Nat.testBit_eq_decide_div_mod_eq]
        simp
        omega
      · by_cases h8 : 8 ≤ i
        · rw [GS (n := 8) (by omega) h8]; rfl
        · simp [h, h8]
    · rw [GS (n := 64) (by omega) (by omega)]; rfl
theorem Nm {s : Int} (h1 : -9223372036854775808 ≤ s) (h2 : s ≤ 9223372036854775807) : decide (bits .andNot .i64 s 254 = 0) = rs s := by
 have hb : bits .andNot .i64 s 254 = IntKind.i64.wrap ((BitVec.ofInt 64 s &&& ~~~BitVec.ofInt 64 254).toNat : Int) := rfl
 have hc : (~~~BitVec.ofInt 64 254).toNat = 18446744073709551361 := by decide
 have hl : (s % 18446744073709551616).toNat &&& 18446744073709551361 < 18446744073709551616 := by
  have := @Nat.and_le_left (s % 18446744073709551616).toNat 18446744073709551361
  omega
 unfold rs
 rw [hb, BitVec.toNat_and, Px, hc, decide_eq_decide, Ry hl, Py (by omega)]
 omega
end Go.Proofs.Ytnebloeideodmaa.Sep
namespace Go.Proofs.Ytnebloeideodmaa.Sep
open Go.RowKit
open Go.Proofs.Ytnebloeideodmaa.Mem (AM BA Chg Aq)
theorem C5 : Fo Try.prog 90 := HR Try.underlying90 rfl (by kernel_rfl)
theorem Ap : Fo Try.prog 34 := HR Try.underlying34 rfl (by kernel_rfl)
theorem FS : J9 Try.prog 34 #[.slice none 0 0] := Gb (z := .slice none 0 0) (by kernel_rfl) rfl
theorem Cr : Fo Try.prog 30 := HR Try.underlying30 rfl (by kernel_rfl)
theorem Au : HQ Try.prog 28 3 := N0 Try.underlying28 rfl (by kernel_rfl)
theorem FT : J9 Try.prog 28 #[.int .u64 0, .int .u64 0, .int .i64 0] := Gb (z := .agg #[.int .u64 0, .int .u64 0, .int .i64 0]) (by kernel_rfl) rfl
theorem Cl : HQ Try.prog 32 5 := N0 Try.underlying32 rfl (by kernel_rfl)
theorem BK : J9 Try.prog 32 #[.int .i64 0, .int .u64 0, .int .u64 0, .slice none 0 0, .int .i64 0] := Gb (z := .agg #[.int .i64 0, .int .u64 0, .int .u64 0, .slice none 0 0, .int .i64 0]) (by kernel_rfl) rfl
theorem OG : Fo Try.prog 4 := HR Try.underlying4 rfl (by kernel_rfl)
theorem D9 : HQ Try.prog 51 9 := N0 Try.underlying51 rfl (by kernel_rfl)
theorem AB : Fo Try.prog 3 := HR Try.underlying3 rfl (by kernel_rfl)
theorem UJ : J9 Try.prog 3 #[.int .i64 0] := Gb (z := .int .i64 0) (by kernel_rfl) rfl
theorem Ai : Fo Try.prog 26 := HR Try.underlying26 rfl (by kernel_rfl)
theorem Pz : J9 Try.prog 26 #[.int .u64 0] := Gb (z := .int .u64 0) (by kernel_rfl) rfl
theorem Rz : Fo Try.prog 5 := HR Try.underlying5 rfl (by kernel_rfl)
theorem Jr : By Try.prog 28 0 0 := fun g off w => by kernel_rfl
theorem Js : By Try.prog 28 1 1 := fun g off w => by kernel_rfl
theorem Jt : By Try.prog 28 2 2 := fun g off w => by kernel_rfl
theorem Dl : By Try.prog 32 0 0 := fun g off w => by kernel_rfl
theorem BL : By Try.prog 32 1 1 := fun g off w => by kernel_rfl
theorem AX : By Try.prog 32 2 2 := fun g off w => by kernel_rfl
theorem B3 : By Try.prog 32 3 3 := fun g off w => by kernel_rfl
theorem Eq : By Try.prog 32 4 4 := fun g off w => by kernel_rfl
theorem Fx : By Try.prog 51 0 0 := fun g off w => by kernel_rfl
theorem Fy : By Try.prog 51 1 1 := fun g off w => by kernel_rfl
theorem Fz : By Try.prog 51 2 2 := fun g off w => by kernel_rfl
theorem FA : By Try.prog 51 3 3 := fun g off w => by kernel_rfl
theorem FB : By Try.prog 51 4 4 := fun g off w => by kernel_rfl
theorem FC : By Try.prog 51 5 7 := fun g off w => by kernel_rfl
theorem FD : By Try.prog 51 6 8 := fun g off w => by kernel_rfl
theorem FU : By Try.prog 74 0 0 := fun g off w => by kernel_rfl
theorem FV : By Try.prog 74 1 3 := fun g off w => by kernel_rfl
theorem Ju : By Try.prog 67 0 0 := fun g off w => by kernel_rfl
theorem Jv : By Try.prog 67 1 3 := fun g off w => by kernel_rfl
theorem C6 : By Try.prog 65 0 0 := fun g off w => by kernel_rfl
theorem C7 : By Try.prog 65 1 1 := fun g off w => by kernel_rfl
theorem C8 : By Try.prog 65 2 2 := fun g off w => by kernel_rfl
theorem Ak : SliceT Try.prog 34 32 5 := HF (z := .agg #[.int .i64 0, .int .u64 0, .int .u64 0, .slice none 0 0, .int .i64 0]) Try.underlying34 (by kernel_rfl) rfl rfl (by decide)
theorem Ea : SliceT Try.prog 53 51 9 := HF (z := .agg #[.int .i64 0, .int .u64 0, .int .u64 0, .slice none 0 0, .int .u64 0, .int .u64 0, .int .i64 0, .bool false, .int .i64 0]) Try.underlying53 (by kernel_rfl) rfl rfl (by decide)
theorem EX : SliceT Try.prog 30 5 1 := HF (z := .int .u8 0) Try.underlying30 (by kernel_rfl) rfl rfl (by decide)
def flS : List ((Nat × Nat) × Nat) := [((28, 0), 0), ((28, 1), 1), ((28, 2), 2), ((32, 0), 0), ((32, 1), 1), ((32, 2), 2), ((32, 3), 3), ((32, 4), 4), ((51, 0), 0), ((51, 1), 1), ((51, 2), 2), ((51, 3), 3), ((51, 4), 4), ((51, 5), 7), ((51, 6), 8), ((74, 0), 0), ((74, 1), 3), ((67, 0), 0), ((67, 1), 3), ((65, 0), 0), ((65, 1), 1), ((65, 2), 2)]
theorem Ab : O4 Try.prog flS := Kk ⟨Jr, Js, Jt, Dl, BL, AX, B3, Eq, Fx, Fy, Fz, FA, FB, FC, FD, FU, FV, Ju, Jv, C6, C7, C8, trivial⟩
theorem Xc (b c : Bool) : Qu Try.prog 4 (.bool b) (.bool c) (b == c) := fun x y w => by
 cases b <;> cases c <;> go_simp
theorem Xd (b c : Bool) : ST Try.prog 4 (.bool b) (.bool c) (b != c) := fun x y w => by
 cases b <;> cases c <;> go_simp
theorem Cm (b : Bool) : Qu Try.prog 4 (.bool b) (.bool b) true := by
 have h := Xc b b
 rwa [show (b == b) = true by simp] at h
theorem LZ (b : Bool) : ST Try.prog 4 (.bool b) (.bool b) false := by
 have h := Xd b b
 rwa [show (b != b) = false by simp] at h
theorem UK (a b c d e f : Int) : Qu Try.prog 28 (.agg #[.int .u64 a, .int .u64 b, .int .i64 c]) (.agg #[.int .u64 d, .int .u64 e, .int .i64 f]) (a == d && (b == e && c == f)) := fun x y w => by
 go_simp
 by_cases h1 : a = d <;> by_cases h2 : b = e <;> by_cases h3 : c = f <;> simp [h1, h2, h3]
end Go.Proofs.Ytnebloeideodmaa.Sep
namespace Go.Proofs.Ytnebloeideodmaa.Sep
open Go.RowKit
open Go.Proofs.Ytnebloeideodmaa.Mem (AM BA Chg Aq)
end Go.Proofs.Ytnebloeideodmaa.Sep
namespace Go.Proofs.Ytnebloeideodmaa.Sep
open Go.RowKit
open Go.Proofs.Ytnebloeideodmaa.Mem (AM BA Chg Aq)
section
variable {P : Program} {Q : Exit → Act → World → Prop} {n : Nat} {B : Nat → Prop} {w0 w : World} {os : List Ass} {env : List (Nat × Value)} {o : Oper} {a : Act}
theorem PA {op : BinOp} {T T' : TypeId} {x y : Operand} {k : IntKind} {p q r : Int} (hop : op = .and ∨ op = .or ∨ op = .andNot) (hr : bits op k p q = r) (ho : o.op = .binOp op T x y T') (hx : evs env x = some (.int k p)) (hy : evs env y = some (.int k q)) (hF : Fr n a env) : (execOp a.eval o).run P w = .ok (.value (.int k r)) w := by
 unfold execOp
 simp only [ho, hF.evs hx, hF.evs hy]
 rcases hop with rfl | rfl | rfl <;> simp [eqGuard, binOp, intBits_and, intBits_or, intBits_andNot, hr]
theorem Nn {T T' : TypeId} {x y : Operand} {k : IntKind} {p q r : Int} (hr : bits .andNot k p q = r) (ho : o.op = .binOp .andNot T x y T') (hx : evs env x = some (.int k p)) (hy : evs env y = some (.int k q)) (hF : Fr n a env) : (execOp a.eval o).run P w = .ok (.value (.int k r)) w := PA (.inr (.inr rfl)) hr ho hx hy hF
end
end Go.Proofs.Ytnebloeideodmaa.Sep
