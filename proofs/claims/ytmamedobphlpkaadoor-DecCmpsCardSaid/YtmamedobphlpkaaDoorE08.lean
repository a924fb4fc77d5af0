/-
  Digs · Bigs · ScaleW · Pick · ScaledAny
-/
import Derived.Test.YtmamedobphlpkaaDoorE01
import Derived.Test.YtmamedobphlpkaaDoorE07
set_option linter.unusedSimpArgs false
set_option linter.unusedVariables false

namespace Go.Proofs.YtmamedobphlpkaaDoor
open Go.RowKit

/-- the sixteen digits of a number, as cells -/
def digs (n : Nat) : Array Value := ((List.range 16).map fun i => Value.int .u64 (dg n i : Int)).toArray
theorem digs_size (n : Nat) : (digs n).size = 16 := by simp [digs]
theorem digs_get (n : Nat) {i : Nat} (h : i < 16) : (digs n)[i]? = some (.int .u64 (dg n i : Int)) := by
  simp [digs, h]
theorem digs_set (n : Nat) {j v : Nat} (hv : v < 4294967296) : (digs n).setIfInBounds j (.int .u64 (v : Int)) = digs (put n j v) := by
  apply Array.ext_getElem?
  intro i
  rw [Array.getElem?_setIfInBounds]
  rcases Nat.lt_or_ge i 16 with hi | hi
  · rw [digs_get _ hi, digs_get _ hi, dg_put hv]
    by_cases hj : j = i
    · subst hj
      rw [if_pos rfl, if_pos (by rw [digs_size]; exact hi), if_pos rfl]
    · rw [if_neg hj, if_neg (fun e => hj e.symm)]
  · have h1 : ∀ m, (digs m)[i]? = none := fun m => Array.getElem?_eq_none (by rw [digs_size]; exact hi)
    rw [h1, h1]
    by_cases hj : j = i
    · subst hj
      rw [if_pos rfl, if_neg (by rw [digs_size]; omega)]
    · rw [if_neg hj]
/-- a number of digits, as the reference holds it -/
def DV (n : Nat) : Value := .agg (digs n)
/-- a number with a sign, as the reference holds it -/
def bigs (neg : Bool) (n : Nat) : Array Value := #[.bool neg] ++ digs n
def BigV (neg : Bool) (n : Nat) : Value := .agg (bigs neg n)
theorem bigs_size (neg : Bool) (n : Nat) : (bigs neg n).size = 17 := by simp [bigs, digs_size]
theorem bigs_get0 (neg : Bool) (n : Nat) : (bigs neg n)[0]? = some (.bool neg) := by unfold bigs; rw [Array.getElem?_append_left (by simp)]; rfl
theorem bigs_get (neg : Bool) (n : Nat) {i : Nat} (h : i < 16) : (bigs neg n)[i + 1]? = some (.int .u64 (dg n i : Int)) := by
  unfold bigs
  rw [Array.getElem?_append_right (by simp)]
  simpa using digs_get n h
theorem bigs_set (neg : Bool) (n : Nat) {j v : Nat} (hv : v < 4294967296) : (bigs neg n).setIfInBounds (j + 1) (.int .u64 (v : Int)) = bigs neg (put n j v) := by
  unfold bigs
  rw [← digs_set n hv]
  apply Array.ext_getElem?
  intro i
  rcases i with _ | i
  · simp
  · rw [Array.getElem?_setIfInBounds, Array.getElem?_append_right (by simp), Array.getElem?_append_right (by simp), Array.getElem?_setIfInBounds]
    simp [Nat.add_comm 1]

/-! ## What numbers of both kinds have to do with each other -/
/-- a number of two words, in digits of half a word -/
theorem dg_four (hi lo : Nat) (h1 : hi < 18446744073709551616) (h2 : lo < 18446744073709551616) :
    dg (hi * 18446744073709551616 + lo) 0 = lo % 4294967296 ∧ dg (hi * 18446744073709551616 + lo) 1 = lo / 4294967296 ∧ dg (hi * 18446744073709551616 + lo) 2 = hi % 4294967296 ∧ dg (hi * 18446744073709551616 + lo) 3 = hi / 4294967296 := by
  have b0 : BP 0 = 1 := rfl
  have b1 : BP 1 = 4294967296 := rfl
  have b2 : BP 2 = 18446744073709551616 := by decide
  have b3 : BP 3 = 79228162514264337593543950336 := by decide
  unfold dg
  rw [b0, b1, b2, b3]
  omega
theorem put_four (hi lo : Nat) (h1 : hi < 18446744073709551616) (h2 : lo < 18446744073709551616) :
    put (put (put (put 0 0 (lo % 4294967296)) 1 (lo / 4294967296)) 2 (hi % 4294967296)) 3 (hi / 4294967296) = hi * 18446744073709551616 + lo := by
  have b0 : BP 0 = 1 := rfl
  have b1 : BP 1 = 4294967296 := rfl
  have b2 : BP 2 = 18446744073709551616 := by decide
  have b3 : BP 3 = 79228162514264337593543950336 := by decide
  have z : ∀ n j v, dg n j = 0 → put n j v = n + v * BP j := fun n j v h => by unfold put; rw [h]; omega
  have b4 : BP 4 = 340282366920938463463374607431768211456 := by decide
  rw [z 0 0 _ (dg_zero 0), b0, Nat.zero_add, Nat.mul_one, z _ 1 _ (dg_high (by rw [b1]; omega)), b1, z _ 2 _ (dg_high (by rw [b2]; omega)), b2, z _ 3 _ (dg_high (by rw [b3]; omega)), b3]
  omega
end Go.Proofs.YtmamedobphlpkaaDoor

namespace Go.Proofs.YtmamedobphlpkaaDoor
open Go.RowKit

/-- a number, as the reference holds it -/
def BigZ (z : Int) : Value := BigV (decide (z < 0)) z.natAbs

/-! ## Sums of numbers with signs -/
theorem sum_same {x y : Int} (h : decide (x < 0) = decide (y < 0)) : BigV (decide (x < 0)) (x.natAbs + y.natAbs) = BigZ (x + y) := by
  have h' : x < 0 ↔ y < 0 := by simpa using h
  unfold BigZ
  rw [show (x + y).natAbs = x.natAbs + y.natAbs by omega, show decide (x + y < 0) = decide (x < 0) by rw [decide_eq_decide]; omega]
theorem sum_less {x y : Int} (h : decide (x < 0) ≠ decide (y < 0)) (hl : x.natAbs < y.natAbs) : BigV (decide (y < 0)) (y.natAbs - x.natAbs) = BigZ (x + y) := by
  have h' : ¬ (x < 0 ↔ y < 0) := by simpa using h
  unfold BigZ
  rw [show (x + y).natAbs = y.natAbs - x.natAbs by omega, show decide (x + y < 0) = decide (y < 0) by rw [decide_eq_decide]; omega]
theorem sum_more {x y : Int} (h : decide (x < 0) ≠ decide (y < 0)) (hl : y.natAbs ≤ x.natAbs) : BigV (decide (x < 0) && !decide (x.natAbs - y.natAbs = 0)) (x.natAbs - y.natAbs) = BigZ (x + y) := by
  have h' : ¬ (x < 0 ↔ y < 0) := by simpa using h
  unfold BigZ
  rw [show (x + y).natAbs = x.natAbs - y.natAbs by omega]
  congr 1
  by_cases h1 : x < 0 <;> by_cases h2 : x.natAbs - y.natAbs = 0 <;> simp [h1, h2] <;> omega
theorem minus_z (x : Int) : BigV (!decide (x < 0) && !decide (x.natAbs = 0)) x.natAbs = BigZ (-x) := by
  unfold BigZ
  rw [Int.natAbs_neg]
  congr 1
  by_cases h1 : x < 0
  · have h2 : x.natAbs ≠ 0 := by omega
    have h3 : ¬ -x < 0 := by omega
    simp [h1, h3]; omega
  · by_cases h2 : x.natAbs = 0
    · have h3 : ¬ -x < 0 := by omega
      rw [decide_eq_false h1, decide_eq_true h2, decide_eq_false h3]; rfl
    · have h3 : -x < 0 := by omega
      rw [decide_eq_false h1, decide_eq_false h2, decide_eq_true h3]; rfl
theorem times_z (x y : Int) : BigV ((decide (x < 0) != decide (y < 0)) && !decide (x.natAbs * y.natAbs = 0)) (x.natAbs * y.natAbs) = BigZ (x * y) := by
  unfold BigZ
  rw [Int.natAbs_mul]
  congr 1
  rcases Int.lt_trichotomy x 0 with hx | hx | hx <;> rcases Int.lt_trichotomy y 0 with hy | hy | hy
  · have h := Int.mul_pos_of_neg_of_neg hx hy
    simp [hx, hy]; omega
  · subst hy; simp
  · have h := Int.mul_neg_of_neg_of_pos hx hy
    have h2 : ¬ y < 0 := by omega
    have : x.natAbs * y.natAbs ≠ 0 := by rw [← Int.natAbs_mul]; omega
    simp [hx, h2, h, this]
  · subst hx; simp
  · subst hx; simp
  · subst hx; simp
  · have h := Int.mul_neg_of_pos_of_neg hx hy
    have h2 : ¬ x < 0 := by omega
    have : x.natAbs * y.natAbs ≠ 0 := by rw [← Int.natAbs_mul]; omega
    simp [hy, h2, h, this]
  · subst hy; simp
  · have h := Int.mul_pos hx hy
    have h2 : ¬ x < 0 := by omega
    have h3 : ¬ y < 0 := by omega
    simp [h2, h3]; omega

/-! ## Half-even -/
/-- a quotient, rounded half-even -/
def halfEven (n d : Nat) : Nat := if d < 2 * (n % d) ∨ (2 * (n % d) = d ∧ n / d % 2 = 1) then n / d + 1 else n / d
/-- likewise, with a sign -/
def rounded (z : Int) (d : Nat) : Int := if z < 0 then -(halfEven z.natAbs d : Int) else (halfEven z.natAbs d : Int)
end Go.Proofs.YtmamedobphlpkaaDoor

namespace Go.Proofs.YtmamedobphlpkaaDoor
open Go.RowKit

/-- a number doubled, in two words -/
theorem doubled {h l : Int} (hh : 0 ≤ h ∧ h < 9223372036854775808) (hl : 0 ≤ l ∧ l < 18446744073709551616) :
    bits .or .u64 (IntKind.u64.wrap (h * 2)) (l / 9223372036854775808) = h * 2 + l / 9223372036854775808 ∧ IntKind.u64.wrap (l * 2) = l * 2 - l / 9223372036854775808 * 18446744073709551616 := by
  refine ⟨?_, by rw [IntKind.wrap_u64]; omega⟩
  have e1 : IntKind.u64.wrap (h * 2) = h * 2 := by rw [IntKind.wrap_u64]; omega
  rw [e1]
  obtain ⟨h, rfl⟩ := Int.eq_ofNat_of_zero_le hh.1
  obtain ⟨b, hb⟩ : ∃ b : Nat, l / 9223372036854775808 = (b : Int) := ⟨(l / 9223372036854775808).toNat, by omega⟩
  have hb1 : b < 2 := by omega
  rw [hb]
  have e : h * 2 ||| b = h * 2 + b := by
    have := Nat.two_pow_add_eq_or_of_lt (i := 1) (b := b) (by omega) h
    rw [Nat.pow_one, Nat.mul_comm] at this
    exact this.symm
  show IntKind.u64.wrap ((BitVec.ofInt 64 ((h : Int) * 2) ||| BitVec.ofInt 64 (b : Int)).toNat : Int) = _
  rw [show ((h : Int) * 2) = ((h * 2 : Nat) : Int) by omega, BitVec.toNat_or, BitVec.ofInt_natCast, BitVec.ofInt_natCast, BitVec.toNat_ofNat, BitVec.toNat_ofNat, Nat.mod_eq_of_lt (by omega), Nat.mod_eq_of_lt (by omega), e, IntKind.wrap_u64]
  omega
theorem low_bit {l : Int} (hl : 0 ≤ l ∧ l < 18446744073709551616) : bits .and .u64 l 1 = l % 2 := by
  obtain ⟨l, rfl⟩ := Int.eq_ofNat_of_zero_le hl.1
  show IntKind.u64.wrap ((BitVec.ofInt 64 (l : Int) &&& BitVec.ofInt 64 1).toNat : Int) = _
  rw [show (1 : Int) = ((1 : Nat) : Int) from rfl, BitVec.toNat_and, BitVec.ofInt_natCast, BitVec.ofInt_natCast, BitVec.toNat_ofNat, BitVec.toNat_ofNat, Nat.mod_eq_of_lt (by omega), Nat.mod_eq_of_lt (by decide), Nat.and_one_is_mod, IntKind.wrap_u64]
  omega
/-- two cuts are one -/
theorem two_cuts {N f s n1 r n2 t : Int} (hf : 0 < f) (hr : 0 ≤ r ∧ r < f) (ht : 0 ≤ t ∧ t < s) (h1 : f * n1 + r = N) (h2 : s * n2 + t = n1) :
    N / (f * s) = n2 ∧ N % (f * s) = t * f + r ∧ 0 ≤ t * f + r ∧ t * f + r < f * s := by
  have hs : 0 < s := by omega
  have hfs : 0 < f * s := Int.mul_pos hf hs
  have h3 : t * f + r < f * s := by
    have := Int.mul_le_mul_of_nonneg_right (show t + 1 ≤ s by omega) (show 0 ≤ f by omega)
    rw [Int.add_mul, Int.one_mul, Int.mul_comm s] at this
    omega
  have h4 : 0 ≤ t * f := Int.mul_nonneg ht.1 (by omega)
  have h5 : N = (t * f + r) + f * s * n2 := by
    rw [← h1, ← h2, Int.mul_add, Int.mul_assoc, Int.mul_comm f t]
    omega
  refine ⟨?_, ?_, by omega, h3⟩
  · rw [h5, Int.add_mul_ediv_left _ _ (by omega), Int.ediv_eq_zero_of_lt (by omega) h3]
    omega
  · rw [h5, Int.add_mul_emod_self_left, Int.emod_eq_of_lt (by omega) h3]
/-- half-even, of integers -/
def hE (N d : Int) : Int := if d < 2 * (N % d) ∨ (2 * (N % d) = d ∧ N / d % 2 = 1) then N / d + 1 else N / d
theorem hE_nat (n d : Nat) : hE (n : Int) (d : Int) = (halfEven n d : Int) := by
  unfold hE halfEven
  rw [← Int.natCast_ediv, ← Int.natCast_emod]
  by_cases h : d < 2 * (n % d) ∨ 2 * (n % d) = d ∧ n / d % 2 = 1
  · rw [if_pos h, if_pos (by omega)]; omega
  · rw [if_neg h, if_neg (by omega)]

set_option maxRecDepth 100000 in
set_option maxHeartbeats 4000000 in
theorem scale_lo (w : World) (g : Nat) (a b c e : Int) (k : Nat) (hk : k ≤ 18) (ha : 0 ≤ a ∧ a < 18446744073709551616) (hb : 0 ≤ b ∧ b < 18446744073709551616) (hc : 0 ≤ c ∧ c < 18446744073709551616) (he : 0 ≤ e ∧ e < 18446744073709551616) (hR : Row w g 82 #[.int .u64 a, .int .u64 b, .int .u64 c, .int .u64 e]) :
    Calls Tryd.prog 69 #[.pointer (some ⟨g, 0, none⟩), .int .i64 (k : Int)] w fun x w' =>
      x = .returned (.tuple #[]) ∧ (∃ s0 s1 s2 s3 : Int, Row w' g 82 #[.int .u64 s0, .int .u64 s1, .int .u64 s2, .int .u64 s3] ∧ (0 ≤ s0 ∧ s0 < 18446744073709551616) ∧ (0 ≤ s1 ∧ s1 < 18446744073709551616) ∧ (0 ≤ s2 ∧ s2 < 18446744073709551616) ∧ (0 ≤ s3 ∧ s3 < 18446744073709551616) ∧ s0 + s1 * 18446744073709551616 + s2 * 340282366920938463463374607431768211456 + s3 * 6277101735386680763835789423207666416102355444464034512896 = hE (a + b * 18446744073709551616 + c * 340282366920938463463374607431768211456 + e * 6277101735386680763835789423207666416102355444464034512896) ((10 ^ k : Nat) : Int)) ∧ Mod (One g) w w' := by
  have T1 := fun w => ten_any w k (by omega)
  have T0 := fun w => ten_any w 0 (by omega)
  have f1 : (0 : Int) < ((10 ^ k : Nat) : Int) := by have := Nat.pow_pos (n := k) (show 0 < 10 by decide); omega
  have f2 : ((10 ^ k : Nat) : Int) ≤ 1000000000000000000 := by have := Nat.pow_le_pow_right (show 0 < 10 by decide) (show k ≤ 18 by omega); omega
  have s1 : (0 : Int) < ((10 ^ 0 : Nat) : Int) := by have := Nat.pow_pos (n := 0) (show 0 < 10 by decide); omega
  have s2 : ((10 ^ 0 : Nat) : Int) ≤ 1000000000000000000 := by have := Nat.pow_le_pow_right (show 0 < 10 by decide) (show 0 ≤ 18 by omega); omega
  obtain ⟨d, hd⟩ : ∃ d, d = ((10 ^ k : Nat) : Int) := ⟨_, rfl⟩
  rw [← hd]
  have hfs : d = ((10 ^ k : Nat) : Int) * ((10 ^ 0 : Nat) : Int) := by
    rw [hd, ← Int.natCast_mul, ← Nat.pow_add]
    have hij : k + 0 = k := by omega
    rw [hij]
  clear hd
  obtain ⟨f, hf⟩ : ∃ f, f = ((10 ^ k : Nat) : Int) := ⟨_, rfl⟩
  obtain ⟨s, hs⟩ : ∃ s, s = ((10 ^ 0 : Nat) : Int) := ⟨_, rfl⟩
  rw [← hf] at T1 f1 f2 hfs
  rw [← hs] at T0 s1 s2 hfs
  obtain ⟨N, hN⟩ : ∃ N, N = a + b * 18446744073709551616 + c * 340282366920938463463374607431768211456 + e * 6277101735386680763835789423207666416102355444464034512896 := ⟨_, rfl⟩
  rw [← hN]
  have hN4 : 0 ≤ N ∧ N < 115792089237316195423570985008687907853269984665640564039457584007913129639936 := by omega
  have C1 := fun w h => cut_words w g a b c e f ha hb hc he ⟨f1, by omega⟩ h
  rw [← hN] at C1
  have w1 : IntKind.i64.wrap ((k : Int) - (k : Int)) = 0 := by rw [IntKind.wrap_i64]; omega
  have w2 : (k : Int) ≤ 18 := by omega
  have T1 := hid T1
  have T0 := hid T0
  have C1 := hid C1
  have F1 := hid f1
  have F2 := hid f2
  have S1 := hid s1
  have S2 := hid s2
  have HN4 := hid hN4
  have HFS := hid hfs
  clear f1 f2 s1 s2 hfs hf hs hN hN4 ha hb hc he
  go_enter Tryd.func69, Tryd.ntmps69
  go_wp2_with fail
  refine Calls.mono (T1.out _) ?_; rintro x w1 ⟨rfl, hb1⟩
  go_wp2_with fail
  refine Calls.mono (T0.out _) ?_; rintro x w2 ⟨rfl, hb2⟩
  have hR2 := (hR.below hb1 hR.lt).below hb2 (hR.below hb1 hR.lt).lt
  have hM2 := (Mod.of_below hb1 (One g)).same (Mod.of_below hb2 (One g))
  clear hb1 hb2 hR
  go_wp2_with fail
  refine Calls.mono (C1.out _ hR2) ?_; rintro x w3 ⟨q0, q1, q2, q3, r, rfl, hR3, hm3, hr, h0, h1, h2, h3, hv1⟩
  have C2 := fun w h => cut_words w g q0 q1 q2 q3 s h0 h1 h2 h3 ⟨S1.out, by have := S2.out; omega⟩ h
  replace C2 := hid C2
  replace hM2 := hM2.same hm3
  have V1 := hid (And.intro hr hv1)
  clear hR2 hm3 hr h0 h1 h2 h3 hv1
  go_wp2_with fail
  refine Calls.mono (C2.out _ hR3) ?_; rintro x w4 ⟨p0, p1, p2, p3, t, rfl, hR4, hm4, ht, g0, g1, g2, g3, hv2⟩
  have hM4 := hM2.same hm4
  clear hR3 hm4 hM2
  have tc := two_cuts F1.out V1.out.1 ht V1.out.2 hv2
  rw [← HFS.out] at tc
  have hd36 : d ≤ 1000000000000000000000000000000000000 := by
    rw [HFS.out]
    exact Int.mul_le_mul F2.out S2.out (Int.le_of_lt S1.out) (by decide)
  have htf : t * f ≤ t * f + r := by have := V1.out.1.1; omega
  have htf0 : 0 ≤ t * f := Int.mul_nonneg ht.1 (Int.le_of_lt F1.out)
  have m1 := fun w => mul64 t f ⟨ht.1, by have := S2.out; omega⟩ ⟨Int.le_of_lt F1.out, by have := F2.out; omega⟩ w
  have m2 := fun w => mul64 f s ⟨Int.le_of_lt F1.out, by have := F2.out; omega⟩ ⟨Int.le_of_lt S1.out, by have := S2.out; omega⟩ w
  rw [← HFS.out] at m2
  have hrr := V1.out.1
  have hff := F2.out
  obtain ⟨P, hP⟩ : ∃ P, P = t * f := ⟨_, rfl⟩
  rw [← hP] at tc htf htf0 m1
  obtain ⟨mh, hmh⟩ : ∃ x, x = P / 18446744073709551616 := ⟨_, rfl⟩
  obtain ⟨ml, hml⟩ : ∃ x, x = P % 18446744073709551616 := ⟨_, rfl⟩
  rw [← hmh, ← hml] at m1
  have A1 := fun w => add64 ml r 0 (by omega) hrr.1 (Int.le_refl 0) (by decide) w
  rw [Int.add_zero] at A1
  obtain ⟨l, hl⟩ : ∃ x, x = (ml + r) % 18446744073709551616 := ⟨_, rfl⟩
  obtain ⟨cy, hcy⟩ : ∃ x, x = (ml + r) / 18446744073709551616 := ⟨_, rfl⟩
  rw [← hl, ← hcy] at A1
  obtain ⟨h, hh⟩ : ∃ x, x = mh + cy := ⟨_, rfl⟩
  have wh : IntKind.u64.wrap (mh + cy) = h := by rw [IntKind.wrap_u64]; omega
  have hR0 : h * 18446744073709551616 + l = P + r := by omega
  have hlb : 0 ≤ l ∧ l < 18446744073709551616 := by omega
  have hhb : 0 ≤ h ∧ h < 9223372036854775808 := by omega
  have db := doubled hhb hlb
  obtain ⟨h2, hh2⟩ : ∃ x, x = h * 2 + l / 9223372036854775808 := ⟨_, rfl⟩
  obtain ⟨l2, hl2⟩ : ∃ x, x = l * 2 - l / 9223372036854775808 * 18446744073709551616 := ⟨_, rfl⟩
  rw [← hh2, ← hl2] at db
  obtain ⟨db1, db2⟩ := db
  have hdd : h2 * 18446744073709551616 + l2 = 2 * (P + r) := by omega
  obtain ⟨dh, hdh⟩ : ∃ x, x = d / 18446744073709551616 := ⟨_, rfl⟩
  obtain ⟨dl, hdl⟩ : ∃ x, x = d % 18446744073709551616 := ⟨_, rfl⟩
  rw [← hdh, ← hdl] at m2
  have hdpos : 0 < d := by omega
  have K := fun w => compare_any w (2 * (P + r)) d (by unfold Big; omega) (by unfold Big; omega)
  rw [← hdd, UV_words (by omega) (by omega), show UV d = .agg #[.int .u64 dh, .int .u64 dl] by rw [hdh, hdl]; rfl] at K
  obtain ⟨N2, hN2⟩ : ∃ N2, N2 = p0 + p1 * 18446744073709551616 + p2 * 340282366920938463463374607431768211456 + p3 * 6277101735386680763835789423207666416102355444464034512896 := ⟨_, rfl⟩
  rw [← hN2] at tc hv2
  have hx2 : bits .and .u64 p0 1 = p0 % 2 := low_bit g0
  have hmod2 : N2 % 2 = p0 % 2 := by omega
  have hNd : d * N2 + (P + r) = N := by have h5 := Int.emod_add_mul_ediv N d; rw [tc.1, tc.2.1] at h5; omega
  have hN20 : 0 ≤ N2 := by omega
  have hNN := HN4.out
  rw [hdd] at K
  have AD := fun w n (hn : 0 ≤ n ∧ n < 18446744073709551616) hf h => add_to_words w g p0 p1 p2 p3 n g0 g1 g2 g3 hn hf h
  rw [← hN2] at AD
  have hbig : 2 ≤ d → N2 + 1 < 115792089237316195423570985008687907853269984665640564039457584007913129639936 := fun h => by have := Int.mul_le_mul_of_nonneg_right h hN20; omega
  have m1 := hid m1
  have m2 := hid m2
  have AD := hid AD
  have TC := hid tc
  have HB := hid hbig
  have HM2 := hid hmod2
  have HP0 := hid (And.intro g0 (And.intro g1 (And.intro g2 g3)))
  have HN2 := hid hN2
  have HX := hid hx2
  have DB1 := hid db1
  have A1 := hid A1
  rcases cmp3_cases (2 * (P + r)) d with ⟨hc, ec⟩ | ⟨hc, ec⟩ | ⟨hc, ec⟩
  · rw [ec] at K
    have K := hid K
    have HC := hid hc
    have a1 := A1.out
    have d1 := DB1.out
    have x1 := HX.out
    clear hP hmh hml hl hcy hh hR0 hlb hhb hh2 hl2 hdd hdh hdl hdpos hN2 hx2 hmod2 hNd hN20 hNN hbig tc htf htf0 hrr hff hd36 ht g0 g1 g2 g3 hv2 hc ec db1
    go_wp2_with fail
    refine Calls.mono (m1.out _) ?_; rintro x w5 ⟨rfl, rfl⟩
    go_wp2_with fail
    refine Calls.mono (m2.out _) ?_; rintro x w5 ⟨rfl, rfl⟩
    go_wp2_with fail
    refine Calls.mono (K.out _) ?_; rintro x w6 ⟨rfl, hb6⟩
    have hR5 := hR4.alloc (.cells #[.int .u64 h2, .int .u64 l2] 79)
    have hM5 := hM4.alloc (.cells #[.int .u64 h2, .int .u64 l2] 79)
    have hR6 := hR5.below hb6 hR5.lt
    have hM6 := hM5.same (Mod.of_below hb6 (One g))
    have y0 := hR6.cell 0
    simp at y0
    clear hR4 hR5 hM4 hM5 hb6 a1 d1
    go_wp2_with fail
    go_end0
    exact ⟨rfl, ⟨p0, p1, p2, p3, hR6, HP0.out.1, HP0.out.2.1, HP0.out.2.2.1, HP0.out.2.2.2, by
      have h1 := TC.out; have h2 := HC.out
      rw [← HN2.out]; unfold hE; rw [h1.1, h1.2.1, if_neg (by omega)]⟩, hM6⟩
  · rw [ec] at K
    have K := hid K
    have HC := hid hc
    have a1 := A1.out
    have d1 := DB1.out
    have x1 := HX.out
    clear hP hmh hml hl hcy hh hR0 hlb hhb hh2 hl2 hdd hdh hdl hdpos hN2 hx2 hmod2 hNd hN20 hNN hbig tc htf htf0 hrr hff hd36 ht g0 g1 g2 g3 hv2 hc ec db1
    go_wp2_with fail
    refine Calls.mono (m1.out _) ?_; rintro x w5 ⟨rfl, rfl⟩
    go_wp2_with fail
    refine Calls.mono (m2.out _) ?_; rintro x w5 ⟨rfl, rfl⟩
    go_wp2_with fail
    refine Calls.mono (K.out _) ?_; rintro x w6 ⟨rfl, hb6⟩
    have hR5 := hR4.alloc (.cells #[.int .u64 h2, .int .u64 l2] 79)
    have hM5 := hM4.alloc (.cells #[.int .u64 h2, .int .u64 l2] 79)
    have hR6 := hR5.below hb6 hR5.lt
    have hM6 := hM5.same (Mod.of_below hb6 (One g))
    have y0 := hR6.cell 0
    simp at y0
    clear hR4 hR5 hM4 hM5 hb6 a1 d1
    go_wp2_with fail
    refine Calls.mono (AD.out _ 1 (by have := HP0.out; omega) (by have h1 := TC.out; have h2 := HC.out; have h3 := HB.out (by omega); omega) hR6) ?_; rintro x w7 ⟨s0, s1, s2, s3, rfl, hR7, hm7, b0, b1, b2, b3, hv⟩
    go_wp2_with fail
    go_end0
    exact ⟨rfl, ⟨s0, s1, s2, s3, hR7, b0, b1, b2, b3, by
      have h1 := TC.out; have h2 := HC.out; have h3 := HM2.out
      rw [hv]; unfold hE; rw [h1.1, h1.2.1]
      rw [if_pos (.inl (by omega))]⟩, hM6.same hm7⟩
  · rw [ec] at K
    have K := hid K
    have HC := hid hc
    have a1 := A1.out
    have d1 := DB1.out
    have x1 := HX.out
    clear hP hmh hml hl hcy hh hR0 hlb hhb hh2 hl2 hdd hdh hdl hdpos hN2 hx2 hmod2 hNd hN20 hNN hbig tc htf htf0 hrr hff hd36 ht g0 g1 g2 g3 hv2 hc ec db1
    go_wp2_with fail
    refine Calls.mono (m1.out _) ?_; rintro x w5 ⟨rfl, rfl⟩
    go_wp2_with fail
    refine Calls.mono (m2.out _) ?_; rintro x w5 ⟨rfl, rfl⟩
    go_wp2_with fail
    refine Calls.mono (K.out _) ?_; rintro x w6 ⟨rfl, hb6⟩
    have hR5 := hR4.alloc (.cells #[.int .u64 h2, .int .u64 l2] 79)
    have hM5 := hM4.alloc (.cells #[.int .u64 h2, .int .u64 l2] 79)
    have hR6 := hR5.below hb6 hR5.lt
    have hM6 := hM5.same (Mod.of_below hb6 (One g))
    have y0 := hR6.cell 0
    simp at y0
    clear hR4 hR5 hM4 hM5 hb6 a1 d1
    go_wp2_with fail
    refine Calls.mono (AD.out _ (p0 % 2) (by have := HP0.out; omega) (by have h1 := TC.out; have h2 := HC.out; have h3 := HB.out (by omega); omega) hR6) ?_; rintro x w7 ⟨s0, s1, s2, s3, rfl, hR7, hm7, b0, b1, b2, b3, hv⟩
    go_wp2_with fail
    go_end0
    exact ⟨rfl, ⟨s0, s1, s2, s3, hR7, b0, b1, b2, b3, by
      have h1 := TC.out; have h2 := HC.out; have h3 := HM2.out
      rw [hv]; unfold hE; rw [h1.1, h1.2.1]
      by_cases hp : N2 % 2 = 1
      · rw [if_pos (.inr ⟨by omega, hp⟩)]; omega
      · rw [if_neg (by omega)]; omega⟩, hM6.same hm7⟩

set_option maxRecDepth 100000 in
set_option maxHeartbeats 4000000 in
theorem scale_hi (w : World) (g : Nat) (a b c e : Int) (k : Nat) (hk : 18 < k ∧ k ≤ 36) (ha : 0 ≤ a ∧ a < 18446744073709551616) (hb : 0 ≤ b ∧ b < 18446744073709551616) (hc : 0 ≤ c ∧ c < 18446744073709551616) (he : 0 ≤ e ∧ e < 18446744073709551616) (hR : Row w g 82 #[.int .u64 a, .int .u64 b, .int .u64 c, .int .u64 e]) :
    Calls Tryd.prog 69 #[.pointer (some ⟨g, 0, none⟩), .int .i64 (k : Int)] w fun x w' =>
      x = .returned (.tuple #[]) ∧ (∃ s0 s1 s2 s3 : Int, Row w' g 82 #[.int .u64 s0, .int .u64 s1, .int .u64 s2, .int .u64 s3] ∧ (0 ≤ s0 ∧ s0 < 18446744073709551616) ∧ (0 ≤ s1 ∧ s1 < 18446744073709551616) ∧ (0 ≤ s2 ∧ s2 < 18446744073709551616) ∧ (0 ≤ s3 ∧ s3 < 18446744073709551616) ∧ s0 + s1 * 18446744073709551616 + s2 * 340282366920938463463374607431768211456 + s3 * 6277101735386680763835789423207666416102355444464034512896 = hE (a + b * 18446744073709551616 + c * 340282366920938463463374607431768211456 + e * 6277101735386680763835789423207666416102355444464034512896) ((10 ^ k : Nat) : Int)) ∧ Mod (One g) w w' := by
  have T1 := fun w => ten_any w 18 (by omega)
  have T0 := fun w => ten_any w (k - 18) (by omega)
  have f1 : (0 : Int) < ((10 ^ 18 : Nat) : Int) := by have := Nat.pow_pos (n := 18) (show 0 < 10 by decide); omega
  have f2 : ((10 ^ 18 : Nat) : Int) ≤ 1000000000000000000 := by have := Nat.pow_le_pow_right (show 0 < 10 by decide) (show 18 ≤ 18 by omega); omega
  have s1 : (0 : Int) < ((10 ^ (k - 18) : Nat) : Int) := by have := Nat.pow_pos (n := (k - 18)) (show 0 < 10 by decide); omega
  have s2 : ((10 ^ (k - 18) : Nat) : Int) ≤ 1000000000000000000 := by have := Nat.pow_le_pow_right (show 0 < 10 by decide) (show (k - 18) ≤ 18 by omega); omega
  obtain ⟨d, hd⟩ : ∃ d, d = ((10 ^ k : Nat) : Int) := ⟨_, rfl⟩
  rw [← hd]
  have hfs : d = ((10 ^ 18 : Nat) : Int) * ((10 ^ (k - 18) : Nat) : Int) := by
    rw [hd, ← Int.natCast_mul, ← Nat.pow_add]
    have hij : 18 + (k - 18) = k := by omega
    rw [hij]
  clear hd
  obtain ⟨f, hf⟩ : ∃ f, f = ((10 ^ 18 : Nat) : Int) := ⟨_, rfl⟩
  obtain ⟨s, hs⟩ : ∃ s, s = ((10 ^ (k - 18) : Nat) : Int) := ⟨_, rfl⟩
  rw [← hf] at T1 f1 f2 hfs
  rw [← hs] at T0 s1 s2 hfs
  obtain ⟨N, hN⟩ : ∃ N, N = a + b * 18446744073709551616 + c * 340282366920938463463374607431768211456 + e * 6277101735386680763835789423207666416102355444464034512896 := ⟨_, rfl⟩
  rw [← hN]
  have hN4 : 0 ≤ N ∧ N < 115792089237316195423570985008687907853269984665640564039457584007913129639936 := by omega
  have C1 := fun w h => cut_words w g a b c e f ha hb hc he ⟨f1, by omega⟩ h
  rw [← hN] at C1
  have w1 : (k : Int) - 18 = ((k - 18 : Nat) : Int) := by omega
  have w2 : ¬ (k : Int) ≤ 18 := by omega
  have w3 : (18 : Int) < k := by omega
  have T1 := hid T1
  have T0 := hid T0
  have C1 := hid C1
  have F1 := hid f1
  have F2 := hid f2
  have S1 := hid s1
  have S2 := hid s2
  have HN4 := hid hN4
  have HFS := hid hfs
  clear f1 f2 s1 s2 hfs hf hs hN hN4 ha hb hc he
  go_enter Tryd.func69, Tryd.ntmps69
  go_wp2_with fail
  refine Calls.mono (T1.out _) ?_; rintro x w1 ⟨rfl, hb1⟩
  go_wp2_with fail
  refine Calls.mono (T0.out _) ?_; rintro x w2 ⟨rfl, hb2⟩
  have hR2 := (hR.below hb1 hR.lt).below hb2 (hR.below hb1 hR.lt).lt
  have hM2 := (Mod.of_below hb1 (One g)).same (Mod.of_below hb2 (One g))
  clear hb1 hb2 hR
  go_wp2_with fail
  refine Calls.mono (C1.out _ hR2) ?_; rintro x w3 ⟨q0, q1, q2, q3, r, rfl, hR3, hm3, hr, h0, h1, h2, h3, hv1⟩
  have C2 := fun w h => cut_words w g q0 q1 q2 q3 s h0 h1 h2 h3 ⟨S1.out, by have := S2.out; omega⟩ h
  replace C2 := hid C2
  replace hM2 := hM2.same hm3
  have V1 := hid (And.intro hr hv1)
  clear hR2 hm3 hr h0 h1 h2 h3 hv1
  go_wp2_with fail
  refine Calls.mono (C2.out _ hR3) ?_; rintro x w4 ⟨p0, p1, p2, p3, t, rfl, hR4, hm4, ht, g0, g1, g2, g3, hv2⟩
  have hM4 := hM2.same hm4
  clear hR3 hm4 hM2
  have tc := two_cuts F1.out V1.out.1 ht V1.out.2 hv2
  rw [← HFS.out] at tc
  have hd36 : d ≤ 1000000000000000000000000000000000000 := by
    rw [HFS.out]
    exact Int.mul_le_mul F2.out S2.out (Int.le_of_lt S1.out) (by decide)
  have htf : t * f ≤ t * f + r := by have := V1.out.1.1; omega
  have htf0 : 0 ≤ t * f := Int.mul_nonneg ht.1 (Int.le_of_lt F1.out)
  have m1 := fun w => mul64 t f ⟨ht.1, by have := S2.out; omega⟩ ⟨Int.le_of_lt F1.out, by have := F2.out; omega⟩ w
  have m2 := fun w => mul64 f s ⟨Int.le_of_lt F1.out, by have := F2.out; omega⟩ ⟨Int.le_of_lt S1.out, by have := S2.out; omega⟩ w
  rw [← HFS.out] at m2
  have hrr := V1.out.1
  have hff := F2.out
  obtain ⟨P, hP⟩ : ∃ P, P = t * f := ⟨_, rfl⟩
  rw [← hP] at tc htf htf0 m1
  obtain ⟨mh, hmh⟩ : ∃ x, x = P / 18446744073709551616 := ⟨_, rfl⟩
  obtain ⟨ml, hml⟩ : ∃ x, x = P % 18446744073709551616 := ⟨_, rfl⟩
  rw [← hmh, ← hml] at m1
  have A1 := fun w => add64 ml r 0 (by omega) hrr.1 (Int.le_refl 0) (by decide) w
  rw [Int.add_zero] at A1
  obtain ⟨l, hl⟩ : ∃ x, x = (ml + r) % 18446744073709551616 := ⟨_, rfl⟩
  obtain ⟨cy, hcy⟩ : ∃ x, x = (ml + r) / 18446744073709551616 := ⟨_, rfl⟩
  rw [← hl, ← hcy] at A1
  obtain ⟨h, hh⟩ : ∃ x, x = mh + cy := ⟨_, rfl⟩
  have wh : IntKind.u64.wrap (mh + cy) = h := by rw [IntKind.wrap_u64]; omega
  have hR0 : h * 18446744073709551616 + l = P + r := by omega
  have hlb : 0 ≤ l ∧ l < 18446744073709551616 := by omega
  have hhb : 0 ≤ h ∧ h < 9223372036854775808 := by omega
  have db := doubled hhb hlb
  obtain ⟨h2, hh2⟩ : ∃ x, x = h * 2 + l / 9223372036854775808 := ⟨_, rfl⟩
  obtain ⟨l2, hl2⟩ : ∃ x, x = l * 2 - l / 9223372036854775808 * 18446744073709551616 := ⟨_, rfl⟩
  rw [← hh2, ← hl2] at db
  obtain ⟨db1, db2⟩ := db
  have hdd : h2 * 18446744073709551616 + l2 = 2 * (P + r) := by omega
  obtain ⟨dh, hdh⟩ : ∃ x, x = d / 18446744073709551616 := ⟨_, rfl⟩
  obtain ⟨dl, hdl⟩ : ∃ x, x = d % 18446744073709551616 := ⟨_, rfl⟩
  rw [← hdh, ← hdl] at m2
  have hdpos : 0 < d := by omega
  have K := fun w => compare_any w (2 * (P + r)) d (by unfold Big; omega) (by unfold Big; omega)
  rw [← hdd, UV_words (by omega) (by omega), show UV d = .agg #[.int .u64 dh, .int .u64 dl] by rw [hdh, hdl]; rfl] at K
  obtain ⟨N2, hN2⟩ : ∃ N2, N2 = p0 + p1 * 18446744073709551616 + p2 * 340282366920938463463374607431768211456 + p3 * 6277101735386680763835789423207666416102355444464034512896 := ⟨_, rfl⟩
  rw [← hN2] at tc hv2
  have hx2 : bits .and .u64 p0 1 = p0 % 2 := low_bit g0
  have hmod2 : N2 % 2 = p0 % 2 := by omega
  have hNd : d * N2 + (P + r) = N := by have h5 := Int.emod_add_mul_ediv N d; rw [tc.1, tc.2.1] at h5; omega
  have hN20 : 0 ≤ N2 := by omega
  have hNN := HN4.out
  rw [hdd] at K
  have AD := fun w n (hn : 0 ≤ n ∧ n < 18446744073709551616) hf h => add_to_words w g p0 p1 p2 p3 n g0 g1 g2 g3 hn hf h
  rw [← hN2] at AD
  have hbig : 2 ≤ d → N2 + 1 < 115792089237316195423570985008687907853269984665640564039457584007913129639936 := fun h => by have := Int.mul_le_mul_of_nonneg_right h hN20; omega
  have m1 := hid m1
  have m2 := hid m2
  have AD := hid AD
  have TC := hid tc
  have HB := hid hbig
  have HM2 := hid hmod2
  have HP0 := hid (And.intro g0 (And.intro g1 (And.intro g2 g3)))
  have HN2 := hid hN2
  have HX := hid hx2
  have DB1 := hid db1
  have A1 := hid A1
  rcases cmp3_cases (2 * (P + r)) d with ⟨hc, ec⟩ | ⟨hc, ec⟩ | ⟨hc, ec⟩
  · rw [ec] at K
    have K := hid K
    have HC := hid hc
    have a1 := A1.out
    have d1 := DB1.out
    have x1 := HX.out
    clear hP hmh hml hl hcy hh hR0 hlb hhb hh2 hl2 hdd hdh hdl hdpos hN2 hx2 hmod2 hNd hN20 hNN hbig tc htf htf0 hrr hff hd36 ht g0 g1 g2 g3 hv2 hc ec db1
    go_wp2_with fail
    refine Calls.mono (m1.out _) ?_; rintro x w5 ⟨rfl, rfl⟩
    go_wp2_with fail
    refine Calls.mono (m2.out _) ?_; rintro x w5 ⟨rfl, rfl⟩
    go_wp2_with fail
    refine Calls.mono (K.out _) ?_; rintro x w6 ⟨rfl, hb6⟩
    have hR5 := hR4.alloc (.cells #[.int .u64 h2, .int .u64 l2] 79)
    have hM5 := hM4.alloc (.cells #[.int .u64 h2, .int .u64 l2] 79)
    have hR6 := hR5.below hb6 hR5.lt
    have hM6 := hM5.same (Mod.of_below hb6 (One g))
    have y0 := hR6.cell 0
    simp at y0
    clear hR4 hR5 hM4 hM5 hb6 a1 d1
    go_wp2_with fail
    go_end0
    exact ⟨rfl, ⟨p0, p1, p2, p3, hR6, HP0.out.1, HP0.out.2.1, HP0.out.2.2.1, HP0.out.2.2.2, by
      have h1 := TC.out; have h2 := HC.out
      rw [← HN2.out]; unfold hE; rw [h1.1, h1.2.1, if_neg (by omega)]⟩, hM6⟩
  · rw [ec] at K
    have K := hid K
    have HC := hid hc
    have a1 := A1.out
    have d1 := DB1.out
    have x1 := HX.out
    clear hP hmh hml hl hcy hh hR0 hlb hhb hh2 hl2 hdd hdh hdl hdpos hN2 hx2 hmod2 hNd hN20 hNN hbig tc htf htf0 hrr hff hd36 ht g0 g1 g2 g3 hv2 hc ec db1
    go_wp2_with fail
    refine Calls.mono (m1.out _) ?_; rintro x w5 ⟨rfl, rfl⟩
    go_wp2_with fail
    refine Calls.mono (m2.out _) ?_; rintro x w5 ⟨rfl, rfl⟩
    go_wp2_with fail
    refine Calls.mono (K.out _) ?_; rintro x w6 ⟨rfl, hb6⟩
    have hR5 := hR4.alloc (.cells #[.int .u64 h2, .int .u64 l2] 79)
    have hM5 := hM4.alloc (.cells #[.int .u64 h2, .int .u64 l2] 79)
    have hR6 := hR5.below hb6 hR5.lt
    have hM6 := hM5.same (Mod.of_below hb6 (One g))
    have y0 := hR6.cell 0
    simp at y0
    clear hR4 hR5 hM4 hM5 hb6 a1 d1
    go_wp2_with fail
    refine Calls.mono (AD.out _ 1 (by have := HP0.out; omega) (by have h1 := TC.out; have h2 := HC.out; have h3 := HB.out (by omega); omega) hR6) ?_; rintro x w7 ⟨s0, s1, s2, s3, rfl, hR7, hm7, b0, b1, b2, b3, hv⟩
    go_wp2_with fail
    go_end0
    exact ⟨rfl, ⟨s0, s1, s2, s3, hR7, b0, b1, b2, b3, by
      have h1 := TC.out; have h2 := HC.out; have h3 := HM2.out
      rw [hv]; unfold hE; rw [h1.1, h1.2.1]
      rw [if_pos (.inl (by omega))]⟩, hM6.same hm7⟩
  · rw [ec] at K
    have K := hid K
    have HC := hid hc
    have a1 := A1.out
    have d1 := DB1.out
    have x1 := HX.out
    clear hP hmh hml hl hcy hh hR0 hlb hhb hh2 hl2 hdd hdh hdl hdpos hN2 hx2 hmod2 hNd hN20 hNN hbig tc htf htf0 hrr hff hd36 ht g0 g1 g2 g3 hv2 hc ec db1
    go_wp2_with fail
    refine Calls.mono (m1.out _) ?_; rintro x w5 ⟨rfl, rfl⟩
    go_wp2_with fail
    refine Calls.mono (m2.out _) ?_; rintro x w5 ⟨rfl, rfl⟩
    go_wp2_with fail
    refine Calls.mono (K.out _) ?_; rintro x w6 ⟨rfl, hb6⟩
    have hR5 := hR4.alloc (.cells #[.int .u64 h2, .int .u64 l2] 79)
    have hM5 := hM4.alloc (.cells #[.int .u64 h2, .int .u64 l2] 79)
    have hR6 := hR5.below hb6 hR5.lt
    have hM6 := hM5.same (Mod.of_below hb6 (One g))
    have y0 := hR6.cell 0
    simp at y0
    clear hR4 hR5 hM4 hM5 hb6 a1 d1
    go_wp2_with fail
    refine Calls.mono (AD.out _ (p0 % 2) (by have := HP0.out; omega) (by have h1 := TC.out; have h2 := HC.out; have h3 := HB.out (by omega); omega) hR6) ?_; rintro x w7 ⟨s0, s1, s2, s3, rfl, hR7, hm7, b0, b1, b2, b3, hv⟩
    go_wp2_with fail
    go_end0
    exact ⟨rfl, ⟨s0, s1, s2, s3, hR7, b0, b1, b2, b3, by
      have h1 := TC.out; have h2 := HC.out; have h3 := HM2.out
      rw [hv]; unfold hE; rw [h1.1, h1.2.1]
      by_cases hp : N2 % 2 = 1
      · rw [if_pos (.inr ⟨by omega, hp⟩)]; omega
      · rw [if_neg (by omega)]; omega⟩, hM6.same hm7⟩
end Go.Proofs.YtmamedobphlpkaaDoor

namespace Go.Proofs.YtmamedobphlpkaaDoor
open Go.RowKit
/-- what 'round' answers, for any power from 10^-67 to 10^77 -/
def roundZ (z k : Int) : Int := if k ≤ 0 then z * ((10 ^ (-k).toNat : Nat) : Int) else rounded z (10 ^ k.toNat)
theorem pick_any (w : World) (k n : Int) (hk : -9223372036854775808 ≤ k ∧ k < 9223372036854775808) (hn : 0 < n ∧ n ≤ 1048576) : Calls Tryd.prog 22 #[.int .i64 k, .int .i64 n] w fun e w' => e = .returned (.int .i64 (k % n)) ∧ w = w' := by
  have h1 : ¬ n = 0 := by omega
  have e := Int.emod_add_mul_ediv k n
  have e0 := Int.emod_nonneg k (show n ≠ 0 by omega)
  have e1 := Int.emod_lt_of_pos k hn.1
  by_cases h : k.tmod n < 0
  · have ht : IntKind.i64.wrap (k.tmod n + n) = k % n := by
      have h2 := Int.tmod_eq_emod (a := k) (b := n)
      have h3 := Int.lt_tmod_of_pos k hn.1
      rw [IntKind.wrap_i64]
      split at h2 <;> omega
    go_enter Tryd.func22, Tryd.ntmps22
    go_wp2
    go_ret
    exact ⟨rfl, rfl⟩
  · have ht : k.tmod n = k % n := by
      have h2 := Int.tmod_eq_emod (a := k) (b := n)
      split at h2 <;> omega
    have ht0 : ¬ k % n < 0 := by omega
    go_enter Tryd.func22, Tryd.ntmps22
    go_wp2
    go_ret
    exact ⟨rfl, rfl⟩
end Go.Proofs.YtmamedobphlpkaaDoor

namespace Go.Proofs.YtmamedobphlpkaaDoor
open Go.RowKit

theorem scale_any (w : World) (g : Nat) (a b c e : Int) (k : Nat) (hk : k ≤ 36) (ha : Word a) (hb : Word b) (hc : Word c) (he : Word e) (hR : Row w g 82 #[.int .u64 a, .int .u64 b, .int .u64 c, .int .u64 e]) :
    Calls Tryd.prog 69 #[.pointer (some ⟨g, 0, none⟩), .int .i64 (k : Int)] w fun x w' =>
      x = .returned (.tuple #[]) ∧ (∃ s0 s1 s2 s3 : Int, Row w' g 82 #[.int .u64 s0, .int .u64 s1, .int .u64 s2, .int .u64 s3] ∧ Word s0 ∧ Word s1 ∧ Word s2 ∧ Word s3 ∧ P4 s0 s1 s2 s3 = hE (P4 a b c e) ((10 ^ k : Nat) : Int)) ∧ Mod (One g) w w' := by
  by_cases h : k ≤ 18
  · exact scale_lo w g a b c e k h ha hb hc he hR
  · exact scale_hi w g a b c e k ⟨by omega, hk⟩ ha hb hc he hR
/-- what Scaled answers where its scale is right -/
def scZ (x y : Int) (k : Nat) : Int := if (decide (x < 0) != decide (y < 0)) = true then -(hE (mag x * mag y) ((10 ^ k : Nat) : Int)) else hE (mag x * mag y) ((10 ^ k : Nat) : Int)

set_option maxRecDepth 100000 in
set_option maxHeartbeats 2000000 in
theorem scaled_any (w : World) (x y : Int) (k : Nat) (hx : Fits x) (hy : Fits y) (hk : k ≤ 36) : Calls Tryd.prog 47 #[WV x, WV y, .int .i64 (k : Int)] w fun e w' => e = .returned (resV (scZ x y k)) ∧ Below w.heap.size w w' := by
  have P := fun w => product_any w x y hx hy
  have SC := fun w g a b c e => scale_any w g a b c e k hk
  have SG := wsigned_any
  obtain ⟨rh, rl, rk, er⟩ := resV_form (scZ x y k)
  obtain ⟨xh, xl, e1⟩ : ∃ hi lo : Int, WV x = .agg #[.int .i64 hi, .int .u64 lo] := ⟨_, _, rfl⟩
  obtain ⟨yh, yl, e2⟩ : ∃ hi lo : Int, WV y = .agg #[.int .i64 hi, .int .u64 lo] := ⟨_, _, rfl⟩
  rw [e1, e2] at P
  rw [e1, e2, er]
  have P := hid P
  have SC := hid SC
  have SG := hid SG
  have ER := hid er
  clear er e1 e2 hx hy
  have hk1 : ¬ (k : Int) < 0 := by omega
  have hk2 : (k : Int) ≤ 36 := by omega
  have hE' := Row.new ((w.alloc (.cells #[.int .i64 xh, .int .u64 xl] 24)).alloc (.cells #[.int .i64 yh, .int .u64 yl] 24)) 24 #[.int .i64 0, .int .u64 0]
  have hU := (((Up.refl w).alloc (.cells #[.int .i64 xh, .int .u64 xl] 24)).alloc (.cells #[.int .i64 yh, .int .u64 yl] 24)).alloc (.cells #[.int .i64 0, .int .u64 0] 24)
  simp only [alloc_size] at hE'
  go_enter Tryd.func47, Tryd.ntmps47
  go_wp2_with fail
  refine Calls.mono (P.out _) ?_; rintro e w1 ⟨a, b, c, d, s, rfl, ha, hb, hc, hd, hv, hs, hb1⟩
  have hE1 := hE'.below hb1 hE'.lt
  have hU1 := hU.trans hb1
  have hl1 := hE1.lt
  have SC1 := hid (SC.out (w1.alloc (.cells #[.int .u64 a, .int .u64 b, .int .u64 c, .int .u64 d] 82)) w1.heap.size a b c d ha hb hc hd (Row.new w1 82 #[.int .u64 a, .int .u64 b, .int .u64 c, .int .u64 d]))
  have HV := hid hv
  have HS := hid hs
  clear hE' hU hb1 ha hb hc hd hv hs
  go_wp2_with fail
  refine Calls.mono SC1.out ?_; rintro e w2 ⟨rfl, ⟨s0, s1, s2, s3, hP2, h0, h1, h2, h3, hv2⟩, hm2⟩
  have hE2 := (hE1.alloc (.cells #[.int .u64 a, .int .u64 b, .int .u64 c, .int .u64 d] 82)).mod hm2 (fun e => by unfold One at e; omega)
  have hU2 := (hU1.alloc (.cells #[.int .u64 a, .int .u64 b, .int .u64 c, .int .u64 d] 82)).one hm2 hU1.size
  have sg := fun w => SG.out w s0 s1 s2 s3 s h0 h1 h2 h3
  rw [hv2, HV.out] at sg
  have hsz : (if s = true then -(hE (mag x * mag y) ((10 ^ k : Nat) : Int)) else hE (mag x * mag y) ((10 ^ k : Nat) : Int)) = scZ x y k := by rw [HS.out]; rfl
  rw [hsz, ER.out] at sg
  replace sg := hid sg
  have c0 := hP2.cell 0
  have c1 := hP2.cell 1
  have c2 := hP2.cell 2
  have c3 := hP2.cell 3
  simp at c0 c1 c2 c3
  clear hE1 hU1 hl1 hP2 hm2 h0 h1 h2 h3 hv2 hsz SC1
  go_wp2_with fail
  refine Calls.mono (sg.out _) ?_; rintro e w3 ⟨rfl, hb3⟩
  have hE3 := hE2.below hb3 hE2.lt
  have hU3 := hU2.trans hb3
  clear hE2 hU2 hb3 c0 c1 c2 c3
  have size_W2 : (Tryd.prog.info? 24).map (·.size) = some 2 := by kernel_rfl
  go_wp2_with (refine wpList_store_row rfl 24 _ _ rfl (w.heap.size + 1 + 1) #[.int .i64 rh, .int .u64 rl] rfl rfl 24 #[.int .i64 0, .int .u64 0] hE3 size_W2 rfl (by simp [Value.oneCell']) ?_)
  have r1 := run_loadVar_row (P := Tryd.prog) _ (w.heap.size + 1 + 1) 24 24 #[.int .i64 rh, .int .u64 rl] (0, 0) _ (show (w3.setRow (w.heap.size + 1 + 1) #[.int .i64 rh, .int .u64 rl]).heap[w.heap.size + 1 + 1]? = some (.cells #[.int .i64 rh, .int .u64 rl] 24 (0, 0)) from setRow_heap _ _ _ _ _ _ hE3) Tryd.underlying24 rfl size_W2
  exact bodyPost_ret (v := .tuple #[.agg #[.int .i64 rh, .int .u64 rl], .int .i64 rk]) (by simp [results, Tryd.results47, asAddr, r1]) rfl ⟨rfl, hU3.below.trans ⟨rfl, rfl, rfl, by simp, fun k hk => setRow_other _ _ _ _ (by omega)⟩⟩

set_option maxRecDepth 100000 in
set_option maxHeartbeats 2000000 in
theorem pow_lo (w : World) (k : Nat) (hk : k ≤ 19) : Calls Tryd.prog 27 #[.int .i64 (k : Int)] w fun e w' => e = .returned (resV ((10 ^ k : Nat) : Int)) ∧ Below w.heap.size w w' := by
  have T1 := fun w => ten_any w k (by omega)
  have T0 := fun w => ten_any w 0 (by omega)
  have f1 : ((10 ^ k : Nat) : Int) ≤ 10000000000000000000 := by have := Nat.pow_le_pow_right (show 0 < 10 by decide) (show k ≤ 19 by omega); omega
  have s1 : ((10 ^ 0 : Nat) : Int) ≤ 10000000000000000000 := by have := Nat.pow_le_pow_right (show 0 < 10 by decide) (show 0 ≤ 19 by omega); omega
  obtain ⟨d, hd⟩ : ∃ d, d = ((10 ^ k : Nat) : Int) := ⟨_, rfl⟩
  rw [← hd]
  have hd0 : 0 ≤ d := by rw [hd]; exact Int.natCast_nonneg _
  have hdm : d ≤ 100000000000000000000000000000000000000 := by
    have h := Nat.pow_le_pow_right (show 0 < 10 by decide) (show k ≤ 38 by omega)
    rw [hd]
    omega
  have hfs : d = ((10 ^ k : Nat) : Int) * ((10 ^ 0 : Nat) : Int) := by
    rw [hd, ← Int.natCast_mul, ← Nat.pow_add]
    have hij : k + 0 = k := by omega
    rw [hij]
  clear hd
  have M := fun w => mul64 ((10 ^ k : Nat) : Int) ((10 ^ 0 : Nat) : Int) (by omega) (by omega) w
  rw [← hfs] at M
  have SG := fun w => signed_any w d false (by unfold Big; omega)
  rw [show (if false = true then -d else d) = d from rfl] at SG
  obtain ⟨f, hf⟩ : ∃ f, f = ((10 ^ k : Nat) : Int) := ⟨_, rfl⟩
  obtain ⟨s, hs⟩ : ∃ s, s = ((10 ^ 0 : Nat) : Int) := ⟨_, rfl⟩
  rw [← hf] at T1 M
  rw [← hs] at T0 M
  obtain ⟨dh, hdh⟩ : ∃ x, x = d / 18446744073709551616 := ⟨_, rfl⟩
  obtain ⟨dl, hdl⟩ : ∃ x, x = d % 18446744073709551616 := ⟨_, rfl⟩
  rw [← hdh, ← hdl] at M
  rw [show UV d = .agg #[.int .u64 dh, .int .u64 dl] by rw [hdh, hdl]; rfl] at SG
  obtain ⟨rh, rl, rk, er⟩ := resV_form d
  rw [er] at SG
  rw [er]
  have T1 := hid T1
  have T0 := hid T0
  have M := hid M
  have SG := hid SG
  clear hd0 hdm hfs f1 s1 hf hs hdh hdl er
  have w1 : IntKind.i64.wrap ((k : Int) - (k : Int)) = 0 := by rw [IntKind.wrap_i64]; omega
  have w2 : (k : Int) ≤ 19 := by omega
  have hk1 : ¬ (k : Int) < 0 := by omega
  have hk2 : (k : Int) ≤ 38 := by omega
  have hE' := Row.new w 24 #[.int .i64 0, .int .u64 0]
  have hU := (Up.refl w).alloc (.cells #[.int .i64 0, .int .u64 0] 24)
  go_enter Tryd.func27, Tryd.ntmps27
  go_wp2_with fail
  refine Calls.mono (T1.out _) ?_; rintro e v1 ⟨rfl, hb⟩
  replace hE' := hE'.below hb hE'.lt
  replace hU := hU.trans hb
  clear hb
  go_wp2_with fail
  refine Calls.mono (T0.out _) ?_; rintro e v2 ⟨rfl, hb⟩
  replace hE' := hE'.below hb hE'.lt
  replace hU := hU.trans hb
  clear hb
  go_wp2_with fail
  refine Calls.mono (M.out _) ?_; rintro e v3 ⟨rfl, rfl⟩
  go_wp2_with fail
  refine Calls.mono (SG.out _) ?_; rintro e v4 ⟨rfl, hb⟩
  replace hE' := hE'.below hb hE'.lt
  replace hU := hU.trans hb
  clear hb
  have size_W2 : (Tryd.prog.info? 24).map (·.size) = some 2 := by kernel_rfl
  go_wp2_with (refine wpList_store_row rfl 24 _ _ rfl (w.heap.size) #[.int .i64 rh, .int .u64 rl] rfl rfl 24 #[.int .i64 0, .int .u64 0] hE' size_W2 rfl (by simp [Value.oneCell']) ?_)
  have r1 := run_loadVar_row (P := Tryd.prog) _ (w.heap.size) 24 24 #[.int .i64 rh, .int .u64 rl] (0, 0) _ (show (v4.setRow (w.heap.size) #[.int .i64 rh, .int .u64 rl]).heap[w.heap.size]? = some (.cells #[.int .i64 rh, .int .u64 rl] 24 (0, 0)) from setRow_heap _ _ _ _ _ _ hE') Tryd.underlying24 rfl size_W2
  exact bodyPost_ret (v := .tuple #[.agg #[.int .i64 rh, .int .u64 rl], .int .i64 rk]) (by simp [results, Tryd.results27, asAddr, r1]) rfl ⟨rfl, hU.below.trans ⟨rfl, rfl, rfl, by simp, fun k hk => setRow_other _ _ _ _ (by omega)⟩⟩

set_option maxRecDepth 100000 in
set_option maxHeartbeats 2000000 in
theorem pow_hi (w : World) (k : Nat) (hk : 19 < k ∧ k ≤ 38) : Calls Tryd.prog 27 #[.int .i64 (k : Int)] w fun e w' => e = .returned (resV ((10 ^ k : Nat) : Int)) ∧ Below w.heap.size w w' := by
  have T1 := fun w => ten_any w 19 (by omega)
  have T0 := fun w => ten_any w (k - 19) (by omega)
  have f1 : ((10 ^ 19 : Nat) : Int) ≤ 10000000000000000000 := by have := Nat.pow_le_pow_right (show 0 < 10 by decide) (show 19 ≤ 19 by omega); omega
  have s1 : ((10 ^ (k - 19) : Nat) : Int) ≤ 10000000000000000000 := by have := Nat.pow_le_pow_right (show 0 < 10 by decide) (show (k - 19) ≤ 19 by omega); omega
  obtain ⟨d, hd⟩ : ∃ d, d = ((10 ^ k : Nat) : Int) := ⟨_, rfl⟩
  rw [← hd]
  have hd0 : 0 ≤ d := by rw [hd]; exact Int.natCast_nonneg _
  have hdm : d ≤ 100000000000000000000000000000000000000 := by
    have h := Nat.pow_le_pow_right (show 0 < 10 by decide) (show k ≤ 38 by omega)
    rw [hd]
    omega
  have hfs : d = ((10 ^ 19 : Nat) : Int) * ((10 ^ (k - 19) : Nat) : Int) := by
    rw [hd, ← Int.natCast_mul, ← Nat.pow_add]
    have hij : 19 + (k - 19) = k := by omega
    rw [hij]
  clear hd
  have M := fun w => mul64 ((10 ^ 19 : Nat) : Int) ((10 ^ (k - 19) : Nat) : Int) (by omega) (by omega) w
  rw [← hfs] at M
  have SG := fun w => signed_any w d false (by unfold Big; omega)
  rw [show (if false = true then -d else d) = d from rfl] at SG
  obtain ⟨f, hf⟩ : ∃ f, f = ((10 ^ 19 : Nat) : Int) := ⟨_, rfl⟩
  obtain ⟨s, hs⟩ : ∃ s, s = ((10 ^ (k - 19) : Nat) : Int) := ⟨_, rfl⟩
  rw [← hf] at T1 M
  rw [← hs] at T0 M
  obtain ⟨dh, hdh⟩ : ∃ x, x = d / 18446744073709551616 := ⟨_, rfl⟩
  obtain ⟨dl, hdl⟩ : ∃ x, x = d % 18446744073709551616 := ⟨_, rfl⟩
  rw [← hdh, ← hdl] at M
  rw [show UV d = .agg #[.int .u64 dh, .int .u64 dl] by rw [hdh, hdl]; rfl] at SG
  obtain ⟨rh, rl, rk, er⟩ := resV_form d
  rw [er] at SG
  rw [er]
  have T1 := hid T1
  have T0 := hid T0
  have M := hid M
  have SG := hid SG
  clear hd0 hdm hfs f1 s1 hf hs hdh hdl er
  have w1 : (k : Int) - 19 = ((k - 19 : Nat) : Int) := by omega
  have w2 : ¬ (k : Int) ≤ 19 := by omega
  have w3 : (19 : Int) < k := by omega
  have hk1 : ¬ (k : Int) < 0 := by omega
  have hk2 : (k : Int) ≤ 38 := by omega
  have hE' := Row.new w 24 #[.int .i64 0, .int .u64 0]
  have hU := (Up.refl w).alloc (.cells #[.int .i64 0, .int .u64 0] 24)
  go_enter Tryd.func27, Tryd.ntmps27
  go_wp2_with fail
  refine Calls.mono (T1.out _) ?_; rintro e v1 ⟨rfl, hb⟩
  replace hE' := hE'.below hb hE'.lt
  replace hU := hU.trans hb
  clear hb
  go_wp2_with fail
  refine Calls.mono (T0.out _) ?_; rintro e v2 ⟨rfl, hb⟩
  replace hE' := hE'.below hb hE'.lt
  replace hU := hU.trans hb
  clear hb
  go_wp2_with fail
  refine Calls.mono (M.out _) ?_; rintro e v3 ⟨rfl, rfl⟩
  go_wp2_with fail
  refine Calls.mono (SG.out _) ?_; rintro e v4 ⟨rfl, hb⟩
  replace hE' := hE'.below hb hE'.lt
  replace hU := hU.trans hb
  clear hb
  have size_W2 : (Tryd.prog.info? 24).map (·.size) = some 2 := by kernel_rfl
  go_wp2_with (refine wpList_store_row rfl 24 _ _ rfl (w.heap.size) #[.int .i64 rh, .int .u64 rl] rfl rfl 24 #[.int .i64 0, .int .u64 0] hE' size_W2 rfl (by simp [Value.oneCell']) ?_)
  have r1 := run_loadVar_row (P := Tryd.prog) _ (w.heap.size) 24 24 #[.int .i64 rh, .int .u64 rl] (0, 0) _ (show (v4.setRow (w.heap.size) #[.int .i64 rh, .int .u64 rl]).heap[w.heap.size]? = some (.cells #[.int .i64 rh, .int .u64 rl] 24 (0, 0)) from setRow_heap _ _ _ _ _ _ hE') Tryd.underlying24 rfl size_W2
  exact bodyPost_ret (v := .tuple #[.agg #[.int .i64 rh, .int .u64 rl], .int .i64 rk]) (by simp [results, Tryd.results27, asAddr, r1]) rfl ⟨rfl, hU.below.trans ⟨rfl, rfl, rfl, by simp, fun k hk => setRow_other _ _ _ _ (by omega)⟩⟩

theorem pow_any (w : World) (k : Nat) (hk : k ≤ 38) : Calls Tryd.prog 27 #[.int .i64 (k : Int)] w fun e w' => e = .returned (resV ((10 ^ k : Nat) : Int)) ∧ Below w.heap.size w w' := by
  by_cases h : k ≤ 19
  · exact pow_lo w k h
  · exact pow_hi w k ⟨by omega, hk⟩
end Go.Proofs.YtmamedobphlpkaaDoor
