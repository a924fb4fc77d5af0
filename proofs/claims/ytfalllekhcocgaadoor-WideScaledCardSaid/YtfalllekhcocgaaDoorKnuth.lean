/-
  A quotient of two words by one, word by half word: the arithmetic.
-/
import Derived.Test.YtfalllekhcocgaaDoorLen
namespace Go.Proofs.YtfalllekhcocgaaDoor

/-- what holds at the head of the loop that mends a guess: U, c over a, b; the guess q and what is left, r -/
structure Guess (U c a b q r : Int) : Prop where
  q0 : 0 ≤ q
  q1 : q ≤ 4294967297
  r0 : 0 ≤ r
  r1 : r < 4294967296
  sum : U = q * a + r
  least : (U * 4294967296 + c) / (a * 4294967296 + b) ≤ q

structure Halves (U c a b : Int) : Prop where
  a0 : 2147483648 ≤ a
  a1 : a < 4294967296
  b0 : 0 ≤ b
  b1 : b < 4294967296
  c0 : 0 ≤ c
  c1 : c < 4294967296
  u0 : 0 ≤ U
  u1 : U < a * 4294967296 + b

theorem mul_lt_half {q b : Int} (hq : 0 ≤ q) (hq1 : q ≤ 4294967295) (hb : 0 ≤ b) (hb1 : b < 4294967296) : 0 ≤ q * b ∧ q * b ≤ 18446744065119617025 := by
  refine ⟨Int.mul_nonneg hq hb, ?_⟩
  have h := Int.mul_le_mul hq1 (show b ≤ 4294967295 by omega) hb (by decide)
  exact h
theorem Halves.split {U c a b : Int} (q : Int) : q * (a * 4294967296 + b) = q * a * 4294967296 + q * b := by
  rw [Int.mul_add, Int.mul_assoc]
theorem Halves.pos {U c a b : Int} (h : Halves U c a b) : 0 < a * 4294967296 + b := by
  have := h.a0; have := h.b0; omega
theorem Halves.most {U c a b : Int} (h : Halves U c a b) : (U * 4294967296 + c) / (a * 4294967296 + b) < 4294967296 := by
  apply Int.ediv_lt_of_lt_mul h.pos
  have := h.u1; have := h.c1; omega
theorem Halves.first {U c a b : Int} (h : Halves U c a b) : Guess U c a b (U / a) (U - U / a * a) := by
  have ha : 0 < a := by have := h.a0; omega
  have hm : U - U / a * a = U % a := by
    have := Int.emod_add_mul_ediv U a
    rw [Int.mul_comm] at this
    omega
  refine ⟨Int.ediv_nonneg h.u0 (by omega), ?_, ?_, ?_, by omega, ?_⟩
  · have : U / a < 4294967298 := by
      apply Int.ediv_lt_of_lt_mul ha
      have := h.u1; have := h.b1; have := h.a0; omega
    omega
  · rw [hm]; exact Int.emod_nonneg _ (by omega)
  · rw [hm]; have := Int.emod_lt_of_pos U ha; have := h.a1; omega
  · have h1 : U < (U / a + 1) * a := by
      have := Int.emod_add_mul_ediv U a
      have h2 := Int.emod_lt_of_pos U ha
      rw [Int.add_mul, Int.one_mul, Int.mul_comm]
      omega
    have h3 : (U * 4294967296 + c) / (a * 4294967296 + b) < U / a + 1 := by
      apply Int.ediv_lt_of_lt_mul h.pos
      rw [Halves.split (U := U) (c := c)]
      have h4 : 0 ≤ (U / a + 1) * b := Int.mul_nonneg (by have := Int.ediv_nonneg h.u0 (show 0 ≤ a by omega); omega) h.b0
      have := h.c1
      omega
    omega
/-- the guess is right: the loop ends -/
theorem Guess.done {U c a b q r : Int} (g : Guess U c a b q r) (h : Halves U c a b) (hn : q * b ≤ 4294967296 * r + c) : q = (U * 4294967296 + c) / (a * 4294967296 + b) := by
  have h1 : q ≤ (U * 4294967296 + c) / (a * 4294967296 + b) := by
    apply Int.le_ediv_of_mul_le h.pos
    rw [Halves.split (U := U) (c := c)]
    have := g.sum
    omega
  have := g.least
  omega
/-- it is too great: one less -/
theorem Guess.less {U c a b q r : Int} (g : Guess U c a b q r) (h : Halves U c a b) (hn : 4294967296 ≤ q ∨ 4294967296 * r + c < q * b) : (U * 4294967296 + c) / (a * 4294967296 + b) ≤ q - 1 ∧ 1 ≤ q := by
  have h1 : (U * 4294967296 + c) / (a * 4294967296 + b) < q := by
    rcases hn with hn | hn
    · have := h.most; omega
    · apply Int.ediv_lt_of_lt_mul h.pos
      rw [Halves.split (U := U) (c := c)]
      have := g.sum
      omega
  have h2 : 0 ≤ (U * 4294967296 + c) / (a * 4294967296 + b) := Int.ediv_nonneg (by have := h.u0; have := h.c0; omega) (by have := h.pos; omega)
  omega
theorem Guess.next {U c a b q r : Int} (g : Guess U c a b q r) (h : Halves U c a b) (hn : 4294967296 ≤ q ∨ 4294967296 * r + c < q * b) (hr : r + a < 4294967296) : Guess U c a b (q - 1) (r + a) := by
  obtain ⟨h1, h2⟩ := g.less h hn
  refine ⟨by omega, by have := g.q1; omega, by have := g.r0; have := h.a0; omega, hr, ?_, h1⟩
  rw [Int.sub_mul, Int.one_mul]
  have := g.sum
  omega
theorem Guess.stop {U c a b q r : Int} (g : Guess U c a b q r) (h : Halves U c a b) (hn : 4294967296 ≤ q ∨ 4294967296 * r + c < q * b) (hr : 4294967296 ≤ r + a) : q - 1 = (U * 4294967296 + c) / (a * 4294967296 + b) := by
  obtain ⟨h1, h2⟩ := g.less h hn
  have h3 : q - 1 ≤ (U * 4294967296 + c) / (a * 4294967296 + b) := by
    apply Int.le_ediv_of_mul_le h.pos
    rw [Halves.split (U := U) (c := c), Int.sub_mul, Int.one_mul]
    have h4 : (q - 1) * b ≤ 4294967296 * b := Int.mul_le_mul_of_nonneg_right (by have := g.q1; omega) h.b0
    have := g.sum
    have := h.b1
    have := h.c0
    omega
  omega

/-- the first guess, as the program reckons it -/
theorem Halves.start {U c a b : Int} (h : Halves U c a b) : ∃ k m r : Int, U.tdiv a = k ∧ IntKind.u64.wrap k = k ∧ IntKind.u64.wrap (k * a) = m ∧ IntKind.u64.wrap (U - m) = r ∧ Guess U c a b k r := by
  have g := h.first
  obtain ⟨k, hk⟩ : ∃ k, k = U / a := ⟨_, rfl⟩
  obtain ⟨m, hm⟩ : ∃ m, m = k * a := ⟨_, rfl⟩
  rw [← hk] at g
  rw [← hm] at g
  have g0 := g.q0
  have g1 := g.q1
  have g2 := g.r0
  have g3 := g.r1
  have h1 := h.u1
  have h2 := h.a1
  have h3 := h.b1
  have hm0 : 0 ≤ m := by rw [hm]; exact Int.mul_nonneg g0 (by have := h.a0; omega)
  refine ⟨k, m, U - m, by rw [hk]; exact Int.tdiv_eq_ediv_of_nonneg h.u0, ?_, ?_, ?_, g⟩
  · rw [IntKind.wrap_u64]; omega
  · rw [← hm, IntKind.wrap_u64]; omega
  · rw [IntKind.wrap_u64]; omega
/-- what is left behind the first half, as the program reckons it -/
theorem Halves.rest {U c a b Y q : Int} (h : Halves U c a b) (hY : Y = a * 4294967296 + b) (hq : q = (U * 4294967296 + c) / (a * 4294967296 + b)) :
    ∃ x1 x2 x3 R : Int, IntKind.u64.wrap (U * 4294967296) = x1 ∧ IntKind.u64.wrap (x1 + c) = x2 ∧ IntKind.u64.wrap (q * Y) = x3 ∧ IntKind.u64.wrap (x2 - x3) = R ∧ U * 4294967296 + c = q * Y + R ∧ 0 ≤ R ∧ R < Y ∧ 0 ≤ q ∧ q < 4294967296 := by
  have hp := h.pos
  have hm := h.most
  have h0 : 0 ≤ (U * 4294967296 + c) / (a * 4294967296 + b) := Int.ediv_nonneg (by have := h.u0; have := h.c0; omega) (by omega)
  rw [← hq] at hm h0
  rw [← hY] at hp hq
  have e := Int.emod_add_mul_ediv (U * 4294967296 + c) Y
  rw [← hq, Int.mul_comm Y q] at e
  have e0 := Int.emod_nonneg (U * 4294967296 + c) (show Y ≠ 0 by omega)
  have e1 := Int.emod_lt_of_pos (U * 4294967296 + c) hp
  obtain ⟨R, hR⟩ : ∃ R, R = (U * 4294967296 + c) % Y := ⟨_, rfl⟩
  rw [← hR] at e e0 e1
  clear hR hq
  have h1 := h.a1
  have h2 := h.b1
  refine ⟨_, _, _, R, rfl, rfl, rfl, ?_, by omega, e0, e1, h0, hm⟩
  obtain ⟨z, hz⟩ : ∃ z, z = q * Y := ⟨_, rfl⟩
  rw [← hz] at e ⊢
  clear hz
  simp only [IntKind.wrap_u64]
  omega
theorem Halves.second {U c a b d R : Int} (h : Halves U c a b) (hd : 0 ≤ d ∧ d < 4294967296) (h0 : 0 ≤ R) (h1 : R < a * 4294967296 + b) : Halves R d a b :=
  ⟨h.a0, h.a1, h.b0, h.b1, hd.1, hd.2, h0, h1⟩
theorem wrap_pair {q k : Int} (h0 : 0 ≤ q) (h1 : q < 4294967296) (h2 : 0 ≤ k) (h3 : k < 4294967296) : ∃ y1 : Int, IntKind.u64.wrap (q * 4294967296) = y1 ∧ IntKind.u64.wrap (y1 + k) = q * 4294967296 + k := by
  refine ⟨_, rfl, ?_⟩
  simp only [IntKind.wrap_u64]
  omega

theorem nat_and_mask (V : Int) (hV : 0 ≤ V ∧ V < 18446744073709551616) : bits .and .u64 V 4294967295 = V % 4294967296 := by
  obtain ⟨v, rfl⟩ := Int.eq_ofNat_of_zero_le hV.1
  have e : v &&& 4294967295 = v % 4294967296 := Nat.and_two_pow_sub_one_eq_mod v 32
  show IntKind.u64.wrap ((BitVec.ofInt 64 (v : Int) &&& BitVec.ofInt 64 ((4294967295 : Nat) : Int)).toNat : Int) = _
  rw [BitVec.toNat_and, BitVec.ofInt_natCast, BitVec.ofInt_natCast, BitVec.toNat_ofNat, BitVec.toNat_ofNat, Nat.mod_eq_of_lt (by omega), Nat.mod_eq_of_lt (by omega), e]
  simp [IntKind.wrap, IntKind.signed, IntKind.bits]
  omega
theorem nat_or_sum (h t : Int) (s : Nat) (hh : 0 ≤ h) (hlt : h * ((2 ^ s : Nat) : Int) < 18446744073709551616) (ht : 0 ≤ t) (ht1 : t < ((2 ^ s : Nat) : Int)) (hsum : h * ((2 ^ s : Nat) : Int) + t < 18446744073709551616) :
    bits .or .u64 (h * ((2 ^ s : Nat) : Int)) t = h * ((2 ^ s : Nat) : Int) + t := by
  obtain ⟨h, rfl⟩ := Int.eq_ofNat_of_zero_le hh
  obtain ⟨t, rfl⟩ := Int.eq_ofNat_of_zero_le ht
  have ht2 : t < 2 ^ s := by exact_mod_cast ht1
  have e : 2 ^ s * h ||| t = 2 ^ s * h + t := (Nat.two_pow_add_eq_or_of_lt ht2 h).symm
  rw [← Int.natCast_mul] at hsum hlt ⊢
  rw [Nat.mul_comm] at hsum hlt ⊢
  obtain ⟨m, hm⟩ : ∃ m, m = 2 ^ s * h := ⟨_, rfl⟩
  rw [← hm] at hsum hlt e ⊢
  show IntKind.u64.wrap ((BitVec.ofInt 64 (m : Int) ||| BitVec.ofInt 64 (t : Int)).toNat : Int) = _
  rw [BitVec.toNat_or, BitVec.ofInt_natCast, BitVec.ofInt_natCast, BitVec.toNat_ofNat, BitVec.toNat_ofNat, Nat.mod_eq_of_lt (by omega), Nat.mod_eq_of_lt (by omega), e]
  simp [IntKind.wrap, IntKind.signed, IntKind.bits]
  omega
end Go.Proofs.YtfalllekhcocgaaDoor
