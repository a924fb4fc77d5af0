/-
  Varints, said plainly, over lists of bytes: what is read, what is laid, and that the one undoes the other. No program, no memory.
-/
namespace Go.Proofs.Ytefggpcfijcneaa

/-- What is read of l, whose first byte is number k of the varint, a being what the bytes ahead have given: the number, how many bytes it takes, what is wrong (10 short, 11 form, 12 long). -/
def vnum (most : Nat) : List UInt8 → Nat → Nat → Nat × Nat × Nat
  | [], _, _ => (0, 0, 10)
  | c :: r, k, a =>
    if k = 9 ∧ 1 < c.toNat then (0, 0, 11)
    else if 128 ≤ c.toNat then vnum most r (k + 1) (a + c.toNat % 128 * 2 ^ (7 * k))
    else if c.toNat = 0 ∧ 0 < k then (0, 0, 11)
    else if most < a + c.toNat % 128 * 2 ^ (7 * k) then (0, 0, 12)
    else (a + c.toNat % 128 * 2 ^ (7 * k), k + 1, 0)

/-- what is read ends well, or is all 0 -/
theorem vnum_ends (most : Nat) : ∀ (l : List UInt8) (k a : Nat), k ≤ 9 → a < 2 ^ (7 * k) →
    ((vnum most l k a).2.2 = 0 ∧ k < (vnum most l k a).2.1 ∧ (vnum most l k a).2.1 ≤ k + l.length ∧ (vnum most l k a).1 ≤ most ∧ (vnum most l k a).1 < 18446744073709551616) ∨
    ((vnum most l k a).1 = 0 ∧ (vnum most l k a).2.1 = 0 ∧ ((vnum most l k a).2.2 = 10 ∨ (vnum most l k a).2.2 = 11 ∨ (vnum most l k a).2.2 = 12))
  | [], k, a, _, _ => .inr ⟨rfl, rfl, .inl rfl⟩
  | c :: r, k, a, hk, ha => by
    unfold vnum
    by_cases h1 : k = 9 ∧ 1 < c.toNat
    · rw [if_pos h1]; exact .inr ⟨rfl, rfl, .inr (.inl rfl)⟩
    rw [if_neg h1]
    have hp : (2 : Nat) ^ (7 * (k + 1)) = 128 * 2 ^ (7 * k) := by rw [Nat.mul_add, Nat.pow_add]; omega
    have hc : c.toNat % 128 * 2 ^ (7 * k) ≤ 127 * 2 ^ (7 * k) := Nat.mul_le_mul_right _ (by omega)
    by_cases h2 : 128 ≤ c.toNat
    · rw [if_pos h2]
      have := vnum_ends most r (k + 1) (a + c.toNat % 128 * 2 ^ (7 * k)) (by omega) (by rw [hp]; omega)
      rcases this with ⟨a1, a2, a3, a4, a5⟩ | h
      · exact .inl ⟨a1, by omega, by rw [List.length_cons]; omega, a4, a5⟩
      · exact .inr h
    rw [if_neg h2]
    by_cases h3 : c.toNat = 0 ∧ 0 < k
    · rw [if_pos h3]; exact .inr ⟨rfl, rfl, .inr (.inl rfl)⟩
    rw [if_neg h3]
    by_cases h4 : most < a + c.toNat % 128 * 2 ^ (7 * k)
    · rw [if_pos h4]; exact .inr ⟨rfl, rfl, .inr (.inr rfl)⟩
    rw [if_neg h4]
    refine .inl ⟨rfl, by show k < k + 1; omega, by rw [List.length_cons]; show k + 1 ≤ _; omega, by show a + _ ≤ _; omega, ?_⟩
    show a + c.toNat % 128 * 2 ^ (7 * k) < 18446744073709551616
    by_cases h9 : k = 9
    · subst h9
      have hc1 : c.toNat % 128 * 2 ^ (7 * 9) ≤ 1 * 2 ^ (7 * 9) := Nat.mul_le_mul_right _ (by omega)
      omega
    · have : (2 : Nat) ^ (7 * k) ≤ 2 ^ 56 := Nat.pow_le_pow_right (by omega) (by omega)
      omega

/-- A number's bytes. -/
def vlay (n : Nat) : List UInt8 := if n < 128 then [UInt8.ofNat n] else UInt8.ofNat (n % 128 + 128) :: vlay (n / 128)
termination_by n
decreasing_by omega
/-- a whole number as one that is not below 0 -/
def zig (n : Int) : Nat := if 0 ≤ n then (2 * n).toNat else (-2 * n - 1).toNat

theorem vlay_small {n : Nat} (h : n < 128) : vlay n = [UInt8.ofNat n] := by rw [vlay, if_pos h]
theorem vlay_more {n : Nat} (h : 128 ≤ n) : vlay n = UInt8.ofNat (n % 128 + 128) :: vlay (n / 128) := by rw [vlay, if_neg (by omega)]
theorem vlay_length_pow : ∀ (k n : Nat), n < 128 ^ (k + 1) → (vlay n).length ≤ k + 1
  | 0, n, h => by rw [vlay_small (by simpa using h)]; simp
  | k + 1, n, h => by
    by_cases h1 : n < 128
    · rw [vlay_small h1]; simp
    · rw [vlay_more (by omega), List.length_cons]
      have := vlay_length_pow k (n / 128) (by rw [Nat.div_lt_iff_lt_mul (by omega)]; rw [Nat.pow_succ] at h; exact h)
      omega
theorem vlay_length (n : Nat) (h : n < 18446744073709551616) : (vlay n).length ≤ 10 := vlay_length_pow 9 n (by omega)
theorem vlay_pos (n : Nat) : 0 < (vlay n).length := by
  rw [vlay]; split <;> simp
theorem zig_lt (n : Int) (h1 : -9223372036854775808 ≤ n) (h2 : n ≤ 9223372036854775807) : zig n < 18446744073709551616 := by
  unfold zig; split <;> omega

/-! A reader: the bytes that are left, and what was wrong first (0: nothing). Each answers the value, then these two. -/
def rbyte (most : Nat) (l : List UInt8) (f : Nat) : Nat × List UInt8 × Nat :=
  if f ≠ 0 then (0, l, f)
  else match l with
    | [] => (0, [], 10)
    | b :: r => if most < b.toNat then (0, b :: r, 12) else (b.toNat, r, 0)
def rnum (most : Nat) (l : List UInt8) (f : Nat) : Nat × List UInt8 × Nat :=
  if f ≠ 0 then (0, l, f) else ((vnum most l 0 0).1, l.drop (vnum most l 0 0).2.1, (vnum most l 0 0).2.2)
/-- the number that a varint stands for -/
def unzig (n : Nat) : Int := if n % 2 = 0 then (n / 2 : Nat) else -((n / 2 : Nat) : Int) - 1
def rint (l : List UInt8) (f : Nat) : Int × List UInt8 × Nat := (unzig (rnum 18446744073709551615 l f).1, (rnum 18446744073709551615 l f).2)
def rtext (most : Int) (l : List UInt8) (f : Nat) : List UInt8 × List UInt8 × Nat :=
  if f ≠ 0 then ([], l, f)
  else if (vnum most.toNat l 0 0).2.2 ≠ 0 then ([], l, (vnum most.toNat l 0 0).2.2)
  else if l.length - (vnum most.toNat l 0 0).2.1 < (vnum most.toNat l 0 0).1 then ([], l, 10)
  else ((l.drop (vnum most.toNat l 0 0).2.1).take (vnum most.toNat l 0 0).1, l.drop ((vnum most.toNat l 0 0).2.1 + (vnum most.toNat l 0 0).1), 0)
def rend (l : List UInt8) (f : Nat) : Nat := if f = 0 ∧ 0 < l.length then 11 else f

end Go.Proofs.Ytefggpcfijcneaa
