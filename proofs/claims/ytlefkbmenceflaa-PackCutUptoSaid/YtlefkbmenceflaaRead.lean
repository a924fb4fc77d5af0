/-
  What was laid is read again; what was cut off ends too early: over lists of bytes. No program, no memory.
-/
import Derived.Test.YtlefkbmenceflaaMath
namespace Go.Proofs.Ytlefkbmenceflaa

theorem pow_step (k : Nat) : (2 : Nat) ^ (7 * (k + 1)) = 128 * 2 ^ (7 * k) := by rw [Nat.mul_add, Nat.pow_add]; omega
theorem byte_of (n : Nat) (h : n < 256) : (UInt8.ofNat n).toNat = n := by simp [UInt8.toNat_ofNat']; omega
theorem digit_sum (n k a : Nat) : a + n % 128 * 2 ^ (7 * k) + n / 128 * 2 ^ (7 * (k + 1)) = a + n * 2 ^ (7 * k) := by
  rw [pow_step]
  have h : n = 128 * (n / 128) + n % 128 := by omega
  have h2 : n * 2 ^ (7 * k) = (128 * (n / 128) + n % 128) * 2 ^ (7 * k) := by rw [← h]
  rw [h2, Nat.add_mul, Nat.mul_comm 128 (n / 128), Nat.mul_assoc]
  omega
theorem small_k {n k a : Nat} (hs : a + n * 2 ^ (7 * k) < 18446744073709551616) (hk : k ≤ 9) (hn : 2 ≤ n) : k < 9 := by
  rcases Nat.lt_or_ge k 9 with h | h
  · exact h
  · have : k = 9 := by omega
    subst this
    have : 2 * 2 ^ (7 * 9) ≤ n * 2 ^ (7 * 9) := Nat.mul_le_mul_right _ hn
    omega

theorem vnum_lay (most : Nat) (n : Nat) : ∀ (k a : Nat) (r : List UInt8), (0 < k → 0 < n) → a + n * 2 ^ (7 * k) ≤ most → a + n * 2 ^ (7 * k) < 18446744073709551616 → k ≤ 9 →
    vnum most (vlay n ++ r) k a = (a + n * 2 ^ (7 * k), k + (vlay n).length, 0) := by
  induction n using Nat.strongRecOn with
  | _ n ih =>
    intro k a r h0 hm hs hk
    by_cases hn : n < 128
    · rw [vlay_small hn]
      simp only [List.cons_append, List.nil_append, List.length_cons, List.length_nil]
      unfold vnum
      rw [byte_of n (by omega), if_neg, if_neg (by omega), if_neg (by omega), Nat.mod_eq_of_lt hn, if_neg (by omega)]
      rintro ⟨rfl, h1⟩
      have := small_k hs hk h1
      omega
    · have hk9 := small_k hs hk (show 2 ≤ n by omega)
      rw [vlay_more (by omega)]
      simp only [List.cons_append, List.length_cons]
      unfold vnum
      rw [byte_of _ (by omega), if_neg (by omega), if_pos (by omega), show (n % 128 + 128) % 128 = n % 128 by omega]
      rw [ih (n / 128) (by omega) (k + 1) _ r (fun _ => by omega) (by rw [digit_sum]; exact hm) (by rw [digit_sum]; exact hs) (by omega), digit_sum]
      congr 2
      omega

theorem vnum_cut (most : Nat) (n : Nat) : ∀ (k a m : Nat), m < (vlay n).length → a + n * 2 ^ (7 * k) < 18446744073709551616 → k ≤ 9 → vnum most ((vlay n).take m) k a = (0, 0, 10) := by
  induction n using Nat.strongRecOn with
  | _ n ih =>
    intro k a m hm hs hk
    by_cases hn : n < 128
    · rw [vlay_small hn] at hm ⊢
      have : m = 0 := by simpa using hm
      subst this
      rfl
    · have hk9 := small_k hs hk (show 2 ≤ n by omega)
      rw [vlay_more (by omega)] at hm ⊢
      cases m with
      | zero => rfl
      | succ m =>
        simp only [List.take_succ_cons]
        unfold vnum
        rw [byte_of _ (by omega), if_neg (by omega), if_pos (by omega), show (n % 128 + 128) % 128 = n % 128 by omega]
        exact ih (n / 128) (by omega) (k + 1) _ m (by simpa using hm) (by rw [digit_sum]; exact hs) (by omega)

theorem vnum_lay0 (most n : Nat) (r : List UInt8) (hm : n ≤ most) (hs : n < 18446744073709551616) : vnum most (vlay n ++ r) 0 0 = (n, (vlay n).length, 0) := by
  have := vnum_lay most n 0 0 r (by omega) (by simpa using hm) (by simpa using hs) (by omega)
  simpa using this
theorem vnum_cut0 (most n m : Nat) (hm : m < (vlay n).length) (hs : n < 18446744073709551616) : vnum most ((vlay n).take m) 0 0 = (0, 0, 10) :=
  vnum_cut most n 0 0 m hm (by simpa using hs) (by omega)

/-! ## whole -/
theorem rbyte_lay (most : Nat) (b : UInt8) (r : List UInt8) (h : b.toNat ≤ most) : rbyte most (b :: r) 0 = (b.toNat, r, 0) := by
  simp only [rbyte]
  rw [if_neg (by simp), if_neg (by omega)]
theorem rnum_lay (most n : Nat) (r : List UInt8) (hm : n ≤ most) (hs : n < 18446744073709551616) : rnum most (vlay n ++ r) 0 = (n, r, 0) := by
  unfold rnum
  rw [if_neg (by simp), vnum_lay0 most n r hm hs]
  simp
theorem unzig_zig (i : Int) : unzig (zig i) = i := by
  unfold unzig zig
  by_cases h : 0 ≤ i
  · rw [if_pos h, if_pos (by omega)]; omega
  · rw [if_neg h, if_neg (by omega)]; omega
theorem rint_lay (i : Int) (r : List UInt8) (h1 : -9223372036854775808 ≤ i) (h2 : i ≤ 9223372036854775807) : rint (vlay (zig i) ++ r) 0 = (i, r, 0) := by
  have hz := zig_lt i h1 h2
  unfold rint
  rw [rnum_lay _ _ _ (by omega) hz, unzig_zig]
theorem rtext_lay (most : Int) (t r : List UInt8) (hm : (t.length : Int) ≤ most) (hs : t.length < 18446744073709551616) : rtext most (vlay t.length ++ t ++ r) 0 = (t, r, 0) := by
  unfold rtext
  rw [if_neg (by simp), List.append_assoc, vnum_lay0 most.toNat t.length (t ++ r) (by omega) hs]
  simp only [List.length_append, List.drop_append_of_le_length (Nat.le_refl _), List.drop_length, List.nil_append]
  rw [if_neg (by simp), if_neg (by omega)]
  simp [List.drop_append, Nat.add_sub_cancel_left]

/-! ## cut off -/
theorem rbyte_cut (most : Nat) : rbyte most [] 0 = (0, [], 10) := by simp [rbyte]
theorem rnum_cut (most n m : Nat) (hm : m < (vlay n).length) (hs : n < 18446744073709551616) : rnum most ((vlay n).take m) 0 = (0, (vlay n).take m, 10) := by
  unfold rnum
  rw [if_neg (by simp), vnum_cut0 most n m hm hs]
  simp
theorem rint_cut (i : Int) (m : Nat) (h1 : -9223372036854775808 ≤ i) (h2 : i ≤ 9223372036854775807) (hm : m < (vlay (zig i)).length) : (rint ((vlay (zig i)).take m) 0).2.2 = 10 := by
  unfold rint
  rw [rnum_cut _ _ _ hm (zig_lt i h1 h2)]
theorem rtext_cut (most : Int) (t : List UInt8) (m : Nat) (hm : (t.length : Int) ≤ most) (hs : t.length < 18446744073709551616) (hc : m < (vlay t.length ++ t).length) : (rtext most ((vlay t.length ++ t).take m) 0).2.2 = 10 := by
  unfold rtext
  rw [if_neg (by simp)]
  by_cases h : m < (vlay t.length).length
  · rw [List.take_append_of_le_length (by omega), vnum_cut0 _ _ _ h hs, if_pos (by simp)]
  · obtain ⟨j, rfl⟩ : ∃ j, m = (vlay t.length).length + j := ⟨m - (vlay t.length).length, by omega⟩
    rw [List.length_append] at hc
    rw [List.take_length_add_append, vnum_lay0 most.toNat t.length _ (by omega) hs, if_neg (by simp), if_pos]
    simp only [List.length_append, List.length_take]
    omega
/-! ## a fault stays -/
theorem rbyte_stuck {most f : Nat} {l : List UInt8} (h : f ≠ 0) : rbyte most l f = (0, l, f) := by simp [rbyte, h]
theorem rnum_stuck {most f : Nat} {l : List UInt8} (h : f ≠ 0) : rnum most l f = (0, l, f) := by simp [rnum, h]
theorem rint_stuck {f : Nat} {l : List UInt8} (h : f ≠ 0) : rint l f = (0, l, f) := by simp [rint, rnum, h, unzig]
theorem rtext_stuck {most : Int} {f : Nat} {l : List UInt8} (h : f ≠ 0) : rtext most l f = ([], l, f) := by simp [rtext, h]

/-! ## a beginning of D, cut off, or a fault that says so -/
def CutInv (D l : List UInt8) (f : Nat) : Prop := f = 10 ∨ (f = 0 ∧ ∃ m, m < D.length ∧ l = D.take m)
theorem CutInv.parts {B R l : List UInt8} {f : Nat} (h : CutInv (B ++ R) l f) : f = 10 ∨ (f = 0 ∧ ∃ m, m < B.length ∧ l = B.take m) ∨ (f = 0 ∧ ∃ m, m < R.length ∧ l = B ++ R.take m) := by
  rcases h with h | ⟨h, m, hm, rfl⟩
  · exact .inl h
  · rw [List.length_append] at hm
    by_cases hb : m < B.length
    · exact .inr (.inl ⟨h, m, hb, List.take_append_of_le_length (by omega)⟩)
    · obtain ⟨j, rfl⟩ : ∃ j, m = B.length + j := ⟨m - B.length, by omega⟩
      exact .inr (.inr ⟨h, j, by omega, List.take_length_add_append ..⟩)
theorem cut_byte {b : UInt8} {R l : List UInt8} {f most : Nat} (h : CutInv ([b] ++ R) l f) (hm : b.toNat ≤ most) : CutInv R (rbyte most l f).2.1 (rbyte most l f).2.2 := by
  rcases h.parts with rfl | ⟨rfl, m, hb, rfl⟩ | ⟨rfl, m, hr, rfl⟩
  · rw [rbyte_stuck (by decide)]; exact .inl rfl
  · have : m = 0 := by simpa using hb
    subst this
    rw [List.take_zero, rbyte_cut]; exact .inl rfl
  · rw [List.singleton_append, rbyte_lay most b _ hm]; exact .inr ⟨rfl, m, hr, rfl⟩
theorem cut_num {n : Nat} {R l : List UInt8} {f most : Nat} (h : CutInv (vlay n ++ R) l f) (hm : n ≤ most) (hs : n < 18446744073709551616) : CutInv R (rnum most l f).2.1 (rnum most l f).2.2 := by
  rcases h.parts with rfl | ⟨rfl, m, hb, rfl⟩ | ⟨rfl, m, hr, rfl⟩
  · rw [rnum_stuck (by decide)]; exact .inl rfl
  · rw [rnum_cut most n m hb hs]; exact .inl rfl
  · rw [rnum_lay most n _ hm hs]; exact .inr ⟨rfl, m, hr, rfl⟩
theorem cut_int {i : Int} {R l : List UInt8} {f : Nat} (h : CutInv (vlay (zig i) ++ R) l f) (h1 : -9223372036854775808 ≤ i) (h2 : i ≤ 9223372036854775807) : CutInv R (rint l f).2.1 (rint l f).2.2 := by
  rcases h.parts with rfl | ⟨rfl, m, hb, rfl⟩ | ⟨rfl, m, hr, rfl⟩
  · rw [rint_stuck (by decide)]; exact .inl rfl
  · exact .inl (rint_cut i m h1 h2 hb)
  · rw [rint_lay i _ h1 h2]; exact .inr ⟨rfl, m, hr, rfl⟩
theorem cut_text {t R l : List UInt8} {f : Nat} {most : Int} (h : CutInv (vlay t.length ++ t ++ R) l f) (hm : (t.length : Int) ≤ most) (hs : t.length < 18446744073709551616) : CutInv R (rtext most l f).2.1 (rtext most l f).2.2 := by
  rcases h.parts with rfl | ⟨rfl, m, hb, rfl⟩ | ⟨rfl, m, hr, rfl⟩
  · rw [rtext_stuck (by decide)]; exact .inl rfl
  · exact .inl (rtext_cut most t m hm hs hb)
  · rw [rtext_lay most t _ hm hs]; exact .inr ⟨rfl, m, hr, rfl⟩
theorem CutInv.end_ {l : List UInt8} {f : Nat} (h : CutInv [] l f) : rend l f = 10 := by
  rcases h with rfl | ⟨_, m, hm, _⟩
  · unfold rend; rw [if_neg (by omega)]
  · simp at hm
end Go.Proofs.Ytlefkbmenceflaa
