/-
  What is read without anything wrong is laid as the bytes that were read: plain arithmetic over lists of bytes.
-/
import Derived.Test.YtefggpcfijcneaaMath
namespace Go.Proofs.Ytefggpcfijcneaa

theorem vnum_conv (most : Nat) : ∀ (l : List UInt8) (k a : Nat), (vnum most l k a).2.2 = 0 →
    ∃ m, (vnum most l k a).1 = a + m * 2 ^ (7 * k) ∧ (0 < k → m ≠ 0) ∧ k < (vnum most l k a).2.1 ∧ l.take ((vnum most l k a).2.1 - k) = vlay m
  | [], k, a, h => by cases h
  | c :: r, k, a, h => by
    unfold vnum at h ⊢
    by_cases h1 : k = 9 ∧ 1 < c.toNat
    · rw [if_pos h1] at h; cases h
    rw [if_neg h1] at h ⊢
    have hc := UInt8.toNat_lt c
    by_cases h2 : 128 ≤ c.toNat
    · rw [if_pos h2] at h ⊢
      obtain ⟨m, e, hm, hk, ht⟩ := vnum_conv most r (k + 1) _ h
      have hm := hm (by omega)
      refine ⟨c.toNat % 128 + 128 * m, ?_, fun _ => by omega, by omega, ?_⟩
      · rw [e, show 7 * (k + 1) = 7 * k + 7 by omega, Nat.pow_add, Nat.add_mul, Nat.add_assoc]
        congr 2
        rw [show (2 : Nat) ^ 7 = 128 by decide, Nat.mul_comm (2 ^ (7 * k)) 128, ← Nat.mul_assoc, Nat.mul_comm m 128]
      · rw [vlay_more (by omega), show (c.toNat % 128 + 128 * m) / 128 = m by omega, ← ht]
        obtain ⟨j, hj⟩ : ∃ j, (vnum most r (k + 1) (a + c.toNat % 128 * 2 ^ (7 * k))).2.1 = k + 1 + (j + 1) := ⟨(vnum most r (k + 1) (a + c.toNat % 128 * 2 ^ (7 * k))).2.1 - (k + 2), by omega⟩
        rw [hj, show k + 1 + (j + 1) - k = (j + 1) + 1 by omega, show k + 1 + (j + 1) - (k + 1) = j + 1 by omega, List.take_succ_cons]
        congr 1
        apply UInt8.toNat_inj.1
        rw [UInt8.toNat_ofNat']
        omega
    rw [if_neg h2] at h ⊢
    by_cases h3 : c.toNat = 0 ∧ 0 < k
    · rw [if_pos h3] at h; cases h
    rw [if_neg h3] at h ⊢
    by_cases h4 : most < a + c.toNat % 128 * 2 ^ (7 * k)
    · rw [if_pos h4] at h; cases h
    rw [if_neg h4] at h ⊢
    refine ⟨c.toNat, by rw [Nat.mod_eq_of_lt (by omega)], fun hk => by omega, by show k < k + 1; omega, ?_⟩
    show (c :: r).take (k + 1 - k) = _
    rw [show k + 1 - k = 0 + 1 by omega, List.take_succ_cons, vlay_small (by omega)]
    simp

theorem rnum_conv {most : Nat} {l : List UInt8} (h : (rnum most l 0).2.2 = 0) : l = vlay (rnum most l 0).1 ++ (rnum most l 0).2.1 := by
  have e : rnum most l 0 = ((vnum most l 0 0).1, l.drop (vnum most l 0 0).2.1, (vnum most l 0 0).2.2) := by
    unfold rnum; rw [if_neg (by simp)]
  rw [e] at h ⊢
  obtain ⟨m, e1, _, _, e2⟩ := vnum_conv most l 0 0 h
  show l = vlay (vnum most l 0 0).1 ++ l.drop (vnum most l 0 0).2.1
  rw [show (vnum most l 0 0).1 = m by rw [e1]; simp, ← e2, Nat.sub_zero, List.take_append_drop]
theorem zig_unzig (n : Nat) : zig (unzig n) = n := by
  unfold unzig
  split
  · unfold zig
    rw [if_pos (by omega)]
    omega
  · unfold zig
    rw [if_neg (by omega)]
    omega
theorem unzig_range {n : Nat} (h : n < 18446744073709551616) : -9223372036854775808 ≤ unzig n ∧ unzig n ≤ 9223372036854775807 := by
  unfold unzig
  split <;> omega
theorem rnum_lt (most : Nat) (l : List UInt8) (f : Nat) : (rnum most l f).1 < 18446744073709551616 := by
  unfold rnum
  split
  · show (0 : Nat) < _; decide
  · rcases vnum_ends most l 0 0 (by omega) (by decide) with ⟨_, _, _, _, h⟩ | ⟨h, _⟩
    · exact h
    · show (vnum most l 0 0).1 < _
      rw [h]; decide
theorem rint_conv {l : List UInt8} (h : (rint l 0).2.2 = 0) : l = vlay (zig (rint l 0).1) ++ (rint l 0).2.1 := by
  unfold rint at h ⊢
  show l = vlay (zig (unzig (rnum 18446744073709551615 l 0).1)) ++ (rnum 18446744073709551615 l 0).2.1
  rw [zig_unzig]
  exact rnum_conv h
theorem rint_range (l : List UInt8) (f : Nat) : -9223372036854775808 ≤ (rint l f).1 ∧ (rint l f).1 ≤ 9223372036854775807 := unzig_range (rnum_lt _ _ _)
theorem rbyte_conv {l : List UInt8} (h : (rbyte 255 l 0).2.2 = 0) : l = UInt8.ofNat (rbyte 255 l 0).1 :: (rbyte 255 l 0).2.1 := by
  unfold rbyte at h ⊢
  rw [if_neg (by simp)] at h ⊢
  cases l with
  | nil => cases h
  | cons b r =>
    have hb := UInt8.toNat_lt b
    simp only [show ¬ 255 < b.toNat by omega, if_false] at h ⊢
    simp
theorem rbyte_lt (most : Nat) (l : List UInt8) (f : Nat) : (rbyte most l f).1 < 256 := by
  unfold rbyte
  split
  · show (0 : Nat) < _; decide
  · cases l with
    | nil => show (0 : Nat) < _; decide
    | cons b r =>
      have hb := UInt8.toNat_lt b
      simp only
      split
      · show (0 : Nat) < _; decide
      · exact hb
theorem rtext_conv {most : Int} {l : List UInt8} (h : (rtext most l 0).2.2 = 0) : l = vlay (rtext most l 0).1.length ++ (rtext most l 0).1 ++ (rtext most l 0).2.1 := by
  unfold rtext at h ⊢
  rw [if_neg (by simp)] at h ⊢
  by_cases h1 : (vnum most.toNat l 0 0).2.2 ≠ 0
  · rw [if_pos h1] at h; exact absurd h h1
  rw [if_neg h1] at h ⊢
  by_cases h2 : l.length - (vnum most.toNat l 0 0).2.1 < (vnum most.toNat l 0 0).1
  · rw [if_pos h2] at h; cases h
  rw [if_neg h2]
  obtain ⟨m, e1, _, _, e2⟩ := vnum_conv most.toNat l 0 0 (by omega)
  obtain ⟨j, hj⟩ : ∃ j, j = (vnum most.toNat l 0 0).2.1 := ⟨_, rfl⟩
  obtain ⟨n, hn⟩ : ∃ n, n = (vnum most.toNat l 0 0).1 := ⟨_, rfl⟩
  rw [← hj, Nat.sub_zero] at e2
  rw [← hn] at e1
  rw [← hj, ← hn] at h2 ⊢
  have hm : m = n := by rw [e1]; simp
  subst hm
  show l = vlay ((l.drop j).take m).length ++ (l.drop j).take m ++ l.drop (j + m)
  rw [List.length_take, List.length_drop, Nat.min_eq_left (by omega), ← e2, List.append_assoc, ← List.drop_drop, List.take_append_drop, List.take_append_drop]
theorem rtext_length (most : Int) (l : List UInt8) (f : Nat) : (rtext most l f).1.length + (rtext most l f).2.1.length ≤ l.length := by
  unfold rtext
  split
  · simp
  · split
    · simp
    · split
      · simp
      · simp only [List.length_take, List.length_drop]; omega
theorem rnum_length (most : Nat) (l : List UInt8) (f : Nat) : (rnum most l f).2.1.length ≤ l.length := by
  unfold rnum
  split
  · simp
  · simp
theorem rint_length (l : List UInt8) (f : Nat) : (rint l f).2.1.length ≤ l.length := rnum_length _ _ _
theorem rbyte_length (most : Nat) (l : List UInt8) (f : Nat) : (rbyte most l f).2.1.length ≤ l.length := by
  unfold rbyte
  split
  · simp
  · cases l with
    | nil => simp
    | cons b r => simp only; split <;> simp
/-- what was wrong stays so -/
theorem rbyte_wrong {most f : Nat} {l : List UInt8} (h : f ≠ 0) : (rbyte most l f).2.2 = f := by unfold rbyte; rw [if_pos h]
theorem rnum_wrong {most f : Nat} {l : List UInt8} (h : f ≠ 0) : (rnum most l f).2.2 = f := by unfold rnum; rw [if_pos h]
theorem rint_wrong {f : Nat} {l : List UInt8} (h : f ≠ 0) : (rint l f).2.2 = f := rnum_wrong h
theorem rtext_wrong {most : Int} {f : Nat} {l : List UInt8} (h : f ≠ 0) : (rtext most l f).2.2 = f := by unfold rtext; rw [if_pos h]
/-- what was read without anything wrong -/
theorem rbyte_back {l : List UInt8} {f : Nat} (h : (rbyte 255 l f).2.2 = 0) : f = 0 ∧ l = UInt8.ofNat (rbyte 255 l f).1 :: (rbyte 255 l f).2.1 := by
  by_cases hf : f = 0
  · subst hf; exact ⟨rfl, rbyte_conv h⟩
  · rw [rbyte_wrong hf] at h; exact absurd h hf
theorem rnum_back {most : Nat} {l : List UInt8} {f : Nat} (h : (rnum most l f).2.2 = 0) : f = 0 ∧ l = vlay (rnum most l f).1 ++ (rnum most l f).2.1 := by
  by_cases hf : f = 0
  · subst hf; exact ⟨rfl, rnum_conv h⟩
  · rw [rnum_wrong hf] at h; exact absurd h hf
theorem rint_back {l : List UInt8} {f : Nat} (h : (rint l f).2.2 = 0) : f = 0 ∧ l = vlay (zig (rint l f).1) ++ (rint l f).2.1 := by
  by_cases hf : f = 0
  · subst hf; exact ⟨rfl, rint_conv h⟩
  · rw [rint_wrong hf] at h; exact absurd h hf
theorem rtext_back {most : Int} {l : List UInt8} {f : Nat} (h : (rtext most l f).2.2 = 0) : f = 0 ∧ l = vlay (rtext most l f).1.length ++ (rtext most l f).1 ++ (rtext most l f).2.1 := by
  by_cases hf : f = 0
  · subst hf; exact ⟨rfl, rtext_conv h⟩
  · rw [rtext_wrong hf] at h; exact absurd h hf
/-- what may be wrong -/
def Bad (f : Nat) : Prop := f = 0 ∨ f = 10 ∨ f = 11 ∨ f = 12
theorem rbyte_bad {most f : Nat} {l : List UInt8} (h : Bad f) : Bad (rbyte most l f).2.2 := by
  unfold rbyte
  split
  · exact h
  · cases l with
    | nil => exact .inr (.inl rfl)
    | cons b r => simp only; split <;> simp [Bad]
theorem vnum_bad (most : Nat) (l : List UInt8) : Bad (vnum most l 0 0).2.2 := by
  rcases vnum_ends most l 0 0 (by omega) (by decide) with ⟨h, _⟩ | ⟨_, _, h⟩
  · exact .inl h
  · exact .inr h
theorem rnum_bad {most f : Nat} {l : List UInt8} (h : Bad f) : Bad (rnum most l f).2.2 := by
  unfold rnum
  split
  · exact h
  · exact vnum_bad most l
theorem rint_bad {f : Nat} {l : List UInt8} (h : Bad f) : Bad (rint l f).2.2 := rnum_bad h
theorem rtext_bad {most : Int} {f : Nat} {l : List UInt8} (h : Bad f) : Bad (rtext most l f).2.2 := by
  unfold rtext
  split
  · exact h
  · split
    · exact vnum_bad _ l
    · split
      · exact .inr (.inl rfl)
      · exact .inl rfl
theorem rend_bad {f : Nat} {l : List UInt8} (h : Bad f) : Bad (rend l f) := by
  unfold rend
  split
  · exact .inr (.inr (.inl rfl))
  · exact h
end Go.Proofs.Ytefggpcfijcneaa
