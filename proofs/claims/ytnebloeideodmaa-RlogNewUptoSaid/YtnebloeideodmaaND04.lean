/-
  Clone · Math · Bits · Writer · Varint · RefLay · RefRead · OneMath · Read · CmdM · RdT · CmdK
-/
import Derived.Test.YtnebloeideodmaaNA01
import Derived.Test.YtnebloeideodmaaND03
import Derived.Test.YtnebloeideodmaaRows
import Derived.WalkKit
import Derived.Deep.QuietTactic
import Derived.BigQuiet
set_option linter.unusedSimpArgs false
set_option linter.unusedVariables false

namespace Go.Proofs.Ytnebloeideodmaa
open Go.RowKit

theorem tyU8 : U8 Try.prog 30 5 := ⟨Try.underlying30, Try.underlying5, by kernel_rfl⟩

theorem clone_any {S : Nat → Prop} (w : World) (A : Option Addr) (c : Nat) (l : List UInt8) (h : Bs S w A c l) (hl : l.length ≤ 140737488355328) :
    Calls Try.prog 69 #[.slice A l.length c] w fun e w' => ∃ v', e = .returned v' ∧ Own 5 w' w.heap.size v' l ∧ Below w.heap.size w w' := by
  have q : ∀ (W : World) (a : Option Addr) (n c : Nat), (binOp .eql 30 (.slice a n c) (.slice none 0 0)).run Try.prog W = .ok (.bool a.isNone) W :=
    fun W a n c => Lib.run_eql_slice_nil W _ _ a n c 0 0 Try.underlying30
  cases A with
  | none =>
    have hm : l = [] := h.of_none
    subst hm
    go_enter Try.func69, Try.ntmps69
    go_wp2
    go_ret
    exact ⟨_, rfl, Own.nil _ _ _, Below.refl _ _⟩
  | some a =>
    go_enter Try.func69, Try.ntmps69
    have own0 : Own 5 (w.alloc (.cells #[] 5)) w.heap.size (.slice (some ⟨w.heap.size, 0, none⟩) 0 0) [] := World.ownsRow_made w #[] 0 (Nat.le_refl _) (by simp [maxLen]) rfl
    have src : Bs (fun k => S k ∧ k < w.heap.size) (w.alloc (.cells #[] 5)) (some a) c l := (h.cut_old).mod ((Mod.refl Nil w).alloc _) (fun _ _ hf => hf)
    go_wp2_with (at_builtin; refine wpList_append_bs (t := 30) tyU8 rfl (.tmp 5) (.tmp 6) rfl own0 (by simp) src l.length (by simp) rfl rfl hl ?_; intro A' c' w' ho hm ha)
    go_ret
    refine ⟨_, rfl, by simpa using ho, ?_⟩
    exact ((Mod.refl Nil w).alloc _ |>.trans hm (fun i hi e => by rw [At.iff] at e; omega)).below (Nat.le_refl _) (fun _ hf => hf.elim)
end Go.Proofs.Ytnebloeideodmaa

namespace Go.Proofs.Ytnebloeideodmaa

/-- What is read of l, whose first byte is number k of the varint, a being what the bytes ahead have given: the number, how many bytes it takes, what is wrong (10 short, 11 form, 12 long). -/
def vnum (most : Nat) : List UInt8 → Nat → Nat → Nat × Nat × Nat
  | [], _, _ => (0, 0, 10)
  | c :: r, k, a =>
    if k = 9 ∧ 1 < c.toNat then (0, 0, 11)
    else if 128 ≤ c.toNat then vnum most r (k + 1) (a + c.toNat % 128 * 2 ^ (7 * k))
    else if c.toNat = 0 ∧ 0 < k then (0, 0, 11)
    else if most < a + c.toNat % 128 * 2 ^ (7 * k) then (0, 0, 12)
    else (a + c.toNat % 128 * 2 ^ (7 * k), k + 1, 0)

/-- what is read ends well, or is all 0 -/
theorem vnum_ends (most : Nat) : ∀ (l : List UInt8) (k a : Nat), k ≤ 9 → a < 2 ^ (7 * k) →
    ((vnum most l k a).2.2 = 0 ∧ k < (vnum most l k a).2.1 ∧ (vnum most l k a).2.1 ≤ k + l.length ∧ (vnum most l k a).1 ≤ most ∧ (vnum most l k a).1 < 18446744073709551616) ∨
    ((vnum most l k a).1 = 0 ∧ (vnum most l k a).2.1 = 0 ∧ ((vnum most l k a).2.2 = 10 ∨ (vnum most l k a).2.2 = 11 ∨ (vnum most l k a).2.2 = 12))
  | [], k, a, _, _ => .inr ⟨rfl, rfl, .inl rfl⟩
  | c :: r, k, a, hk, ha => by
    unfold vnum
    by_cases h1 : k = 9 ∧ 1 < c.toNat
    · rw [if_pos h1]; exact .inr ⟨rfl, rfl, .inr (.inl rfl)⟩
    rw [if_neg h1]
    have hp : (2 : Nat) ^ (7 * (k + 1)) = 128 * 2 ^ (7 * k) := by rw [Nat.mul_add, Nat.pow_add]; omega
    have hc : c.toNat % 128 * 2 ^ (7 * k) ≤ 127 * 2 ^ (7 * k) := Nat.mul_le_mul_right _ (by omega)
    by_cases h2 : 128 ≤ c.toNat
    · rw [if_pos h2]
      have := vnum_ends most r (k + 1) (a + c.toNat % 128 * 2 ^ (7 * k)) (by omega) (by rw [hp]; omega)
      rcases this with ⟨a1, a2, a3, a4, a5⟩ | h
      · exact .inl ⟨a1, by omega, by rw [List.length_cons]; omega, a4, a5⟩
      · exact .inr h
    rw [if_neg h2]
    by_cases h3 : c.toNat = 0 ∧ 0 < k
    · rw [if_pos h3]; exact .inr ⟨rfl, rfl, .inr (.inl rfl)⟩
    rw [if_neg h3]
    by_cases h4 : most < a + c.toNat % 128 * 2 ^ (7 * k)
    · rw [if_pos h4]; exact .inr ⟨rfl, rfl, .inr (.inr rfl)⟩
    rw [if_neg h4]
    refine .inl ⟨rfl, by show k < k + 1; omega, by rw [List.length_cons]; show k + 1 ≤ _; omega, by show a + _ ≤ _; omega, ?_⟩
    show a + c.toNat % 128 * 2 ^ (7 * k) < 18446744073709551616
    by_cases h9 : k = 9
    · subst h9
      have hc1 : c.toNat % 128 * 2 ^ (7 * 9) ≤ 1 * 2 ^ (7 * 9) := Nat.mul_le_mul_right _ (by omega)
      omega
    · have : (2 : Nat) ^ (7 * k) ≤ 2 ^ 56 := Nat.pow_le_pow_right (by omega) (by omega)
      omega

/-- A number's bytes. -/
def vlay (n : Nat) : List UInt8 := if n < 128 then [UInt8.ofNat n] else UInt8.ofNat (n % 128 + 128) :: vlay (n / 128)
termination_by n
decreasing_by omega
theorem vlay_small {n : Nat} (h : n < 128) : vlay n = [UInt8.ofNat n] := by rw [vlay, if_pos h]
theorem vlay_more {n : Nat} (h : 128 ≤ n) : vlay n = UInt8.ofNat (n % 128 + 128) :: vlay (n / 128) := by rw [vlay, if_neg (by omega)]
/-! A reader: the bytes that are left, and what was wrong first (0: nothing). Each answers the value, then these two. -/
def rbyte (most : Nat) (l : List UInt8) (f : Nat) : Nat × List UInt8 × Nat :=
  if f ≠ 0 then (0, l, f)
  else match l with
    | [] => (0, [], 10)
    | b :: r => if most < b.toNat then (0, b :: r, 12) else (b.toNat, r, 0)
def rnum (most : Nat) (l : List UInt8) (f : Nat) : Nat × List UInt8 × Nat :=
  if f ≠ 0 then (0, l, f) else ((vnum most l 0 0).1, l.drop (vnum most l 0 0).2.1, (vnum most l 0 0).2.2)
/-- the number that a varint stands for -/
def unzig (n : Nat) : Int := if n % 2 = 0 then (n / 2 : Nat) else -((n / 2 : Nat) : Int) - 1
def rint (l : List UInt8) (f : Nat) : Int × List UInt8 × Nat := (unzig (rnum 18446744073709551615 l f).1, (rnum 18446744073709551615 l f).2)
def rtext (most : Int) (l : List UInt8) (f : Nat) : List UInt8 × List UInt8 × Nat :=
  if f ≠ 0 then ([], l, f)
  else if (vnum most.toNat l 0 0).2.2 ≠ 0 then ([], l, (vnum most.toNat l 0 0).2.2)
  else if l.length - (vnum most.toNat l 0 0).2.1 < (vnum most.toNat l 0 0).1 then ([], l, 10)
  else ((l.drop (vnum most.toNat l 0 0).2.1).take (vnum most.toNat l 0 0).1, l.drop ((vnum most.toNat l 0 0).2.1 + (vnum most.toNat l 0 0).1), 0)
def rend (l : List UInt8) (f : Nat) : Nat := if f = 0 ∧ 0 < l.length then 11 else f

end Go.Proofs.Ytnebloeideodmaa

namespace Go.Proofs.Ytnebloeideodmaa
open Go.RowKit

end Go.Proofs.Ytnebloeideodmaa

namespace Go.Proofs.Ytnebloeideodmaa
open Go.RowKit

end Go.Proofs.Ytnebloeideodmaa

namespace Go.Proofs.Ytnebloeideodmaa
open Go.RowKit

end Go.Proofs.Ytnebloeideodmaa

namespace Go.Proofs.Ytnebloeideodmaa
open Go.RowKit

end Go.Proofs.Ytnebloeideodmaa

namespace Go.Proofs.Ytnebloeideodmaa
open Go.RowKit

end Go.Proofs.Ytnebloeideodmaa

namespace Go.Proofs.Ytnebloeideodmaa

theorem vnum_conv (most : Nat) : ∀ (l : List UInt8) (k a : Nat), (vnum most l k a).2.2 = 0 →
    ∃ m, (vnum most l k a).1 = a + m * 2 ^ (7 * k) ∧ (0 < k → m ≠ 0) ∧ k < (vnum most l k a).2.1 ∧ l.take ((vnum most l k a).2.1 - k) = vlay m
  | [], k, a, h => by cases h
  | c :: r, k, a, h => by
    unfold vnum at h ⊢
    by_cases h1 : k = 9 ∧ 1 < c.toNat
    · rw [if_pos h1] at h; cases h
    rw [if_neg h1] at h ⊢
    have hc := UInt8.toNat_lt c
    by_cases h2 : 128 ≤ c.toNat
    · rw [if_pos h2] at h ⊢
      obtain ⟨m, e, hm, hk, ht⟩ := vnum_conv most r (k + 1) _ h
      have hm := hm (by omega)
      refine ⟨c.toNat % 128 + 128 * m, ?_, fun _ => by omega, by omega, ?_⟩
      · rw [e, show 7 * (k + 1) = 7 * k + 7 by omega, Nat.pow_add, Nat.add_mul, Nat.add_assoc]
        congr 2
        rw [show (2 : Nat) ^ 7 = 128 by decide, Nat.mul_comm (2 ^ (7 * k)) 128, ← Nat.mul_assoc, Nat.mul_comm m 128]
      · rw [vlay_more (by omega), show (c.toNat % 128 + 128 * m) / 128 = m by omega, ← ht]
        obtain ⟨j, hj⟩ : ∃ j, (vnum most r (k + 1) (a + c.toNat % 128 * 2 ^ (7 * k))).2.1 = k + 1 + (j + 1) := ⟨(vnum most r (k + 1) (a + c.toNat % 128 * 2 ^ (7 * k))).2.1 - (k + 2), by omega⟩
        rw [hj, show k + 1 + (j + 1) - k = (j + 1) + 1 by omega, show k + 1 + (j + 1) - (k + 1) = j + 1 by omega, List.take_succ_cons]
        congr 1
        apply UInt8.toNat_inj.1
        rw [UInt8.toNat_ofNat']
        omega
    rw [if_neg h2] at h ⊢
    by_cases h3 : c.toNat = 0 ∧ 0 < k
    · rw [if_pos h3] at h; cases h
    rw [if_neg h3] at h ⊢
    by_cases h4 : most < a + c.toNat % 128 * 2 ^ (7 * k)
    · rw [if_pos h4] at h; cases h
    rw [if_neg h4] at h ⊢
    refine ⟨c.toNat, by rw [Nat.mod_eq_of_lt (by omega)], fun hk => by omega, by show k < k + 1; omega, ?_⟩
    show (c :: r).take (k + 1 - k) = _
    rw [show k + 1 - k = 0 + 1 by omega, List.take_succ_cons, vlay_small (by omega)]
    simp

theorem rnum_conv {most : Nat} {l : List UInt8} (h : (rnum most l 0).2.2 = 0) : l = vlay (rnum most l 0).1 ++ (rnum most l 0).2.1 := by
  have e : rnum most l 0 = ((vnum most l 0 0).1, l.drop (vnum most l 0 0).2.1, (vnum most l 0 0).2.2) := by
    unfold rnum; rw [if_neg (by simp)]
  rw [e] at h ⊢
  obtain ⟨m, e1, _, _, e2⟩ := vnum_conv most l 0 0 h
  show l = vlay (vnum most l 0 0).1 ++ l.drop (vnum most l 0 0).2.1
  rw [show (vnum most l 0 0).1 = m by rw [e1]; simp, ← e2, Nat.sub_zero, List.take_append_drop]
theorem unzig_range {n : Nat} (h : n < 18446744073709551616) : -9223372036854775808 ≤ unzig n ∧ unzig n ≤ 9223372036854775807 := by
  unfold unzig
  split <;> omega
theorem rnum_lt (most : Nat) (l : List UInt8) (f : Nat) : (rnum most l f).1 < 18446744073709551616 := by
  unfold rnum
  split
  · show (0 : Nat) < _; decide
  · rcases vnum_ends most l 0 0 (by omega) (by decide) with ⟨_, _, _, _, h⟩ | ⟨h, _⟩
    · exact h
    · show (vnum most l 0 0).1 < _
      rw [h]; decide
theorem rint_range (l : List UInt8) (f : Nat) : -9223372036854775808 ≤ (rint l f).1 ∧ (rint l f).1 ≤ 9223372036854775807 := unzig_range (rnum_lt _ _ _)
theorem rbyte_lt (most : Nat) (l : List UInt8) (f : Nat) : (rbyte most l f).1 < 256 := by
  unfold rbyte
  split
  · show (0 : Nat) < _; decide
  · cases l with
    | nil => show (0 : Nat) < _; decide
    | cons b r =>
      have hb := UInt8.toNat_lt b
      simp only
      split
      · show (0 : Nat) < _; decide
      · exact hb
theorem rtext_conv {most : Int} {l : List UInt8} (h : (rtext most l 0).2.2 = 0) : l = vlay (rtext most l 0).1.length ++ (rtext most l 0).1 ++ (rtext most l 0).2.1 := by
  unfold rtext at h ⊢
  rw [if_neg (by simp)] at h ⊢
  by_cases h1 : (vnum most.toNat l 0 0).2.2 ≠ 0
  · rw [if_pos h1] at h; exact absurd h h1
  rw [if_neg h1] at h ⊢
  by_cases h2 : l.length - (vnum most.toNat l 0 0).2.1 < (vnum most.toNat l 0 0).1
  · rw [if_pos h2] at h; cases h
  rw [if_neg h2]
  obtain ⟨m, e1, _, _, e2⟩ := vnum_conv most.toNat l 0 0 (by omega)
  obtain ⟨j, hj⟩ : ∃ j, j = (vnum most.toNat l 0 0).2.1 := ⟨_, rfl⟩
  obtain ⟨n, hn⟩ : ∃ n, n = (vnum most.toNat l 0 0).1 := ⟨_, rfl⟩
  rw [← hj, Nat.sub_zero] at e2
  rw [← hn] at e1
  rw [← hj, ← hn] at h2 ⊢
  have hm : m = n := by rw [e1]; simp
  subst hm
  show l = vlay ((l.drop j).take m).length ++ (l.drop j).take m ++ l.drop (j + m)
  rw [List.length_take, List.length_drop, Nat.min_eq_left (by omega), ← e2, List.append_assoc, ← List.drop_drop, List.take_append_drop, List.take_append_drop]
/-- what was wrong stays so -/
theorem rbyte_wrong {most f : Nat} {l : List UInt8} (h : f ≠ 0) : (rbyte most l f).2.2 = f := by unfold rbyte; rw [if_pos h]
theorem rnum_wrong {most f : Nat} {l : List UInt8} (h : f ≠ 0) : (rnum most l f).2.2 = f := by unfold rnum; rw [if_pos h]
theorem rtext_wrong {most : Int} {f : Nat} {l : List UInt8} (h : f ≠ 0) : (rtext most l f).2.2 = f := by unfold rtext; rw [if_pos h]
theorem rnum_back {most : Nat} {l : List UInt8} {f : Nat} (h : (rnum most l f).2.2 = 0) : f = 0 ∧ l = vlay (rnum most l f).1 ++ (rnum most l f).2.1 := by
  by_cases hf : f = 0
  · subst hf; exact ⟨rfl, rnum_conv h⟩
  · rw [rnum_wrong hf] at h; exact absurd h hf
theorem rtext_back {most : Int} {l : List UInt8} {f : Nat} (h : (rtext most l f).2.2 = 0) : f = 0 ∧ l = vlay (rtext most l f).1.length ++ (rtext most l f).1 ++ (rtext most l f).2.1 := by
  by_cases hf : f = 0
  · subst hf; exact ⟨rfl, rtext_conv h⟩
  · rw [rtext_wrong hf] at h; exact absurd h hf
end Go.Proofs.Ytnebloeideodmaa

namespace Go.Proofs.Ytnebloeideodmaa

theorem pow_step (k : Nat) : (2 : Nat) ^ (7 * (k + 1)) = 128 * 2 ^ (7 * k) := by rw [Nat.mul_add, Nat.pow_add]; omega
theorem byte_of (n : Nat) (h : n < 256) : (UInt8.ofNat n).toNat = n := by simp [UInt8.toNat_ofNat']; omega
theorem digit_sum (n k a : Nat) : a + n % 128 * 2 ^ (7 * k) + n / 128 * 2 ^ (7 * (k + 1)) = a + n * 2 ^ (7 * k) := by
  rw [pow_step]
  have h : n = 128 * (n / 128) + n % 128 := by omega
  have h2 : n * 2 ^ (7 * k) = (128 * (n / 128) + n % 128) * 2 ^ (7 * k) := by rw [← h]
  rw [h2, Nat.add_mul, Nat.mul_comm 128 (n / 128), Nat.mul_assoc]
  omega
theorem small_k {n k a : Nat} (hs : a + n * 2 ^ (7 * k) < 18446744073709551616) (hk : k ≤ 9) (hn : 2 ≤ n) : k < 9 := by
  rcases Nat.lt_or_ge k 9 with h | h
  · exact h
  · have : k = 9 := by omega
    subst this
    have : 2 * 2 ^ (7 * 9) ≤ n * 2 ^ (7 * 9) := Nat.mul_le_mul_right _ hn
    omega

theorem vnum_lay (most : Nat) (n : Nat) : ∀ (k a : Nat) (r : List UInt8), (0 < k → 0 < n) → a + n * 2 ^ (7 * k) ≤ most → a + n * 2 ^ (7 * k) < 18446744073709551616 → k ≤ 9 →
    vnum most (vlay n ++ r) k a = (a + n * 2 ^ (7 * k), k + (vlay n).length, 0) := by
  induction n using Nat.strongRecOn with
  | _ n ih =>
    intro k a r h0 hm hs hk
    by_cases hn : n < 128
    · rw [vlay_small hn]
      simp only [List.cons_append, List.nil_append, List.length_cons, List.length_nil]
      unfold vnum
      rw [byte_of n (by omega), if_neg, if_neg (by omega), if_neg (by omega), Nat.mod_eq_of_lt hn, if_neg (by omega)]
      rintro ⟨rfl, h1⟩
      have := small_k hs hk h1
      omega
    · have hk9 := small_k hs hk (show 2 ≤ n by omega)
      rw [vlay_more (by omega)]
      simp only [List.cons_append, List.length_cons]
      unfold vnum
      rw [byte_of _ (by omega), if_neg (by omega), if_pos (by omega), show (n % 128 + 128) % 128 = n % 128 by omega]
      rw [ih (n / 128) (by omega) (k + 1) _ r (fun _ => by omega) (by rw [digit_sum]; exact hm) (by rw [digit_sum]; exact hs) (by omega), digit_sum]
      congr 2
      omega

theorem vnum_lay0 (most n : Nat) (r : List UInt8) (hm : n ≤ most) (hs : n < 18446744073709551616) : vnum most (vlay n ++ r) 0 0 = (n, (vlay n).length, 0) := by
  have := vnum_lay most n 0 0 r (by omega) (by simpa using hm) (by simpa using hs) (by omega)
  simpa using this
/-! ## whole -/
theorem rbyte_lay (most : Nat) (b : UInt8) (r : List UInt8) (h : b.toNat ≤ most) : rbyte most (b :: r) 0 = (b.toNat, r, 0) := by
  simp only [rbyte]
  rw [if_neg (by simp), if_neg (by omega)]
theorem rnum_lay (most n : Nat) (r : List UInt8) (hm : n ≤ most) (hs : n < 18446744073709551616) : rnum most (vlay n ++ r) 0 = (n, r, 0) := by
  unfold rnum
  rw [if_neg (by simp), vnum_lay0 most n r hm hs]
  simp
theorem rtext_lay (most : Int) (t r : List UInt8) (hm : (t.length : Int) ≤ most) (hs : t.length < 18446744073709551616) : rtext most (vlay t.length ++ t ++ r) 0 = (t, r, 0) := by
  unfold rtext
  rw [if_neg (by simp), List.append_assoc, vnum_lay0 most.toNat t.length (t ++ r) (by omega) hs]
  simp only [List.length_append, List.drop_append_of_le_length (Nat.le_refl _), List.drop_length, List.nil_append]
  rw [if_neg (by simp), if_neg (by omega)]
  simp [List.drop_append, Nat.add_sub_cancel_left]

/-! ## cut off -/
/-! ## a fault stays -/
/-! ## a beginning of D, cut off, or a fault that says so -/
def CutInv (D l : List UInt8) (f : Nat) : Prop := f = 10 ∨ (f = 0 ∧ ∃ m, m < D.length ∧ l = D.take m)
theorem CutInv.parts {B R l : List UInt8} {f : Nat} (h : CutInv (B ++ R) l f) : f = 10 ∨ (f = 0 ∧ ∃ m, m < B.length ∧ l = B.take m) ∨ (f = 0 ∧ ∃ m, m < R.length ∧ l = B ++ R.take m) := by
  rcases h with h | ⟨h, m, hm, rfl⟩
  · exact .inl h
  · rw [List.length_append] at hm
    by_cases hb : m < B.length
    · exact .inr (.inl ⟨h, m, hb, List.take_append_of_le_length (by omega)⟩)
    · obtain ⟨j, rfl⟩ : ∃ j, m = B.length + j := ⟨m - B.length, by omega⟩
      exact .inr (.inr ⟨h, j, by omega, List.take_length_add_append ..⟩)
end Go.Proofs.Ytnebloeideodmaa

namespace Go.Proofs.Ytnebloeideodmaa

/-- a command -/
structure CmdD where
  k : Int
  s : Int
  q : Int
  a : Int
  b : Int
  hi : Int
  lo : Int
  sc : Int
  x : List UInt8
  y : List UInt8
deriving DecidableEq
def CmdD.zero : CmdD := ⟨0, 0, 0, 0, 0, 0, 0, 0, [], []⟩
def U64 (n : Int) : Prop := 0 ≤ n ∧ n ≤ 18446744073709551615
def I64 (n : Int) : Prop := -9223372036854775808 ≤ n ∧ n ≤ 9223372036854775807
structure CmdD.ok (c : CmdD) : Prop where
  k : I64 c.k
  s : U64 c.s
  q : U64 c.q
  a : U64 c.a
  b : U64 c.b
  hi : I64 c.hi
  lo : U64 c.lo
  sc : I64 c.sc
  x : c.x.length ≤ 9223372036854775807
  y : c.y.length ≤ 9223372036854775807

/-- the fields of a kind, as a sum of 1 (session), 2, 4, 8, 16 (amount), 32, 64 -/
def fo (k : Int) : Nat := if k = 6 ∨ k = 8 then 31 else if k = 4 ∨ k = 5 then 23 else if k = 9 then 7 else if k = 7 then 115 else if k = 11 then 99 else if k = 3 ∨ k = 10 then 35 else if k = 2 then 39 else if k = 1 then 1 else 0
def wth (h f : Nat) : Bool := (h &&& f) != 0
def numB (n : Int) : Bool := decide (n ≥ 1) && decide (n ≤ 72057594037927935)
def letB (b : UInt8) : Bool := decide (65 ≤ b.toNat) && decide (b.toNat ≤ 90)
def nameB (l : List UInt8) : Bool := decide (l.length = 3) && l.all letB
def scB (n : Int) : Bool := decide (n ≥ 0) && decide (n ≤ 18)
def mayB (has right zero : Bool) : Bool := match has with | true => right | false => zero
def zeroD (c : CmdD) : Bool := c.hi == 0 && (c.lo == 0 && c.sc == 0)
def rightB (c : CmdD) : Bool :=
  fo c.k != 0 && mayB (wth (fo c.k) 1) (numB c.s) (c.s == 0) && mayB (wth (fo c.k) 2) (numB c.q) (c.q == 0) && mayB (wth (fo c.k) 4) true (c.a == 0) && mayB (wth (fo c.k) 8) true (c.b == 0)
    && mayB (wth (fo c.k) 16) (scB c.sc) (zeroD c) && mayB (wth (fo c.k) 32) (nameB c.x) (c.x == []) && mayB (wth (fo c.k) 64) (nameB c.y) (c.y == [])

/-! ## What is laid -/
def layU (n : Int) : List UInt8 := vlay n.toNat
/-! ## What is read -/
def rIf (b : Bool) (r : Nat × List UInt8 × Nat) (l : List UInt8) (f : Nat) : Nat × List UInt8 × Nat := match b with | true => r | false => (0, l, f)
def rdec (l : List UInt8) (f : Nat) : (Int × Nat × Nat) × List UInt8 × Nat :=
  (((rint (rbyte 18 l f).2.1 (rbyte 18 l f).2.2).1, (rnum 18446744073709551615 (rint (rbyte 18 l f).2.1 (rbyte 18 l f).2.2).2.1 (rint (rbyte 18 l f).2.1 (rbyte 18 l f).2.2).2.2).1, (rbyte 18 l f).1), (rnum 18446744073709551615 (rint (rbyte 18 l f).2.1 (rbyte 18 l f).2.2).2.1 (rint (rbyte 18 l f).2.1 (rbyte 18 l f).2.2).2.2).2)
def rnam (l : List UInt8) (f : Nat) : List UInt8 × List UInt8 × Nat :=
  ([UInt8.ofNat (rbyte 90 l f).1, UInt8.ofNat (rbyte 90 (rbyte 90 l f).2.1 (rbyte 90 l f).2.2).1, UInt8.ofNat (rbyte 90 (rbyte 90 (rbyte 90 l f).2.1 (rbyte 90 l f).2.2).2.1 (rbyte 90 (rbyte 90 l f).2.1 (rbyte 90 l f).2.2).2.2).1], (rbyte 90 (rbyte 90 (rbyte 90 l f).2.1 (rbyte 90 l f).2.2).2.1 (rbyte 90 (rbyte 90 l f).2.1 (rbyte 90 l f).2.2).2.2).2)
def rIfD (b : Bool) (l : List UInt8) (f : Nat) : (Int × Nat × Nat) × List UInt8 × Nat := match b with | true => rdec l f | false => ((0, 0, 0), l, f)
def rIfX (b : Bool) (l : List UInt8) (f : Nat) : List UInt8 × List UInt8 × Nat := match b with | true => rnam l f | false => ([], l, f)
/-- what is read of l: the command, the rest, what was wrong -/
structure Read (l : List UInt8) (c : CmdD) (l' : List UInt8) (f' : Nat) where
  mk ::
  n0 : Nat
  l0 : List UInt8
  f0 : Nat
  h0 : rbyte 11 l 0 = (n0, l0, f0)
  n1 : Nat
  l1 : List UInt8
  f1 : Nat
  h1 : rIf (wth (fo (n0 : Int)) 1) (rnum 72057594037927935 l0 f0) l0 f0 = (n1, l1, f1)
  n2 : Nat
  l2 : List UInt8
  f2 : Nat
  h2 : rIf (wth (fo (n0 : Int)) 2) (rnum 72057594037927935 l1 f1) l1 f1 = (n2, l2, f2)
  n3 : Nat
  l3 : List UInt8
  f3 : Nat
  h3 : rIf (wth (fo (n0 : Int)) 4) (rnum 18446744073709551615 l2 f2) l2 f2 = (n3, l3, f3)
  n4 : Nat
  l4 : List UInt8
  f4 : Nat
  h4 : rIf (wth (fo (n0 : Int)) 8) (rnum 18446744073709551615 l3 f3) l3 f3 = (n4, l4, f4)
  hi : Int
  lo : Nat
  sc : Nat
  l5 : List UInt8
  f5 : Nat
  h5 : rIfD (wth (fo (n0 : Int)) 16) l4 f4 = ((hi, lo, sc), l5, f5)
  x : List UInt8
  l6 : List UInt8
  f6 : Nat
  h6 : rIfX (wth (fo (n0 : Int)) 32) l5 f5 = (x, l6, f6)
  y : List UInt8
  h7 : rIfX (wth (fo (n0 : Int)) 64) l6 f6 = (y, l', f')
  hc : c = ⟨(n0 : Int), (n1 : Int), (n2 : Int), (n3 : Int), (n4 : Int), hi, (lo : Int), (sc : Int), x, y⟩
/-- what Decode answers -/
structure Decoded (l : List UInt8) (c : CmdD) (e : Nat) : Prop where
  is : (l.length > 128 ∧ c = .zero ∧ e = 12) ∨ (l.length ≤ 128 ∧ ∃ c0 l' f', Nonempty (Read l c0 l' f') ∧ ((rend l' f' ≠ 0 ∧ c = .zero ∧ e = rend l' f') ∨ (rend l' f' = 0 ∧ rightB c0 = false ∧ c = .zero ∧ e = 11) ∨ (rend l' f' = 0 ∧ rightB c0 = true ∧ c = c0 ∧ e = 0)))
/-! ## What was laid is read -/
theorem numB_iff {n : Int} (h : numB n = true) : 1 ≤ n ∧ n ≤ 72057594037927935 := by
  unfold numB at h
  simpa using h
/-! ## What was read is laid so -/
theorem rbyte_back' {most : Nat} {l : List UInt8} {f : Nat} (h : (rbyte most l f).2.2 = 0) : f = 0 ∧ (rbyte most l f).1 ≤ most ∧ (rbyte most l f).1 < 256 ∧ l = UInt8.ofNat (rbyte most l f).1 :: (rbyte most l f).2.1 := by
  by_cases hf : f = 0
  · subst hf
    unfold rbyte at h ⊢
    rw [if_neg (by simp)] at h ⊢
    cases l with
    | nil => cases h
    | cons b r =>
      have hb := UInt8.toNat_lt b
      simp only at h ⊢
      by_cases hm : most < b.toNat
      · rw [if_pos hm] at h; cases h
      · rw [if_neg hm]
        exact ⟨trivial, by show b.toNat ≤ most; omega, hb, by simp⟩
  · rw [rbyte_wrong hf] at h; exact absurd h hf
theorem rIf_lt {b : Bool} {most : Nat} {l : List UInt8} {f n f' : Nat} {l' : List UInt8} (h : rIf b (rnum most l f) l f = (n, l', f')) : n < 18446744073709551616 := by
  cases b with
  | true =>
    have h' : rnum most l f = (n, l', f') := h
    have := rnum_lt most l f
    rwa [h'] at this
  | false =>
    have h' : (0, l, f) = (n, l', f') := h
    simp only [Prod.mk.injEq] at h'
    rw [← h'.1]; decide
theorem rIfD_ok {b : Bool} {hi : Int} {lo sc f f' : Nat} {l l' : List UInt8} (h : rIfD b l f = ((hi, lo, sc), l', f')) : I64 hi ∧ lo < 18446744073709551616 ∧ sc < 256 := by
  cases b with
  | true =>
    have h' : rdec l f = ((hi, lo, sc), l', f') := h
    unfold rdec at h'
    simp only [Prod.mk.injEq] at h'
    obtain ⟨⟨rfl, rfl, rfl⟩, _⟩ := h'
    exact ⟨rint_range _ _, rnum_lt _ _ _, rbyte_lt _ _ _⟩
  | false =>
    have h' : (((0 : Int), (0 : Nat), (0 : Nat)), l, f) = ((hi, lo, sc), l', f') := h
    simp only [Prod.mk.injEq] at h'
    obtain ⟨⟨rfl, rfl, rfl⟩, _⟩ := h'
    exact ⟨⟨by decide, by decide⟩, by decide, by decide⟩
theorem rIfX_ok {b : Bool} {x : List UInt8} {f f' : Nat} {l l' : List UInt8} (h : rIfX b l f = (x, l', f')) : x.length ≤ 3 := by
  cases b with
  | true =>
    have h' : rnam l f = (x, l', f') := h
    unfold rnam at h'
    simp only [Prod.mk.injEq] at h'
    rw [← h'.1]; simp
  | false =>
    have h' : (([] : List UInt8), l, f) = (x, l', f') := h
    simp only [Prod.mk.injEq] at h'
    rw [← h'.1]; simp
/-- what is read is within its bounds -/
theorem Read.ok {l l' : List UInt8} {c : CmdD} {f' : Nat} (h : Read l c l' f') : c.ok := by
  obtain ⟨n0, l0, f0, h0, n1, l1, f1, h1, n2, l2, f2, h2, n3, l3, f3, h3, n4, l4, f4, h4, hi, lo, sc, l5, f5, h5, x, l6, f6, h6, y, h7, rfl⟩ := h
  have b0 := rbyte_lt 11 l 0
  rw [h0] at b0
  have b1 := rIf_lt h1
  have b2 := rIf_lt h2
  have b3 := rIf_lt h3
  have b4 := rIf_lt h4
  obtain ⟨b5, b6, b7⟩ := rIfD_ok h5
  have b8 := rIfX_ok h6
  have b9 := rIfX_ok h7
  have b0 : n0 < 256 := b0
  exact ⟨⟨by simp only; omega, by simp only; omega⟩, ⟨by simp only; omega, by simp only; omega⟩, ⟨by simp only; omega, by simp only; omega⟩, ⟨by simp only; omega, by simp only; omega⟩, ⟨by simp only; omega, by simp only; omega⟩, b5, ⟨by simp only; omega, by simp only; omega⟩, ⟨by simp only; omega, by simp only; omega⟩, by simp only; omega, by simp only; omega⟩
/-- what is read is one -/
theorem Read.one {l l1 l2 : List UInt8} {c1 c2 : CmdD} {f1 f2 : Nat} (h : Read l c1 l1 f1) (g : Read l c2 l2 f2) : c1 = c2 ∧ l1 = l2 ∧ f1 = f2 := by
  obtain ⟨n0, l0, f0, h0, n1, l1', f1', h1, n2, l2', f2', h2, n3, l3, f3, h3, n4, l4, f4, h4, hi, lo, sc, l5, f5, h5, x, l6, f6, h6, y, h7, rfl⟩ := h
  obtain ⟨m0, k0, g0, i0, m1, k1, g1, i1, m2, k2, g2, i2, m3, k3, g3, i3, m4, k4, g4, i4, hi', lo', sc', k5, g5, i5, x', k6, g6, i6, y', i7, rfl⟩ := g
  have e0 := h0.symm.trans i0; simp only [Prod.mk.injEq] at e0; obtain ⟨rfl, rfl, rfl⟩ := e0
  have e1 := h1.symm.trans i1; simp only [Prod.mk.injEq] at e1; obtain ⟨rfl, rfl, rfl⟩ := e1
  have e2 := h2.symm.trans i2; simp only [Prod.mk.injEq] at e2; obtain ⟨rfl, rfl, rfl⟩ := e2
  have e3 := h3.symm.trans i3; simp only [Prod.mk.injEq] at e3; obtain ⟨rfl, rfl, rfl⟩ := e3
  have e4 := h4.symm.trans i4; simp only [Prod.mk.injEq] at e4; obtain ⟨rfl, rfl, rfl⟩ := e4
  have e5 := h5.symm.trans i5; simp only [Prod.mk.injEq] at e5; obtain ⟨⟨rfl, rfl, rfl⟩, rfl, rfl⟩ := e5
  have e6 := h6.symm.trans i6; simp only [Prod.mk.injEq] at e6; obtain ⟨rfl, rfl, rfl⟩ := e6
  have e7 := h7.symm.trans i7; simp only [Prod.mk.injEq] at e7; obtain ⟨rfl, rfl, rfl⟩ := e7
  exact ⟨rfl, rfl, rfl⟩
theorem Decoded.one {l : List UInt8} {c1 c2 : CmdD} {e1 e2 : Nat} (h : Decoded l c1 e1) (g : Decoded l c2 e2) : c1 = c2 ∧ e1 = e2 := by
  rcases h.is with ⟨h1, h2, h3⟩ | ⟨h1, a, b, d, ⟨hr⟩, h2⟩ <;> rcases g.is with ⟨g1, g2, g3⟩ | ⟨g1, a', b', d', ⟨gr⟩, g2⟩
  · exact ⟨h2.trans g2.symm, h3.trans g3.symm⟩
  · omega
  · omega
  · obtain ⟨rfl, rfl, rfl⟩ := hr.one gr
    rcases h2 with ⟨p, q, r⟩ | ⟨p, q, r, t⟩ | ⟨p, q, r, t⟩ <;> rcases g2 with ⟨p', q', r'⟩ | ⟨p', q', r', t'⟩ | ⟨p', q', r', t'⟩
    all_goals first
      | exact ⟨q.trans q'.symm, r.trans r'.symm⟩
      | exact ⟨r.trans r'.symm, t.trans t'.symm⟩
      | exact absurd p' p
      | exact absurd p p'
      | (rw [q] at q'; cases q')
end Go.Proofs.Ytnebloeideodmaa

namespace Go.Proofs.Ytnebloeideodmaa.Sep
open Go.RowKit
open Go.Proofs.Ytnebloeideodmaa.Mem (Dist Blk Chg below0)

theorem flatB (l : List UInt8) : flat encB l = u8s l := by
  induction l with
  | nil => rfl
  | cons x l ih => rw [flat_cons, ih]; rfl

/-! ## A slice that reads as bytes -/
def Sl8 (w : World) (v : Value) (l : List UInt8) : Prop := ∃ A c, v = .slice A l.length c ∧ Bs (fun _ => True) w A c l
section
variable {u w w0 : World} {v : Value} {l : List UInt8} {X : Ass} {B : Nat → Prop} {os : List Ass} {rs : List RowT}
theorem Sl8.below (h : Sl8 u v l) (hb : Below u.heap.size u w) : Sl8 w v l := by
  obtain ⟨A, c, e, h⟩ := h
  exact ⟨A, c, e, h.old hb⟩
theorem Sl8.rd (h : Sl8 w v l) : SlRd w 1 v l.length (flat encB l) := by
  obtain ⟨A, c, rfl, h⟩ := h
  refine ⟨by rw [flatB, u8s_length, Nat.mul_one], A, c, rfl, ?_⟩
  rcases Nat.eq_zero_or_pos l.length with h0 | h0
  · cases A with
    | none => exact .inl ⟨rfl, h0⟩
    | some a =>
      refine .inr ⟨a, rfl, fun j x hx => ?_⟩
      rw [flatB] at hx
      have := (List.getElem?_eq_some_iff.1 hx).1
      rw [u8s_length] at this
      omega
  · obtain ⟨g, o, rfl, _, hc⟩ := h.2.2 h0
    refine .inr ⟨_, rfl, fun j x hx => ?_⟩
    rw [flatB] at hx
    obtain ⟨b, hb, rfl⟩ := u8s_get hx
    rw [Addr.add_lit]
    exact hc j b hb
theorem Sl8.cells (h : Sl8 w v l) : v.cells = #[v] := by
  obtain ⟨A, c, rfl, _⟩ := h
  rfl
theorem arg8 (h : Sl8 u v l) (hU : Below u.heap.size u w0) (hS : ∀ k, B k → u.heap.size ≤ k) (hH : Hp B w0 w os) : Sl8 w v l := by
  have hm : Below u.heap.size w0 w := hH.up.below hU.size hS
  exact h.below (hU.trans hm)
theorem own_vec {base : Nat} (h : Own 5 w base v l) : ∃ rs, Vec 5 1 encB v l rs ∧ RowsOf w rs ∧ Dist rs ∧ ∀ x ∈ rs, At v x.1 ∧ base ≤ x.1 := by
  obtain ⟨h1, h2⟩ := h
  rcases h2 with ⟨hv, hn⟩ | ⟨g, cap, cur, hv, hb, hg, hnc, hm, hs, ht⟩
  · exact ⟨[], .inl ⟨hv, List.eq_nil_of_length_eq_zero hn, rfl⟩, trivial, trivial, fun x hx => by cases hx⟩
  · refine ⟨[(g, tyR 5, cur)], .inr ⟨g, cap, cur, hv, hnc, hm, hs, by rw [flatB]; exact ht, rfl⟩, ⟨hg, trivial⟩, ⟨(fun _ h => by cases h), trivial⟩, fun x hx => ?_⟩
    have : x = (g, tyR 5, cur) := by simpa using hx
    subst this
    exact ⟨by rw [hv]; rfl, hb⟩
theorem vec_own (h : Vec 5 1 encB v l rs) (hr : RowsOf w rs) : Own 5 w 0 v l := by
  refine ⟨by rw [u8s_length, Nat.mul_one], ?_⟩
  rcases h with ⟨h1, h2, _⟩ | ⟨g, c, cs, h1, h2, h3, h4, h5, h6⟩
  · exact .inl ⟨h1, by rw [h2]; rfl⟩
  · subst h6
    exact .inr ⟨g, c, cs, h1, Nat.zero_le _, hr.1, h2, h3, h4, by rw [← flatB]; exact h5⟩
theorem vec_sl8 (h : Vec 5 1 encB v l rs) (hr : RowsOf w rs) : Sl8 w v l := by
  obtain ⟨A, c, e, hb⟩ := (vec_own h hr).form
  exact ⟨A, c, e, hb.weaken fun _ _ _ => trivial⟩
def Rd8 (X : Ass) (v : Value) (l : List UInt8) : Prop := ∀ rs w, X rs → RowsOf w rs → Sl8 w v l
theorem Rd8.rd (h : Rd8 X v l) : Rd X 1 encB v l := fun rs w h1 h2 => (h rs w h1 h2).rd
theorem Rd8.drop {A : Option Addr} {c k : Nat} (h : Rd8 X (.slice A l.length c) l) (hk : k ≤ l.length) : Rd8 X (.slice (if c = k then A else A.map (·.add k)) (l.drop k).length (c - k)) (l.drop k) := fun rs w h1 h2 => by
  obtain ⟨A', c', e, hb⟩ := h rs w h1 h2
  simp only [Value.slice.injEq] at e
  obtain ⟨rfl, _, rfl⟩ := e
  exact ⟨_, _, rfl, hb.drop hk⟩
theorem Hp.rd8 (h : Hp B w0 w os) (i : Nat) (hi : os[i]? = some X) (hu : Rd8 X v l) : Sl8 w v l := by
  obtain ⟨rs, h1, h2⟩ := h.thing i hi
  exact hu rs w h1 h2
end

/-! ## Calls that answer new bytes -/
section
variable {P : Program} {F : FuncId} {args : Array Value} {l : List UInt8} {X : Ass} {u : World}
theorem chg_new {w w' : World} {rs rs' : List RowT} (hr : RowsOf w rs) (hd : Dist rs) (hb : Below w.heap.size w w') (h1 : RowsOf w' rs') (h2 : Dist rs') (h3 : ∀ x ∈ rs', w.heap.size ≤ x.1) : Chg w w' rs (rs ++ rs') := by
  refine ⟨Mod.of_below hb _, rows_iff.2 fun x hx => ?_, Mem.dist_app hd h2 fun x hx y hy e => ?_, fun x hx hlt => ?_⟩
  · rcases List.mem_append.1 hx with h | h
    · exact (hr.mem x h).below hb (hr.mem x h).lt
    · exact h1.mem x h
  · have := (hr.mem x hx).lt
    have := h3 y hy
    omega
  · rcases List.mem_append.1 hx with h | h
    · exact ⟨x, h, rfl⟩
    · have := h3 x h
      omega
theorem does_ownX (h : ∀ w rs, X rs → RowsOf w rs → Calls P F args w fun e w' => ∃ v', e = .returned v' ∧ Own 5 w' w.heap.size v' l ∧ Below w.heap.size w w') : Does P F args [X] (fun v : Value => v) (fun v => [X, Vec 5 1 encB v l]) := fun w rs h1 h2 h3 => by
  have hX := h1.one'
  refine (h w rs hX h2).mono ?_
  rintro e w' ⟨v, he, ho, hb⟩
  obtain ⟨rs', hv, hr, hd, hx⟩ := own_vec ho
  exact ⟨v, he, rs ++ rs', ⟨rs, rs', rfl, hX, Parts.one hv⟩, chg_new h2 h3 hb hr hd fun x h => (hx x h).2⟩
end
theorem clone8 {X : Ass} {v : Value} {l : List UInt8} (h : Rd8 X v l) (hl : l.length ≤ 140737488355328) : Does Try.prog 69 #[v] [X] (fun v : Value => v) (fun v => [X, Vec 5 1 encB v l]) :=
  does_ownX fun w rs h1 h2 => by
    obtain ⟨A, c, rfl, hb⟩ := h rs w h1 h2
    exact clone_any w A c l hb hl
/-! ## A writer -/
section
variable {u : World} {B : Value} {b l l' : List UInt8} {g f f' : Nat} {F : FuncId} {args : Array Value} {val : Value}
end
/-! ## The program's reader -/
end Go.Proofs.Ytnebloeideodmaa.Sep

namespace Go.Proofs.Ytnebloeideodmaa.Sep
open Go.RowKit
open Go.Proofs.Ytnebloeideodmaa.Mem (Dist Blk Chg below0)
section
variable {P : Program} {n : Nat} {B : Nat → Prop} {w0 w : World} {os : List Ass} {env : List (Nat × Value)} {o : Oper} {a : Act}
/-- 'string(b)', of bytes that can be read -/
theorem exec_str8 {T T' e : TypeId} {v : Value} {l : List UInt8} {x : Operand} (hs : P.underlying T = some (.slice e)) (he : P.underlying e = some (.int .u8)) (hi : (P.info? e).map (fun i => (i.zero, i.size, i.bytes)) = some (some (.int .u8 0), 1, 1)) (hd : P.underlying T' = some .string) (h : Sl8 w v l) (ho : o.op = .convert T T' x) (hx : evs env x = some v) (hF : Fr n a env) : (execOp a.eval o).run P w = .ok (.value (.string (bs l))) w := by
  obtain ⟨A, c, rfl, hb⟩ := h
  have := run_str (P := P) ⟨hs, he, hi⟩ hd hb
  unfold execOp
  simp only [ho, hF.evs hx, Sem.run_bind, Sem.run_pure, Result.andThen_ok, this]
  rfl
end
section
variable {P : Program} {n : Nat} {w : World} {env : List (Nat × Value)} {o : Oper} {a : Act}
end
theorem arg80 {w0 w : World} {v : Value} {l : List UInt8} {os : List Ass} (h : Sl8 w0 v l) (hH : Hp Nil w0 w os) : Sl8 w v l := h.below (hH.up.below (Nat.le_refl _) (fun _ h => h.elim))
theorem Sl8.drop {w : World} {A : Option Addr} {c k : Nat} {l : List UInt8} (h : Sl8 w (.slice A l.length c) l) (hk : k ≤ l.length) : Sl8 w (.slice (if c = k then A else A.map (·.add k)) (l.drop k).length (c - k)) (l.drop k) := by
  obtain ⟨A', c', e, hb⟩ := h
  simp only [Value.slice.injEq] at e
  obtain ⟨rfl, _, rfl⟩ := e
  exact ⟨_, _, rfl, hb.drop hk⟩
theorem Sl8.takes {w : World} {A : Option Addr} {c k : Nat} {l : List UInt8} (h : Sl8 w (.slice A l.length c) l) (hk : k ≤ l.length) : Sl8 w (.slice A (l.take k).length c) (l.take k) := by
  obtain ⟨A', c', e, hb⟩ := h
  simp only [Value.slice.injEq] at e
  obtain ⟨rfl, _, rfl⟩ := e
  exact ⟨_, _, rfl, hb.take hk⟩
section
variable {P : Program} {n : Nat} {w : World} {env : List (Nat × Value)} {o : Oper} {a : Act}
/-- what remains of a division, of the sign of what is divided -/
theorem exec_remI {T T' : TypeId} {x y : Operand} {k : IntKind} {p q r : Int} (ho : o.op = .binOp .rem T x y T') (hx : evs env x = some (.int k p)) (hy : evs env y = some (.int k q)) (hq : q ≠ 0) (hr : p.tmod q = r) (hF : Fr n a env) : (execOp a.eval o).run P w = .ok (.value (.int k r)) w := by
  unfold execOp
  simp only [ho, hF.evs hx, hF.evs hy]
  simp [eqGuard, binOp, Op.intArith, Op.intDiv, hq, hr]
end
/-! ## append of many bytes -/
section
variable {P : Program} {t e ty : TypeId} {v u : Value} {l m : List UInt8} {w w' : World} {rs : List RowT}
theorem run_append8 (hT : SliceT P t e 1) (h1 : (P.info? e).map (fun i => i.bytes) = some 1) (h : Vec e 1 encB v l rs) (hr : RowsOf w rs) (hd : Dist rs) (hu : SlRd w 1 u m.length (flat encB m)) (hlen : l.length + m.length ≤ 140737488355328) :
    ∃ v' w', (Builtin.append_ #[t, t] ty #[v, u]).run P w = .ok v' w' ∧ ∃ rs', Vec e 1 encB v' (l ++ m) rs' ∧ Chg w w' rs rs' := by
  obtain ⟨i, z, hi, hz, hk, hby, hzs, _⟩ := hT.inf
  have hb1 : i.bytes = 1 := by simpa [hi] using h1
  obtain ⟨hul, A, c, rfl, hA⟩ := hu
  have hu1 := flat_one okB m
  rcases hA with ⟨rfl, hm⟩ | ⟨a, rfl, hcells⟩
  · have hm' : m = [] := List.length_eq_zero_iff.1 hm
    subst hm'
    refine ⟨v, w, ?_, rs, by simpa using h, ⟨Mod.refl _ _, hr, hd, fun x hx _ => ⟨x, hx, rfl⟩⟩⟩
    rcases h with ⟨h1, h2, h3⟩ | ⟨g, c', cs, h1, h2, h3, h4, h5, h6⟩
    · subst h1
      simp [Builtin.append_, run_underlying hT.ht, sizeOf, typeInfo, hi, Builtin.lenOf, Builtin.firstCells]
    · subst h1
      simp [Builtin.append_, run_underlying hT.ht, sizeOf, typeInfo, hi, Builtin.lenOf, Builtin.firstCells, h2, storeCells]
  · have hown : w.ownsRow 0 e 1 v l.length (flat encB l) := by
      refine ⟨flat_len okB l, ?_⟩
      rcases h with ⟨h1, h2, h3⟩ | ⟨g, c', cs, h1, h2, h3, h4, h5, h6⟩
      · exact .inl ⟨h1, by rw [h2]; rfl⟩
      · subst h6
        exact .inr ⟨g, c', cs, h1, Nat.zero_le _, hr.1, h2, h3, h4, h5⟩
    obtain ⟨v', w', hrun, h2, h3, _, h5⟩ := run_append_own_at (P := P) w 0 t ty e i z 1 i.bytes hT.ht hi hz hk rfl hzs hT.pos v l.length (flat encB l) hown a m.length c (flat encB m) hul hcells hu1 (by unfold maxLen; omega)
      (by rw [hb1]; omega) (Nat.zero_le _)
    refine ⟨v', w', hrun, ?_⟩
    have hm : Mod (At v) w w' := Mod.of_grown h3 (fun k hk => hk)
    have hmB : Mod (Blk rs) w w' := hm.weaken fun j _ hj => by
      rcases h with ⟨h1, _, _⟩ | ⟨g, c', cs, h1, _, _, _, _, h6⟩
      · subst h1; unfold At at hj; simp [Value.ownBlock] at hj
      · subst h1; subst h6
        unfold At at hj
        simp [Value.ownBlock] at hj
        exact ⟨(g, tyR e, cs), by simp, hj⟩
    rcases h2.2 with ⟨h1, hn⟩ | ⟨g, c', cs, h1, _, hrow, hle, hmx, hsz, htk⟩
    · have : l ++ m = [] := List.length_eq_zero_iff.1 (by rw [List.length_append]; exact hn)
      exact ⟨[], .inl ⟨h1, this, rfl⟩, ⟨hmB, trivial, trivial, fun x hx => by simp at hx⟩⟩
    · refine ⟨[(g, tyR e, cs)], .inr ⟨g, c', cs, by rw [h1, List.length_append], by rw [List.length_append]; exact hle, hmx, hsz, by rw [List.length_append, flat_app]; exact htk, rfl⟩, ⟨hmB, ⟨hrow, trivial⟩, ⟨(fun _ h => by cases h), trivial⟩, fun x hx hlt => ?_⟩⟩
      have : x = (g, tyR e, cs) := by simpa using hx
      subst this
      rcases h5 with h5 | h5
      · subst h1
        rcases h with ⟨h1, _, _⟩ | ⟨g', c'', cs', h1, _, _, _, _, h6⟩
        · subst h1; simp [Value.ownBlock] at h5
        · subst h1; subst h6
          simp [Value.ownBlock] at h5
          exact ⟨(g', tyR e, cs'), by simp, h5.symm⟩
      · subst h1
        simp [Value.ownBlock] at h5
        exact absurd hlt (by show ¬ g < w.heap.size; omega)
variable {Q : Exit → Act → World → Prop} {n : Nat} {B : Nat → Prop} {w0 : World} {os : List Ass} {env : List (Nat × Value)} {o : Oper}
theorem a_append8 (i : Nat) (hT : SliceT P t e 1) (h1 : (P.info? e).map (fun i => i.bytes) = some 1) (hi : os[i]? = some (Vec e 1 encB v l)) (m : List UInt8) (hu : ∀ w, Hp B w0 w os → SlRd w 1 u m.length (flat encB m)) (hlen : l.length + m.length ≤ 140737488355328) {x y : Operand} (ho : o.op = .call { callee := .builtin .append, args := #[x, y], argTypes := #[t, t] }) (hx : evs env x = some v) (hy : evs env y = some u) {r : List UInt8} (hr : l ++ m = r) :
    Acts P Q n env B w0 os o (fun v : Value => v) (fun v' => os.set i (Vec e 1 encB v' r)) := fun act w hH hF K hK => by
  subst hr
  have hH' := hH
  obtain ⟨rs0, hp, hm⟩ := hH
  obtain ⟨a, z, b, e1, hz, hb⟩ := hp.at_ hi
  subst e1
  have p : (a ++ (z ++ b)).Perm (z ++ (a ++ b)) := by rw [← List.append_assoc, ← List.append_assoc]; exact List.perm_append_comm.append_right b
  have h5 := hp_perm hm p
  have hd := dist_iff.1 h5.apart
  rw [List.map_append] at hd
  obtain ⟨v', w', hr, y', hy', hc⟩ := run_append8 (P := P) (ty := o.type) hT h1 hz (rows_iff.2 fun z hz => h5.rows.mem z (by simp [hz])) (dist_iff.2 (List.nodup_append.1 hd).1) (hu w hH') hlen
  have p' : (y' ++ (a ++ b)).Perm (a ++ (y' ++ b)) := by rw [← List.append_assoc, ← List.append_assoc]; exact List.perm_append_comm.append_right b
  refine a_val (w0 := w) act (exec_bi ho (vs := [v, u]) (by simp [evl, hx, hy]) (fun cs => ?_) hF) (hK v' w' ⟨_, hb _ y' hy', hp_perm (hp_chg h5 hc) p'⟩)
  simp only [builtin, Sem.run_bind, Sem.run_pure, Result.andThen_ok, hr]
end
section
variable {P : Program} {Q : Exit → Act → World → Prop} {n : Nat} {B : Nat → Prop} {w0 : World} {os : List Ass} {env : List (Nat × Value)} {o : Oper} {t e : TypeId}
end
end Go.Proofs.Ytnebloeideodmaa.Sep
