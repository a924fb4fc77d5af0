/-
  'known', which every statement of chapter 1 asks first: it answers true; and 'Pick'.
-/
import Derived.Test.YtefggpcfijcneaaWriter
import Derived.Test.YtefggpcfijcneaaSeal
namespace Go.Proofs.Ytefggpcfijcneaa
open Go.RowKit

theorem tyStr : Try.prog.underlying 9 = some .string := Try.underlying9
theorem known_sum : crcSum [49, 50, 51, 52, 53, 54, 55, 56, 57] = 3808858755 := by decide +kernel
theorem known_bytes : [] ++ [(7 : UInt8)] ++ vlay 300 ++ vlay (zig (-3)) ++ vlay 2 ++ [97, 98] = [7, 172, 2, 5, 2, 97, 98] := by
  have h1 : vlay 300 = [172, 2] := by rw [vlay_more (by omega), vlay_small (by omega)]; rfl
  have h2 : vlay (zig (-3)) = [5] := by rw [vlay_small (by decide)]; rfl
  have h3 : vlay 2 = [2] := by rw [vlay_small (by omega)]; rfl
  rw [h1, h2, h3]; rfl

theorem known_any (w : World) : Calls Try.prog 20 #[] w fun e w' => e = .returned (.bool true) ∧ Below w.heap.size w w' := by
  have kb := known_bytes
  have ks := known_sum
  have hlay : ∀ n, (vlay n).length ≤ 10 ∨ 18446744073709551616 ≤ n := fun n => by
    by_cases h : n < 18446744073709551616
    · exact .inl (vlay_length n h)
    · exact .inr (by omega)
  have l1 := vlay_length 300 (by decide)
  have l2 := vlay_length (zig (-3)) (by decide)
  have l3 := vlay_length 2 (by decide)
  obtain ⟨V1, e1⟩ : ∃ V, V = vlay 300 := ⟨_, rfl⟩
  obtain ⟨V2, e2⟩ : ∃ V, V = vlay (zig (-3)) := ⟨_, rfl⟩
  obtain ⟨V3, e3⟩ : ∃ V, V = vlay 2 := ⟨_, rfl⟩
  rw [← e1, ← e2, ← e3] at kb
  rw [← e1] at l1
  rw [← e2] at l2
  rw [← e3] at l3
  have E1 := hid e1
  have E2 := hid e2
  have E3 := hid e3
  have KB := hid kb
  have KS := hid ks
  clear e1 e2 e3 kb ks hlay
  have hcv := fun (w : World) (C : Array Value) (n c : Nat) => Lib.run_convert_bytes_const (P := Try.prog) w 24 5 C n c Try.underlying24 Try.underlying5
  go_enter Try.func20, Try.ntmps20
  go_wp2_with (first
    | (go_at_call 22; refine (newWriter_any _).mono ?_; rintro e w1 ⟨p, rfl, hp1, hw1, hb1⟩)
    | (go_at_call 24; refine (writerByte_any w1 p _ _ 7 hw1 (by simp)).mono ?_; rintro e w2 ⟨v2, rfl, hw2, hm2, ha2⟩)
    | (go_at_call 25; refine (writerNum_any w2 p v2 _ 300 hw2 (by decide) (by simp)).mono ?_; rintro e w3 ⟨v3, rfl, hw3, hm3, ha3⟩; rw [← E1.out] at hw3)
    | (go_at_call 27; refine (writerInt_any w3 p v3 _ (-3) hw3 (by omega) (by omega) (by simp; omega)).mono ?_; rintro e w4 ⟨v4, rfl, hw4, hm4, ha4⟩; rw [← E2.out] at hw4)
    | (go_at_call 29; refine (writerText_any _ p v4 _ (some ⟨w4.heap.size, 0, none⟩) 2 [97, 98] (hw4.mod ((Mod.refl Nil w4).alloc _) (fun _ _ hf => hf)) (const_src w4 5 [97, 98] _ (by simp [maxLen])) (fun k hk hf => by have := hw4.lt k hf; unfold One at hk; omega) (by simp; omega)).mono ?_; rintro e w5 ⟨v5, rfl, hw5, hm5, ha5⟩; rw [show vlay ([97, 98] : List UInt8).length = V3 from E3.out.symm] at hw5)
    | (go_at_call 31; refine (writerBytes_any w5 p v5 _ hw5 (by simp; omega)).mono ?_; rintro e w6 ⟨v6, rfl, ho6, hb6⟩; rw [KB.out] at ho6; obtain ⟨A6, c6, rfl, hs6⟩ := ho6.form; have hc6 : (convert 24 9 (.slice A6 7 c6)).run Try.prog w6 = .ok (.string ⟨#[7, 172, 2, 5, 2, 97, 98]⟩) w6 := run_str tyU8 tyStr hs6)
    | (go_at_call 21; refine (sum_any _ _ _ [49, 50, 51, 52, 53, 54, 55, 56, 57] (const_src w6 5 _ _ (by simp [maxLen])) (by simp)).mono ?_; rintro e w7 ⟨rfl, rfl⟩; rw [KS.out]))
  go_ret
  refine ⟨rfl, ?_⟩
  have F1 : ∀ k, Foot p (.slice none 0 0) k → w.heap.size ≤ k := by
    rintro k (rfl | hk)
    · exact hp1
    · exact absurd hk At.none
  obtain ⟨B2, S2, F2⟩ := foot_step hb1 hb1.size F1 hm2 ha2
  obtain ⟨B3, S3, F3⟩ := foot_step B2 S2 F2 hm3 ha3
  obtain ⟨B4, S4, F4⟩ := foot_step B3 S3 F3 hm4 ha4
  obtain ⟨B5, S5, F5⟩ := foot_step (B4.alloc S4 _) (Nat.le_trans S4 (by simp)) F4 hm5 ha5
  exact (B5.trans (hb6.mono S5)).alloc (Nat.le_trans S5 hb6.size) _

theorem pick_any (w : World) (n m : Int) (hn1 : -9223372036854775808 ≤ n) (hn2 : n ≤ 9223372036854775807) (hm1 : 1 ≤ m) (hm2 : m ≤ 9223372036854775807) :
    Calls Try.prog 23 #[.int .i64 n, .int .i64 m] w fun e w' => e = .returned (.int .i64 (n % m)) ∧ w = w' := by
  have hlt := Int.emod_lt_of_pos n (show 0 < m by omega)
  have hge := Int.emod_nonneg n (show m ≠ 0 by omega)
  have ht : (0 ≤ n.tmod m ∧ n.tmod m = n % m) ∨ (n.tmod m < 0 ∧ n.tmod m + m = n % m) := by
    rw [Int.tmod_eq_emod]
    split
    · left; omega
    · rename_i h
      right
      have hne : n % m ≠ 0 := fun e => h (.inr (Int.dvd_of_emod_eq_zero e))
      omega
  obtain ⟨r, hr⟩ : ∃ r, r = n % m := ⟨_, rfl⟩
  obtain ⟨t, htm⟩ : ∃ t, t = n.tmod m := ⟨_, rfl⟩
  rw [← hr] at ht hlt hge ⊢
  rw [← htm] at ht
  have hm0 : (m == 0) = false := by simp; omega
  have hneg : n = -9223372036854775808 → m = -1 → False := fun _ h => by omega
  have htm' := htm.symm
  clear hr htm
  rcases ht with ⟨h1, h2⟩ | ⟨h1, h2⟩
  · subst h2
    go_enter Try.func23, Try.ntmps23
    go_wp2
    go_ret
    exact ⟨rfl, rfl⟩
  · have h3 : t + m ≤ 9223372036854775807 := by omega
    go_enter Try.func23, Try.ntmps23
    go_wp2
    go_ret
    exact ⟨rfl, rfl⟩
end Go.Proofs.Ytefggpcfijcneaa
