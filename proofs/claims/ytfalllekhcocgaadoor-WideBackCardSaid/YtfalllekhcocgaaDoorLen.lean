/-
  bits.Len64 and bits.LeadingZeros64.
-/
import Derived.Test.YtfalllekhcocgaaDoorSmall
namespace Go.Proofs.YtfalllekhcocgaaDoor
open Go.RowKit

theorem len_tab (T : ByteArray) (hT : (List.range 256).all (fun i => decide ((T.data.getD i 0).toNat ≤ 8 ∧ i < 2 ^ (T.data.getD i 0).toNat ∧ (i = 0 ∨ 0 < (T.data.getD i 0).toNat ∧ 2 ^ ((T.data.getD i 0).toNat - 1) ≤ i))) = true)
    (x i : Int) (b : Nat) (hb : b ≤ 56) (h0 : 0 ≤ x) (hi : i = x / ((2 ^ b : Nat) : Int)) (hi2 : i < 256) (hnz : b = 0 ∨ 0 < i) (h : i.toNat < T.size) :
    (T[i.toNat]'h).toNat ≤ 8 ∧ x < ((2 ^ (b + (T[i.toNat]'h).toNat) : Nat) : Int) ∧ (0 < x → ((2 ^ (b + (T[i.toNat]'h).toNat - 1) : Nat) : Int) ≤ x ∧ 0 < b + (T[i.toNat]'h).toNat) := by
  obtain ⟨X, rfl⟩ : ∃ X : Nat, x = X := ⟨x.toNat, by omega⟩
  rw [← Int.natCast_ediv] at hi
  obtain ⟨I, hI⟩ : ∃ I : Nat, I = X / 2 ^ b := ⟨_, rfl⟩
  rw [← hI] at hi
  subst hi
  have hs : (I : Int).toNat = I := Int.toNat_natCast I
  have hg : (T[(I : Int).toNat]'h) = T.data.getD I 0 := by
    have h' : I < T.data.size := by rw [hs] at h; exact h
    simp only [hs]
    rw [Array.getD_eq_getD_getElem?, Array.getElem?_eq_getElem h']
    rfl
  rw [hg]
  have hall := List.all_eq_true.1 hT I (List.mem_range.2 (by omega))
  obtain ⟨h1, h2, h3⟩ := of_decide_eq_true hall
  obtain ⟨n, hn⟩ : ∃ n, n = (T.data.getD I 0).toNat := ⟨_, rfl⟩
  rw [← hn] at h1 h2 h3 ⊢
  have hp : 0 < 2 ^ b := Nat.two_pow_pos b
  refine ⟨h1, ?_, fun hx => ?_⟩
  · have : X < 2 ^ b * 2 ^ n := by
      rw [Nat.mul_comm]
      exact (Nat.div_lt_iff_lt_mul hp).1 (hI ▸ h2)
    rw [Nat.pow_add]
    exact_mod_cast this
  · rcases h3 with h3 | ⟨h3, h4⟩
    · rcases hnz with hz | hz
      · subst hz
        simp at hI
        omega
      · omega
    · refine ⟨?_, by omega⟩
      have : 2 ^ (n - 1) * 2 ^ b ≤ X := (Nat.le_div_iff_mul_le hp).1 (hI ▸ h4)
      rw [show b + n - 1 = (n - 1) + b by omega, Nat.pow_add]
      exact_mod_cast this

theorem wrap64_nat (n : Nat) (h : n ≤ 64) : wrap64 (n : Int) = n := by simp only [wrap64]; omega
theorem len_fin (T : ByteArray) (hT : (List.range 256).all (fun i => decide ((T.data.getD i 0).toNat ≤ 8 ∧ i < 2 ^ (T.data.getD i 0).toNat ∧ (i = 0 ∨ 0 < (T.data.getD i 0).toNat ∧ 2 ^ ((T.data.getD i 0).toNat - 1) ≤ i))) = true)
    (w : World) (x i : Int) (b : Nat) (c : Int) (hc : c = (b : Int)) (hb : b ≤ 56) (h0 : 0 ≤ x) (hi : i = x / ((2 ^ b : Nat) : Int)) (hi2 : i < 256) (hnz : 0 < i) (h : i.toNat < T.size) :
    ∃ n : Nat, Ending.returned (.int .i64 (wrap64 (c + wrap64 ((T[i.toNat]'h).toNat : Int)))) = .returned (.int .i64 n) ∧ w = w ∧ n ≤ 64 ∧ x < ((2 ^ n : Nat) : Int) ∧ (0 < x → ((2 ^ (n - 1) : Nat) : Int) ≤ x ∧ 0 < n) := by
  subst hc
  obtain ⟨h1, h2, h3⟩ := len_tab T hT x i b hb h0 hi hi2 (Or.inr hnz) h
  obtain ⟨n, hn⟩ : ∃ n : Nat, n = (T[i.toNat]'h).toNat := ⟨_, rfl⟩
  rw [← hn] at h1 h2 h3 ⊢
  have hbn : b + n ≤ 64 := by clear h2 h3 hi; omega
  rw [wrap64_nat n (by clear h2 h3 hi; omega), ← Int.natCast_add, wrap64_nat (b + n) hbn]
  exact ⟨b + n, rfl, rfl, hbn, h2, h3⟩
theorem len_fin0 (T : ByteArray) (hT : (List.range 256).all (fun i => decide ((T.data.getD i 0).toNat ≤ 8 ∧ i < 2 ^ (T.data.getD i 0).toNat ∧ (i = 0 ∨ 0 < (T.data.getD i 0).toNat ∧ 2 ^ ((T.data.getD i 0).toNat - 1) ≤ i))) = true)
    (w : World) (x : Int) (h0 : 0 ≤ x) (hi2 : x < 256) (h : x.toNat < T.size) :
    ∃ n : Nat, Ending.returned (.int .i64 (wrap64 (wrap64 ((T[x.toNat]'h).toNat : Int)))) = .returned (.int .i64 n) ∧ w = w ∧ n ≤ 64 ∧ x < ((2 ^ n : Nat) : Int) ∧ (0 < x → ((2 ^ (n - 1) : Nat) : Int) ≤ x ∧ 0 < n) := by
  obtain ⟨h1, h2, h3⟩ := len_tab T hT x x 0 (by omega) h0 (by simp) hi2 (Or.inl rfl) h
  obtain ⟨n, hn⟩ : ∃ n : Nat, n = (T[x.toNat]'h).toNat := ⟨_, rfl⟩
  rw [← hn] at h1 h2 h3 ⊢
  rw [Nat.zero_add] at h2 h3
  have e1 : wrap64 (n : Int) = n := by simp only [wrap64]; omega
  rw [e1, e1]
  exact ⟨n, rfl, rfl, by omega, h2, h3⟩

set_option maxRecDepth 100000 in
set_option maxHeartbeats 1000000 in
theorem len64_any (w : World) (x : Int) (hx : 0 ≤ x ∧ x < 18446744073709551616) :
    Calls Tryd.prog 97 #[.int .u64 x] w fun e w' => ∃ n : Nat, e = .returned (.int .i64 n) ∧ w = w' ∧ n ≤ 64 ∧ x < ((2 ^ n : Nat) : Int) ∧ (0 < x → ((2 ^ (n - 1) : Nat) : Int) ≤ x ∧ 0 < n) := by
  go_enter Tryd.func97, Tryd.ntmps97
  by_cases h1 : x < 4294967296
  · go_wp2_with fail
    · go_ret
      exact len_fin _ (by kernel_rfl) w x _ 24 24 rfl (by omega) hx.1 ((show _ = x / 16777216 by omega).trans rfl) (by omega) (by omega) _
    · go_ret
      exact len_fin _ (by kernel_rfl) w x _ 16 16 rfl (by omega) hx.1 ((show _ = x / 65536 by omega).trans rfl) (by omega) (by omega) _
    · go_ret
      exact len_fin _ (by kernel_rfl) w x _ 8 8 rfl (by omega) hx.1 ((show _ = x / 256 by omega).trans rfl) (by omega) (by omega) _
    · go_ret
      exact len_fin0 _ (by kernel_rfl) w x hx.1 (by omega) _
  · go_wp2_with fail
    · go_ret
      exact len_fin _ (by kernel_rfl) w x _ 56 56 rfl (by omega) hx.1 ((show _ = x / 72057594037927936 by omega).trans rfl) (by omega) (by omega) _
    · go_ret
      exact len_fin _ (by kernel_rfl) w x _ 48 48 rfl (by omega) hx.1 ((show _ = x / 281474976710656 by omega).trans rfl) (by omega) (by omega) _
    · go_ret
      exact len_fin _ (by kernel_rfl) w x _ 40 40 rfl (by omega) hx.1 ((show _ = x / 1099511627776 by omega).trans rfl) (by omega) (by omega) _
    · go_ret
      exact len_fin _ (by kernel_rfl) w x _ 32 32 rfl (by omega) hx.1 ((show _ = x / 4294967296 by omega).trans rfl) (by omega) (by omega) _

theorem lz64_any (w : World) (y : Int) (hy : 0 < y ∧ y < 18446744073709551616) :
    Calls Tryd.prog 78 #[.int .u64 y] w fun e w' => ∃ s : Nat, e = .returned (.int .i64 s) ∧ w = w' ∧ s ≤ 63 ∧ 9223372036854775808 ≤ y * ((2 ^ s : Nat) : Int) ∧ y * ((2 ^ s : Nat) : Int) < 18446744073709551616 := by
  go_enter Tryd.func78, Tryd.ntmps78
  go_wp2_with fail
  refine Calls.mono (len64_any w y ⟨by omega, hy.2⟩) ?_; rintro e wk ⟨n, rfl, rfl, h1, h2, h3⟩
  obtain ⟨h3, h4⟩ := h3 hy.1
  have hs : 9223372036854775808 ≤ y * ((2 ^ (64 - n) : Nat) : Int) ∧ y * ((2 ^ (64 - n) : Nat) : Int) < 18446744073709551616 := by
    obtain ⟨Y, rfl⟩ : ∃ Y : Nat, y = Y := ⟨y.toNat, by omega⟩
    have a1 : 2 ^ (n - 1) * 2 ^ (64 - n) ≤ Y * 2 ^ (64 - n) := Nat.mul_le_mul_right _ (by exact_mod_cast h3)
    have a2 : Y * 2 ^ (64 - n) < 2 ^ n * 2 ^ (64 - n) := Nat.mul_lt_mul_of_pos_right (by exact_mod_cast h2) (Nat.two_pow_pos _)
    rw [← Nat.pow_add, show n - 1 + (64 - n) = 63 by omega] at a1
    rw [← Nat.pow_add, show n + (64 - n) = 64 by omega] at a2
    rw [← Int.natCast_mul]
    exact ⟨Int.ofNat_le.2 a1, Int.ofNat_lt.2 a2⟩
  have HS := hid hs
  clear hs h2 h3
  have hw : 64 - (n : Int) = ((64 - n : Nat) : Int) := by omega
  go_wp2_with fail
  go_ret
  exact ⟨64 - n, rfl, by trivial, by omega, HS.out⟩
end Go.Proofs.YtfalllekhcocgaaDoor
