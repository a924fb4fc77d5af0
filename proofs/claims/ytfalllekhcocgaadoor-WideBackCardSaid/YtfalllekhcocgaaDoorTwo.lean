/-
  A quotient by two words: the guess from the highest word is right or one too great.
-/
import Derived.Test.YtfalllekhcocgaaDoorBy
namespace Go.Proofs.YtfalllekhcocgaaDoor

theorem guess_near {M N T : Int} (hM : 0 ≤ M) (hT : 0 < T) (hTN : T ≤ N) (h : M * (N - T) < N * T) : M / N ≤ M / T ∧ M / T ≤ M / N + 1 := by
  have hN : 0 < N := by omega
  constructor
  · apply Int.le_ediv_of_mul_le hT
    have h1 := Int.emod_add_mul_ediv M N
    have h2 := Int.emod_nonneg M (show N ≠ 0 by omega)
    have h3 : M / N * T ≤ M / N * N := Int.mul_le_mul_of_nonneg_left hTN (Int.ediv_nonneg hM (by omega))
    rw [Int.mul_comm N] at h1
    omega
  · have hlt : M / T < M / N + 2 := by
      apply Int.ediv_lt_of_lt_mul hT
      apply Int.lt_of_mul_lt_mul_right (a := N) _ (by omega)
      have h1 : M < (M / N + 1) * N := by
        have e := Int.emod_add_mul_ediv M N
        have e1 := Int.emod_lt_of_pos M hN
        rw [Int.add_mul, Int.one_mul, Int.mul_comm]
        omega
      have h2 : M * N < M * T + N * T := by rw [Int.mul_sub] at h; omega
      have h3 : M * T ≤ (M / N + 1) * N * T := Int.mul_le_mul_of_nonneg_right (by omega) (by omega)
      have h4 : (M / N + 2) * T * N = (M / N + 1) * N * T + N * T := by
        rw [show M / N + 2 = (M / N + 1) + 1 by omega, Int.add_mul _ 1, Int.one_mul, Int.add_mul, Int.mul_assoc (M / N + 1) T N, Int.mul_comm T N, Int.mul_assoc (M / N + 1) N T]
      omega
    omega

theorem top_near {M nh nl P Q : Int} (hM : 0 ≤ M ∧ M < 340282366920938463463374607431768211456) (hnh : 0 < nh) (hnl : 0 ≤ nl) (hQ : Q = 2 ∨ 4 ≤ Q) (hPQ : P * Q = 18446744073709551616) (htop : 9223372036854775808 ≤ nh * P + nl / Q) :
    M / (nh * 18446744073709551616 + nl) ≤ M / ((nh * P + nl / Q) * Q) ∧ M / ((nh * P + nl / Q) * Q) ≤ M / (nh * 18446744073709551616 + nl) + 1 := by
  have hQ0 : 0 < Q := by omega
  obtain ⟨t, ht⟩ : ∃ t, t = nh * P + nl / Q := ⟨_, rfl⟩
  obtain ⟨T, hT⟩ : ∃ T, T = t * Q := ⟨_, rfl⟩
  obtain ⟨N, hN⟩ : ∃ N, N = nh * 18446744073709551616 + nl := ⟨_, rfl⟩
  obtain ⟨D, hD⟩ : ∃ D, D = nl % Q := ⟨_, rfl⟩
  have d0 : 0 ≤ D := by rw [hD]; exact Int.emod_nonneg _ (by omega)
  have d1 : D < Q := by rw [hD]; exact Int.emod_lt_of_pos _ hQ0
  have hNT : N = T + D := by
    have e := Int.emod_add_mul_ediv nl Q
    rw [hN, hT, ht, hD, Int.add_mul, Int.mul_assoc, hPQ, Int.mul_comm (nl / Q)]
    omega
  rw [← ht] at htop ⊢
  rw [← hT, ← hN]
  have hT63 : 9223372036854775808 * Q ≤ T := by rw [hT]; exact Int.mul_le_mul_of_nonneg_right htop (by omega)
  have hT0 : 0 < T := by omega
  apply guess_near hM.1 hT0 (by omega)
  rw [show N - T = D by omega]
  have hTT : T * T ≤ N * T := Int.mul_le_mul_of_nonneg_right (by omega) (by omega)
  rcases hQ with rfl | hQ4
  · have hMD : M * D ≤ M * 1 := Int.mul_le_mul_of_nonneg_left (by omega) hM.1
    have h2 : 18446744073709551616 * 18446744073709551616 ≤ T * T := Int.mul_le_mul (by omega) (by omega) (by decide) (by omega)
    omega
  · have hMD : M * D ≤ M * Q := Int.mul_le_mul_of_nonneg_left (by omega) hM.1
    have hMQ : M * Q < 340282366920938463463374607431768211456 * Q := Int.mul_lt_mul_of_pos_right hM.2 hQ0
    have h2 : 9223372036854775808 * Q * (9223372036854775808 * Q) ≤ T * T := Int.mul_le_mul hT63 hT63 (by omega) (by omega)
    have h3 : 9223372036854775808 * Q * (9223372036854775808 * 4) ≤ 9223372036854775808 * Q * (9223372036854775808 * Q) := Int.mul_le_mul_of_nonneg_left (by omega) (by omega)
    omega

/-- the guess as the program reckons it -/
theorem top_guess {M t q2 Q : Int} (hM : 0 ≤ M) (hq : 0 < q2) (ht : 0 < t) (hQ : Q = q2 * 2) : M / 2 / t / q2 = M / (t * Q) := by
  rw [Int.ediv_ediv_of_nonneg (by omega), Int.ediv_ediv_of_nonneg (by have := Int.mul_pos (show (0:Int) < 2 by decide) ht; omega)]
  congr 1
  rw [hQ, Int.mul_comm 2, Int.mul_assoc]

/-- one less is taken, and mended -/
theorem mend {M N g h : Int} (hM : 0 ≤ M) (hN : 0 < N) (h0 : M / N ≤ g) (h1 : g ≤ M / N + 1) (hh : (0 < g ∧ h = g - 1) ∨ (g = 0 ∧ h = 0)) :
    0 ≤ h ∧ 0 ≤ M - h * N ∧ ((M - h * N < N ∧ M / N = h ∧ M % N = M - h * N) ∨ (N ≤ M - h * N ∧ M / N = h + 1 ∧ M % N = M - h * N - N)) := by
  have e := Int.emod_add_mul_ediv M N
  have e0 := Int.emod_nonneg M (show N ≠ 0 by omega)
  have e1 := Int.emod_lt_of_pos M hN
  have q0 := Int.ediv_nonneg hM (show 0 ≤ N by omega)
  rw [Int.mul_comm] at e
  obtain ⟨k, hk⟩ : ∃ k, k = M / N := ⟨_, rfl⟩
  rw [← hk] at e h0 h1 q0 ⊢
  have : h = k ∨ h = k - 1 := by omega
  rcases this with rfl | rfl
  · refine ⟨q0, by omega, Or.inl ⟨by omega, rfl, by omega⟩⟩
  · refine ⟨by omega, ?_, Or.inr ⟨?_, by omega, ?_⟩⟩ <;> rw [Int.sub_mul, Int.one_mul] <;> omega
end Go.Proofs.YtfalllekhcocgaaDoor
