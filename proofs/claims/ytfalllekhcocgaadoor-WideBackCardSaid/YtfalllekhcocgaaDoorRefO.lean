/-
  Quotients and rests, of any two numbers: what the program's Div and the reference's answer.
-/
import Derived.Test.YtfalllekhcocgaaDoorRefN
namespace Go.Proofs.YtfalllekhcocgaaDoor
open Go.RowKit

/-- a quotient, towards 0; what is left -/
def dq (x y : Int) : Int := if (decide (x < 0) != decide (y < 0)) = true then -(mag x / mag y) else mag x / mag y
def dr (x y : Int) : Int := if decide (x < 0) = true then -(mag x % mag y) else mag x % mag y
/-- what Div answers -/
def divV (x y : Int) : Value :=
  if y = 0 then .tuple #[.agg #[.int .i64 0, .int .u64 0], .agg #[.int .i64 0, .int .u64 0], .int .i64 22]
  else if Fits (dq x y) then .tuple #[WV (dq x y), WV (dr x y), .int .i64 0]
  else .tuple #[.agg #[.int .i64 0, .int .u64 0], .agg #[.int .i64 0, .int .u64 0], .int .i64 20]
theorem mag_nat (x : Int) : mag x = (x.natAbs : Int) := by
  unfold mag
  split <;> omega
theorem mag_pos {y : Int} (h : y ≠ 0) : 0 < mag y := by unfold mag; split <;> omega
theorem dr_fits {x y : Int} (hx : Fits x) (h0 : y ≠ 0) (hy : Fits y) : Fits (dr x y) := by
  have h1 := Int.emod_nonneg (mag x) (show mag y ≠ 0 by have := mag_pos h0; omega)
  have h2 := Int.emod_lt_of_pos (mag x) (mag_pos h0)
  have h3 : mag y ≤ 170141183460469231731687303715884105728 := by unfold Fits at hy; unfold mag; split <;> omega
  have h4 : mag x % mag y ≤ mag x := by
    have h5 := Int.emod_add_mul_ediv (mag x) (mag y)
    have h6 : 0 ≤ mag y * (mag x / mag y) := Int.mul_nonneg (by omega) (Int.ediv_nonneg (by unfold mag; split <;> omega) (by omega))
    omega
  unfold dr
  unfold Fits at hx ⊢
  rcases mag_cases x with ⟨hs, hm⟩ | ⟨hs, hm⟩
  · rw [if_pos (by simpa using hs)]
    omega
  · rw [if_neg (by simpa using hs)]
    omega
theorem divc_any (w : World) (x y : Int) (hx : Fits x) (hy : Fits y) : Calls Tryd.prog 16 #[WV x, WV y] w fun e w' => e = .returned (divV x y) ∧ Below w.heap.size w w' := by
  unfold divV
  by_cases h0 : y = 0
  · rw [if_pos h0]
    subst h0
    exact div_zero w x
  · rw [if_neg h0]
    by_cases hf : Fits (dq x y)
    · rw [if_pos hf]
      have hp := mag_pos h0
      have h1 := mag_big hx
      have h2 := mag_big hy
      have hq : Big (mag x / mag y) := by
        unfold Big at h1 ⊢
        exact ⟨Int.ediv_nonneg h1.1 (by omega), Int.lt_of_le_of_lt (Int.ediv_le_self _ h1.1) h1.2⟩
      have hr : Big (mag x % mag y) := by
        have h3 := Int.emod_nonneg (mag x) (show mag y ≠ 0 by omega)
        have h4 := Int.emod_lt_of_pos (mag x) hp
        unfold Big at h2 ⊢
        omega
      exact div_by w x y _ _ hx hy h0 hq hr (fun w => by_any w (mag x) (mag y) h1 h2 hp) hf (dr_fits hx h0 hy)
    · rw [if_neg hf]
      exact div_over w x y hx hy h0 hf
theorem dq_nat {x y : Int} : dq x y = if (decide (x < 0) != decide (y < 0)) = true then -((x.natAbs / y.natAbs : Nat) : Int) else ((x.natAbs / y.natAbs : Nat) : Int) := by
  unfold dq
  rw [mag_nat, mag_nat, Int.natCast_ediv]
theorem dr_nat {x y : Int} : dr x y = if decide (x < 0) = true then -((x.natAbs % y.natAbs : Nat) : Int) else ((x.natAbs % y.natAbs : Nat) : Int) := by
  unfold dr
  rw [mag_nat, mag_nat, Int.natCast_emod]
theorem rdivc_any (w : World) (x y : Int) (hx : Fits x) (hy : Fits y) : Calls Tryd.prog 32 #[WV x, WV y] w fun e w' => e = .returned (divV x y) ∧ Below w.heap.size w w' := by
  unfold divV
  by_cases h0 : y = 0
  · rw [if_pos h0]
    exact rdiv_zero w x y hx hy h0
  · rw [if_neg h0]
    have hrf := dr_fits hx h0 hy
    by_cases hf : Fits (dq x y)
    · rw [if_pos hf]
      rw [dq_nat] at hf ⊢
      rw [dr_nat] at hrf ⊢
      by_cases h1 : x < 0 <;> by_cases h2 : y < 0
      · rw [decide_eq_true h1] at hf hrf ⊢
        rw [decide_eq_true h2] at hf ⊢
        exact rdiv_tt w x y hx hy h0 (decide_eq_true h1) (decide_eq_true h2) _ _ rfl rfl hf hrf _ _ _ _ rfl rfl
      · rw [decide_eq_true h1] at hf hrf ⊢
        rw [decide_eq_false h2] at hf ⊢
        exact rdiv_tf w x y hx hy h0 (decide_eq_true h1) (decide_eq_false h2) _ _ rfl rfl hf hrf _ _ _ _ rfl rfl
      · rw [decide_eq_false h1] at hf hrf ⊢
        rw [decide_eq_true h2] at hf ⊢
        exact rdiv_ft w x y hx hy h0 (decide_eq_false h1) (decide_eq_true h2) _ _ rfl rfl hf hrf _ _ _ _ rfl rfl
      · rw [decide_eq_false h1] at hf hrf ⊢
        rw [decide_eq_false h2] at hf ⊢
        exact rdiv_ff w x y hx hy h0 (decide_eq_false h1) (decide_eq_false h2) _ _ rfl rfl hf hrf _ _ _ _ rfl rfl
    · rw [if_neg hf]
      have hk : x.natAbs / y.natAbs ≤ x.natAbs := Nat.div_le_self _ _
      rw [dq_nat] at hf
      obtain ⟨k, hkk⟩ : ∃ k, k = x.natAbs / y.natAbs := ⟨_, rfl⟩
      rw [← hkk] at hf hk
      by_cases h1 : x < 0
      · by_cases h2 : y < 0
        · rw [decide_eq_true h1, decide_eq_true h2] at hf
          exact rdiv_over w x y hx hy h0 (decide_eq_true h1) (decide_eq_true h2) k _ hkk.symm rfl hf
        · exfalso
          apply hf
          rw [decide_eq_true h1, decide_eq_false h2, if_pos (by decide)]
          unfold Fits at hx ⊢
          omega
      · exfalso
        apply hf
        unfold Fits at hx ⊢
        split <;> omega
/-- what is answered is three values of these forms -/
theorem divV_form (x y : Int) : ∃ a b c d k : Int, divV x y = .tuple #[.agg #[.int .i64 a, .int .u64 b], .agg #[.int .i64 c, .int .u64 d], .int .i64 k] := by
  unfold divV
  split
  · exact ⟨_, _, _, _, _, rfl⟩
  · split
    · exact ⟨_, _, _, _, _, rfl⟩
    · exact ⟨_, _, _, _, _, rfl⟩
end Go.Proofs.YtfalllekhcocgaaDoor
