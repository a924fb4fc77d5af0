/-
  Bounds
-/
import Derived.Test.YtmamedobphlpkaaDoorF04
set_option linter.unusedSimpArgs false
set_option linter.unusedVariables false

namespace Go.Proofs.YtmamedobphlpkaaDoor
open Go.RowKit

theorem floor_neg {m p : Int} (hp : 0 < p) : (-m) / p = if m % p = 0 then -(m / p) else -(m / p) - 1 := by
  have h1 := Int.emod_add_mul_ediv m p
  have h2 := Int.emod_nonneg m (show p ≠ 0 by omega)
  have h3 := Int.emod_lt_of_pos m hp
  split
  · rename_i h
    refine ((Int.ediv_emod_unique hp).2 ⟨?_, Int.le_refl 0, hp⟩).1
    rw [Int.mul_neg]; omega
  · rename_i h
    refine ((Int.ediv_emod_unique (r := p - m % p) hp).2 ⟨?_, by omega, by omega⟩).1
    rw [Int.mul_sub, Int.mul_neg]; omega
theorem dr_neg {c p : Int} (hp : 0 < p) : dr c p < 0 ↔ c < 0 ∧ mag c % p ≠ 0 := by
  have e : mag p = p := by unfold mag; rw [if_neg (by omega)]
  have h2 := Int.emod_nonneg (mag c) (show p ≠ 0 by omega)
  unfold dr
  rw [e]
  by_cases h : c < 0
  · simp [h]; omega
  · simp [h]; omega
theorem dr_pos {c p : Int} (hp : 0 < p) : 0 < dr c p ↔ ¬ c < 0 ∧ mag c % p ≠ 0 := by
  have e : mag p = p := by unfold mag; rw [if_neg (by omega)]
  have h2 := Int.emod_nonneg (mag c) (show p ≠ 0 by omega)
  unfold dr
  rw [e]
  by_cases h : c < 0
  · simp [h]; omega
  · simp [h]; omega
theorem dq_pos {c p : Int} (hp : 0 < p) : dq c p = if c < 0 then -(mag c / p) else mag c / p := by
  have e : mag p = p := by unfold mag; rw [if_neg (by omega)]
  unfold dq
  rw [e]
  have : ¬ p < 0 := by omega
  by_cases h : c < 0 <;> simp [h, this]
/-- downward -/
theorem floor_eq {c p : Int} (hp : 0 < p) : c / p = if dr c p < 0 then dq c p - 1 else dq c p := by
  rw [dq_pos hp]
  by_cases h : c < 0
  · have e : c = -(mag c) := by unfold mag; rw [if_pos h]; omega
    have hf := floor_neg (m := mag c) hp
    rw [← e] at hf
    rw [hf, if_pos h]
    by_cases h0 : mag c % p = 0
    · rw [if_pos h0, if_neg (fun hh => ((dr_neg hp).1 hh).2 h0)]
    · rw [if_neg h0, if_pos ((dr_neg hp).2 ⟨h, h0⟩)]
  · rw [if_neg (fun hh => h ((dr_neg hp).1 hh).1), if_neg h]
    have : mag c = c := by unfold mag; rw [if_neg h]
    rw [this]
/-- upward -/
def ceilD (c p : Int) : Int := -((-c) / p)
theorem ceil_eq {c p : Int} (hp : 0 < p) : ceilD c p = if 0 < dr c p then dq c p + 1 else dq c p := by
  unfold ceilD
  rw [dq_pos hp]
  by_cases h : c < 0
  · rw [if_neg (fun hh => ((dr_pos hp).1 hh).1 h), if_pos h]
    have : mag c = -c := by unfold mag; rw [if_pos h]
    rw [this]
  · have e : mag c = c := by unfold mag; rw [if_neg h]
    rw [if_neg h, floor_neg hp]
    rw [e]
    by_cases h0 : c % p = 0
    · rw [if_pos h0, if_neg (fun hh => ((dr_pos hp).1 hh).2 (by rw [e]; exact h0))]; omega
    · rw [if_neg h0, if_pos ((dr_pos hp).2 ⟨h, by rw [e]; exact h0⟩)]; omega
theorem dq_fits {c p : Int} (hc : Fits c) (hp : 0 < p) : Fits (dq c p) := by
  have h1 : mag c / p ≤ mag c := Int.ediv_le_self _ (by unfold mag; split <;> omega)
  have h2 : 0 ≤ mag c / p := Int.ediv_nonneg (by unfold mag; split <;> omega) (by omega)
  rw [dq_pos hp]
  unfold Fits mag at *
  split at h1 <;> simp_all <;> omega
theorem dq_small {c p : Int} (hc : Fits c) (hp : 0 < p) (hr : dr c p ≠ 0) : -170141183460469231731687303715884105728 < dq c p ∧ dq c p < 170141183460469231731687303715884105727 := by
  have hm : mag c % p ≠ 0 := by
    intro h0
    apply hr
    have h1 : ¬ dr c p < 0 := fun hh => ((dr_neg hp).1 hh).2 h0
    have h2 : ¬ 0 < dr c p := fun hh => ((dr_pos hp).1 hh).2 h0
    omega
  have hp2 : 2 ≤ p := by
    rcases Int.lt_or_le p 2 with h | h
    · have : p = 1 := by omega
      subst this
      exact absurd (Int.emod_one _) hm
    · exact h
  have h0 : 0 ≤ mag c := by unfold mag; split <;> omega
  have hle : mag c ≤ 170141183460469231731687303715884105728 := by unfold Fits mag at *; split <;> omega
  have h1 : mag c / p ≤ mag c / 2 := by
    rw [Int.le_ediv_iff_mul_le (by omega)]
    have hq : 0 ≤ mag c / p := Int.ediv_nonneg h0 (by omega)
    have := Int.mul_ediv_self_le (x := mag c) (k := p) (by omega)
    have h3 : mag c / p * 2 ≤ mag c / p * p := Int.mul_le_mul_of_nonneg_left hp2 hq
    rw [Int.mul_comm p] at this
    omega
  have h2 : 0 ≤ mag c / p := Int.ediv_nonneg h0 (by omega)
  rw [dq_pos hp]
  split <;> omega
theorem ten_pos (j : Nat) : (0 : Int) < ((10 ^ j : Nat) : Int) := by
  have := Nat.pow_pos (n := j) (show 0 < 10 by decide)
  omega

theorem low_neg (w : World) (c s t : Int) (j : Nat) (hc : Fits c) (hs : May s) (ht : May t) (hj : s - t = (j : Int)) (hr : dr c ((10 ^ j : Nat) : Int) < 0) : Calls Tryd.prog 50 #[Dc c s, .int .i64 t, .int .i64 0] w fun e w' => e = .returned (.tuple #[WV (dq c ((10 ^ j : Nat) : Int) - 1), .int .i64 0]) ∧ Below w.heap.size w w' := by
  have hf : Fits (dq c ((10 ^ j : Nat) : Int) - 1) := by
    have := dq_small hc (ten_pos j) (by omega)
    unfold Fits; omega
  refine d_in (args := [Dc c s, .int .i64 t, .int .i64 0]) 86 Tryd.func50 rfl rfl rfl ?_
  refine d_reg ?_
  refine h_box (cs := #[hiW c, loW c, .int .i64 s]) rfl rfl rfl rfl ?_; intro g3_1
  refine h_alloc zeWide rfl rfl ?_; intro g6_2
  refine h_q hfl rfl ?_
  refine h_done (d_reg ?_)
  refine h_call (ent_of Tryd.func65 (by kernel_rfl) rfl) (fun w hH => of_any _ 1 (by omega)) rfl rfl rfl rfl ?_
  refine h_alloc zeWide rfl rfl ?_; intro g8_3
  refine h_store 0 (v := WV 1) (#[hiW 1, loW 1]) tyWide.2 rfl rfl rfl rfl rfl rfl rfl rfl rfl rfl ?_
  refine h_done (d_reg ?_)
  refine h_q hfl rfl ?_
  refine h_load 2 (v := .int .i64 s) (reads_one tyInt rfl) rfl rfl rfl rfl ?_
  refine h_q hfl rfl ?_
  refine h_ar (z' := (j : Int)) (by rw [IntWalk.i64_in _ (by omega)]; omega) rfl rfl rfl rfl rfl ?_
  refine h_q hfl rfl ?_
  refine h_done (d_seq (d_reg ?_))
  refine h_q hfl rfl ?_
  refine h_cmp (cmp_lss_f (by omega)) rfl rfl rfl rfl ?_
  refine h_done (d_else rfl (d_skip (f_to (d_seq (d_reg ?_)))))
  refine h_q hfl rfl ?_
  refine h_cmp (cmp_eql_f (by omega)) rfl rfl rfl rfl ?_
  refine h_done (d_else rfl (d_skip (f_to (d_reg ?_))))
  refine h_q hfl rfl ?_
  refine h_call (ent_of Tryd.func27 (by kernel_rfl) rfl) (fun w hH => pow_r _ j (by omega)) rfl rfl rfl rfl ?_
  refine h_q hfl rfl ?_
  refine h_alloc zeWide rfl rfl ?_; intro g12_4
  refine h_store 0 (v := WV ((10 ^ j : Nat) : Int)) (#[hiW ((10 ^ j : Nat) : Int), loW ((10 ^ j : Nat) : Int)]) tyWide.2 rfl rfl rfl rfl rfl rfl rfl rfl rfl rfl ?_
  refine h_q hfl rfl ?_
  refine h_done (d_reg ?_)
  refine h_q hfl rfl ?_
  refine h_load 3 (v := .agg #[hiW c, loW c]) (reads_agg (cs := [hiW c, loW c, .int .i64 s]) tyWide rfl) rfl rfl rfl rfl ?_
  refine h_load 0 (v := .agg #[hiW ((10 ^ j : Nat) : Int), loW ((10 ^ j : Nat) : Int)]) (reads_agg (cs := [hiW ((10 ^ j : Nat) : Int), loW ((10 ^ j : Nat) : Int)]) tyWide rfl) rfl rfl rfl rfl ?_
  refine h_call (ent_of Tryd.func73 (by kernel_rfl) rfl) (fun w hH => div_r _ _ _ hc (pow_fits j (by omega)) (by have := ten_pos j; omega) (dq_fits hc (ten_pos j))) rfl rfl rfl rfl ?_
  refine h_q hfl rfl ?_
  refine h_alloc zeWide rfl rfl ?_; intro g14_5
  refine h_alloc zeWide rfl rfl ?_; intro g15_6
  refine h_store 1 (v := WV (dq c ((10 ^ j : Nat) : Int))) (#[hiW (dq c ((10 ^ j : Nat) : Int)), loW (dq c ((10 ^ j : Nat) : Int))]) tyWide.2 rfl rfl rfl rfl rfl rfl rfl rfl rfl rfl ?_
  refine h_store 0 (v := WV (dr c ((10 ^ j : Nat) : Int))) (#[hiW (dr c ((10 ^ j : Nat) : Int)), loW (dr c ((10 ^ j : Nat) : Int))]) tyWide.2 rfl rfl rfl rfl rfl rfl rfl rfl rfl rfl ?_
  refine h_q hfl rfl ?_
  refine h_done (d_seq (d_block (d_reg ?_)))
  refine h_q hfl rfl ?_
  refine h_cmp (cmp_eql_f (by omega)) rfl rfl rfl rfl ?_
  refine h_q hfl rfl ?_
  refine h_done (d_else rfl (d_reg ?_))
  refine h_q hfl rfl ?_
  refine h_cmp (cmp_eql_t (by omega)) rfl rfl rfl rfl ?_
  refine h_q hfl rfl ?_
  refine h_load 0 (v := .agg #[hiW (dr c ((10 ^ j : Nat) : Int)), loW (dr c ((10 ^ j : Nat) : Int))]) (reads_agg (cs := [hiW (dr c ((10 ^ j : Nat) : Int)), loW (dr c ((10 ^ j : Nat) : Int))]) tyWide rfl) rfl rfl rfl rfl ?_
  refine h_call (ent_of Tryd.func31 (by kernel_rfl) rfl) (fun w hH => sign_any _ _ (dr_fits hc (by have := ten_pos j; omega) (pow_fits j (by omega)))) rfl rfl rfl rfl ?_
  refine h_cmp (cmp_eql_t (cmp3_lt hr)) rfl rfl rfl rfl ?_
  refine h_q hfl rfl ?_
  refine h_done ?_
  refine WC2.keep (env' := [(6, .pointer (some ⟨g6_2, 0, none⟩)), (7, .int .i64 0), (8, .pointer (some ⟨g8_3, 0, none⟩)), (14, .pointer (some ⟨g14_5, 0, none⟩)), (16, .int .i64 0), (71, .bool true)]) ⟨rfl, rfl, rfl, rfl, rfl, rfl, trivial⟩ ?_
  refine d_then rfl (d_reg ?_)
  refine h_load 1 (v := .agg #[hiW (dq c ((10 ^ j : Nat) : Int)), loW (dq c ((10 ^ j : Nat) : Int))]) (reads_agg (cs := [hiW (dq c ((10 ^ j : Nat) : Int)), loW (dq c ((10 ^ j : Nat) : Int))]) tyWide rfl) rfl rfl rfl rfl ?_
  refine h_load 3 (v := .agg #[hiW 1, loW 1]) (reads_agg (cs := [hiW 1, loW 1]) tyWide rfl) rfl rfl rfl rfl ?_
  refine h_call (ent_of Tryd.func29 (by kernel_rfl) rfl) (fun w hH => sub_r _ _ _ (dq_fits hc (ten_pos j)) one_fits) rfl rfl rfl rfl ?_
  refine h_q hfl rfl ?_
  refine h_store 4 (v := WV (rz (dq c ((10 ^ j : Nat) : Int) - 1))) (#[hiW (rz (dq c ((10 ^ j : Nat) : Int) - 1)), loW (rz (dq c ((10 ^ j : Nat) : Int) - 1))]) tyWide.2 rfl rfl rfl rfl rfl rfl rfl rfl rfl rfl ?_
  refine h_q hfl rfl ?_
  refine h_done (d_ret (f_block_ret (f_then_ret ?_)))
  exact f_fin2 (.cell 4 (v := .agg #[hiW (rz (dq c ((10 ^ j : Nat) : Int) - 1)), loW (rz (dq c ((10 ^ j : Nat) : Int) - 1))]) (reads_agg (cs := [hiW (rz (dq c ((10 ^ j : Nat) : Int) - 1)), loW (rz (dq c ((10 ^ j : Nat) : Int) - 1))]) tyWide rfl) rfl rfl) (.tmp rfl) (fun w h => by rw [rz_fit hf, rE_fit hf]; exact ⟨rfl, h.up.below⟩) rfl

theorem low_pos (w : World) (c s t : Int) (j : Nat) (hc : Fits c) (hs : May s) (ht : May t) (hj : s - t = (j : Int)) (hr : ¬ dr c ((10 ^ j : Nat) : Int) < 0) : Calls Tryd.prog 50 #[Dc c s, .int .i64 t, .int .i64 0] w fun e w' => e = .returned (.tuple #[WV (dq c ((10 ^ j : Nat) : Int)), .int .i64 0]) ∧ Below w.heap.size w w' := by
  refine d_in (args := [Dc c s, .int .i64 t, .int .i64 0]) 86 Tryd.func50 rfl rfl rfl ?_
  refine d_reg ?_
  refine h_box (cs := #[hiW c, loW c, .int .i64 s]) rfl rfl rfl rfl ?_; intro g3_1
  refine h_alloc zeWide rfl rfl ?_; intro g6_2
  refine h_q hfl rfl ?_
  refine h_done (d_reg ?_)
  refine h_call (ent_of Tryd.func65 (by kernel_rfl) rfl) (fun w hH => of_any _ 1 (by omega)) rfl rfl rfl rfl ?_
  refine h_alloc zeWide rfl rfl ?_; intro g8_3
  refine h_store 0 (v := WV 1) (#[hiW 1, loW 1]) tyWide.2 rfl rfl rfl rfl rfl rfl rfl rfl rfl rfl ?_
  refine h_done (d_reg ?_)
  refine h_q hfl rfl ?_
  refine h_load 2 (v := .int .i64 s) (reads_one tyInt rfl) rfl rfl rfl rfl ?_
  refine h_q hfl rfl ?_
  refine h_ar (z' := (j : Int)) (by rw [IntWalk.i64_in _ (by omega)]; omega) rfl rfl rfl rfl rfl ?_
  refine h_q hfl rfl ?_
  refine h_done (d_seq (d_reg ?_))
  refine h_q hfl rfl ?_
  refine h_cmp (cmp_lss_f (by omega)) rfl rfl rfl rfl ?_
  refine h_done (d_else rfl (d_skip (f_to (d_seq (d_reg ?_)))))
  refine h_q hfl rfl ?_
  refine h_cmp (cmp_eql_f (by omega)) rfl rfl rfl rfl ?_
  refine h_done (d_else rfl (d_skip (f_to (d_reg ?_))))
  refine h_q hfl rfl ?_
  refine h_call (ent_of Tryd.func27 (by kernel_rfl) rfl) (fun w hH => pow_r _ j (by omega)) rfl rfl rfl rfl ?_
  refine h_q hfl rfl ?_
  refine h_alloc zeWide rfl rfl ?_; intro g12_4
  refine h_store 0 (v := WV ((10 ^ j : Nat) : Int)) (#[hiW ((10 ^ j : Nat) : Int), loW ((10 ^ j : Nat) : Int)]) tyWide.2 rfl rfl rfl rfl rfl rfl rfl rfl rfl rfl ?_
  refine h_q hfl rfl ?_
  refine h_done (d_reg ?_)
  refine h_q hfl rfl ?_
  refine h_load 3 (v := .agg #[hiW c, loW c]) (reads_agg (cs := [hiW c, loW c, .int .i64 s]) tyWide rfl) rfl rfl rfl rfl ?_
  refine h_load 0 (v := .agg #[hiW ((10 ^ j : Nat) : Int), loW ((10 ^ j : Nat) : Int)]) (reads_agg (cs := [hiW ((10 ^ j : Nat) : Int), loW ((10 ^ j : Nat) : Int)]) tyWide rfl) rfl rfl rfl rfl ?_
  refine h_call (ent_of Tryd.func73 (by kernel_rfl) rfl) (fun w hH => div_r _ _ _ hc (pow_fits j (by omega)) (by have := ten_pos j; omega) (dq_fits hc (ten_pos j))) rfl rfl rfl rfl ?_
  refine h_q hfl rfl ?_
  refine h_alloc zeWide rfl rfl ?_; intro g14_5
  refine h_alloc zeWide rfl rfl ?_; intro g15_6
  refine h_store 1 (v := WV (dq c ((10 ^ j : Nat) : Int))) (#[hiW (dq c ((10 ^ j : Nat) : Int)), loW (dq c ((10 ^ j : Nat) : Int))]) tyWide.2 rfl rfl rfl rfl rfl rfl rfl rfl rfl rfl ?_
  refine h_store 0 (v := WV (dr c ((10 ^ j : Nat) : Int))) (#[hiW (dr c ((10 ^ j : Nat) : Int)), loW (dr c ((10 ^ j : Nat) : Int))]) tyWide.2 rfl rfl rfl rfl rfl rfl rfl rfl rfl rfl ?_
  refine h_q hfl rfl ?_
  refine h_done (d_seq (d_block (d_reg ?_)))
  refine h_q hfl rfl ?_
  refine h_cmp (cmp_eql_f (by omega)) rfl rfl rfl rfl ?_
  refine h_q hfl rfl ?_
  refine h_done (d_else rfl (d_reg ?_))
  refine h_q hfl rfl ?_
  refine h_cmp (cmp_eql_t (by omega)) rfl rfl rfl rfl ?_
  refine h_q hfl rfl ?_
  refine h_load 0 (v := .agg #[hiW (dr c ((10 ^ j : Nat) : Int)), loW (dr c ((10 ^ j : Nat) : Int))]) (reads_agg (cs := [hiW (dr c ((10 ^ j : Nat) : Int)), loW (dr c ((10 ^ j : Nat) : Int))]) tyWide rfl) rfl rfl rfl rfl ?_
  refine h_call (ent_of Tryd.func31 (by kernel_rfl) rfl) (fun w hH => sign_any _ _ (dr_fits hc (by have := ten_pos j; omega) (pow_fits j (by omega)))) rfl rfl rfl rfl ?_
  refine h_cmp (cmp_eql_f (by rcases cmp3_cases (dr c ((10 ^ j : Nat) : Int)) 0 with ⟨h, e⟩ | ⟨h, e⟩ | ⟨h, e⟩ <;> omega)) rfl rfl rfl rfl ?_
  refine h_q hfl rfl ?_
  refine h_done ?_
  refine WC2.keep (env' := [(6, .pointer (some ⟨g6_2, 0, none⟩)), (7, .int .i64 0), (8, .pointer (some ⟨g8_3, 0, none⟩)), (14, .pointer (some ⟨g14_5, 0, none⟩)), (16, .int .i64 0), (71, .bool false)]) ⟨rfl, rfl, rfl, rfl, rfl, rfl, trivial⟩ ?_
  refine d_else rfl (d_skip (f_block (f_to (d_reg ?_))))
  refine h_load 1 (v := .agg #[hiW (dq c ((10 ^ j : Nat) : Int)), loW (dq c ((10 ^ j : Nat) : Int))]) (reads_agg (cs := [hiW (dq c ((10 ^ j : Nat) : Int)), loW (dq c ((10 ^ j : Nat) : Int))]) tyWide rfl) rfl rfl rfl rfl ?_
  refine h_q hfl rfl ?_
  refine h_store 4 (v := .agg #[hiW (dq c ((10 ^ j : Nat) : Int)), loW (dq c ((10 ^ j : Nat) : Int))]) (#[hiW (dq c ((10 ^ j : Nat) : Int)), loW (dq c ((10 ^ j : Nat) : Int))]) tyWide.2 rfl rfl rfl rfl rfl rfl rfl rfl rfl rfl ?_
  refine h_q hfl rfl ?_
  refine h_done (d_ret ?_)
  exact f_fin2 (.cell 4 (v := .agg #[hiW (dq c ((10 ^ j : Nat) : Int)), loW (dq c ((10 ^ j : Nat) : Int))]) (reads_agg (cs := [hiW (dq c ((10 ^ j : Nat) : Int)), loW (dq c ((10 ^ j : Nat) : Int))]) tyWide rfl) rfl rfl) (.tmp rfl) (fun w h => ⟨rfl, h.up.below⟩) rfl

theorem high_pos (w : World) (c s t : Int) (j : Nat) (hc : Fits c) (hs : May s) (ht : May t) (hj : s - t = (j : Int)) (hr : 0 < dr c ((10 ^ j : Nat) : Int)) : Calls Tryd.prog 50 #[Dc c s, .int .i64 t, .int .i64 1] w fun e w' => e = .returned (.tuple #[WV (dq c ((10 ^ j : Nat) : Int) + 1), .int .i64 0]) ∧ Below w.heap.size w w' := by
  have hf : Fits (dq c ((10 ^ j : Nat) : Int) + 1) := by
    have := dq_small hc (ten_pos j) (by omega)
    unfold Fits; omega
  refine d_in (args := [Dc c s, .int .i64 t, .int .i64 1]) 86 Tryd.func50 rfl rfl rfl ?_
  refine d_reg ?_
  refine h_box (cs := #[hiW c, loW c, .int .i64 s]) rfl rfl rfl rfl ?_; intro g3_1
  refine h_alloc zeWide rfl rfl ?_; intro g6_2
  refine h_q hfl rfl ?_
  refine h_done (d_reg ?_)
  refine h_call (ent_of Tryd.func65 (by kernel_rfl) rfl) (fun w hH => of_any _ 1 (by omega)) rfl rfl rfl rfl ?_
  refine h_alloc zeWide rfl rfl ?_; intro g8_3
  refine h_store 0 (v := WV 1) (#[hiW 1, loW 1]) tyWide.2 rfl rfl rfl rfl rfl rfl rfl rfl rfl rfl ?_
  refine h_done (d_reg ?_)
  refine h_q hfl rfl ?_
  refine h_load 2 (v := .int .i64 s) (reads_one tyInt rfl) rfl rfl rfl rfl ?_
  refine h_q hfl rfl ?_
  refine h_ar (z' := (j : Int)) (by rw [IntWalk.i64_in _ (by omega)]; omega) rfl rfl rfl rfl rfl ?_
  refine h_q hfl rfl ?_
  refine h_done (d_seq (d_reg ?_))
  refine h_q hfl rfl ?_
  refine h_cmp (cmp_lss_f (by omega)) rfl rfl rfl rfl ?_
  refine h_done (d_else rfl (d_skip (f_to (d_seq (d_reg ?_)))))
  refine h_q hfl rfl ?_
  refine h_cmp (cmp_eql_f (by omega)) rfl rfl rfl rfl ?_
  refine h_done (d_else rfl (d_skip (f_to (d_reg ?_))))
  refine h_q hfl rfl ?_
  refine h_call (ent_of Tryd.func27 (by kernel_rfl) rfl) (fun w hH => pow_r _ j (by omega)) rfl rfl rfl rfl ?_
  refine h_q hfl rfl ?_
  refine h_alloc zeWide rfl rfl ?_; intro g12_4
  refine h_store 0 (v := WV ((10 ^ j : Nat) : Int)) (#[hiW ((10 ^ j : Nat) : Int), loW ((10 ^ j : Nat) : Int)]) tyWide.2 rfl rfl rfl rfl rfl rfl rfl rfl rfl rfl ?_
  refine h_q hfl rfl ?_
  refine h_done (d_reg ?_)
  refine h_q hfl rfl ?_
  refine h_load 3 (v := .agg #[hiW c, loW c]) (reads_agg (cs := [hiW c, loW c, .int .i64 s]) tyWide rfl) rfl rfl rfl rfl ?_
  refine h_load 0 (v := .agg #[hiW ((10 ^ j : Nat) : Int), loW ((10 ^ j : Nat) : Int)]) (reads_agg (cs := [hiW ((10 ^ j : Nat) : Int), loW ((10 ^ j : Nat) : Int)]) tyWide rfl) rfl rfl rfl rfl ?_
  refine h_call (ent_of Tryd.func73 (by kernel_rfl) rfl) (fun w hH => div_r _ _ _ hc (pow_fits j (by omega)) (by have := ten_pos j; omega) (dq_fits hc (ten_pos j))) rfl rfl rfl rfl ?_
  refine h_q hfl rfl ?_
  refine h_alloc zeWide rfl rfl ?_; intro g14_5
  refine h_alloc zeWide rfl rfl ?_; intro g15_6
  refine h_store 1 (v := WV (dq c ((10 ^ j : Nat) : Int))) (#[hiW (dq c ((10 ^ j : Nat) : Int)), loW (dq c ((10 ^ j : Nat) : Int))]) tyWide.2 rfl rfl rfl rfl rfl rfl rfl rfl rfl rfl ?_
  refine h_store 0 (v := WV (dr c ((10 ^ j : Nat) : Int))) (#[hiW (dr c ((10 ^ j : Nat) : Int)), loW (dr c ((10 ^ j : Nat) : Int))]) tyWide.2 rfl rfl rfl rfl rfl rfl rfl rfl rfl rfl ?_
  refine h_q hfl rfl ?_
  refine h_done (d_seq (d_block (d_reg ?_)))
  refine h_q hfl rfl ?_
  refine h_cmp (cmp_eql_t (by omega)) rfl rfl rfl rfl ?_
  refine h_q hfl rfl ?_
  refine h_load 0 (v := .agg #[hiW (dr c ((10 ^ j : Nat) : Int)), loW (dr c ((10 ^ j : Nat) : Int))]) (reads_agg (cs := [hiW (dr c ((10 ^ j : Nat) : Int)), loW (dr c ((10 ^ j : Nat) : Int))]) tyWide rfl) rfl rfl rfl rfl ?_
  refine h_call (ent_of Tryd.func31 (by kernel_rfl) rfl) (fun w hH => sign_any _ _ (dr_fits hc (by have := ten_pos j; omega) (pow_fits j (by omega)))) rfl rfl rfl rfl ?_
  refine h_cmp (cmp_eql_t (cmp3_gt hr)) rfl rfl rfl rfl ?_
  refine h_q hfl rfl ?_
  refine h_done (d_then rfl (d_reg ?_))
  refine h_load 1 (v := .agg #[hiW (dq c ((10 ^ j : Nat) : Int)), loW (dq c ((10 ^ j : Nat) : Int))]) (reads_agg (cs := [hiW (dq c ((10 ^ j : Nat) : Int)), loW (dq c ((10 ^ j : Nat) : Int))]) tyWide rfl) rfl rfl rfl rfl ?_
  refine h_load 3 (v := .agg #[hiW 1, loW 1]) (reads_agg (cs := [hiW 1, loW 1]) tyWide rfl) rfl rfl rfl rfl ?_
  refine h_call (ent_of Tryd.func30 (by kernel_rfl) rfl) (fun w hH => add_r _ _ _ (dq_fits hc (ten_pos j)) one_fits) rfl rfl rfl rfl ?_
  refine h_q hfl rfl ?_
  refine h_store 4 (v := WV (rz (dq c ((10 ^ j : Nat) : Int) + 1))) (#[hiW (rz (dq c ((10 ^ j : Nat) : Int) + 1)), loW (rz (dq c ((10 ^ j : Nat) : Int) + 1))]) tyWide.2 rfl rfl rfl rfl rfl rfl rfl rfl rfl rfl ?_
  refine h_q hfl rfl ?_
  refine h_done ?_
  refine WC2.keep (env' := [(6, .pointer (some ⟨g6_2, 0, none⟩)), (14, .pointer (some ⟨g14_5, 0, none⟩)), (16, .int .i64 0), (7, .int .i64 (rE (dq c ((10 ^ j : Nat) : Int) + 1)))]) ⟨rfl, rfl, rfl, rfl, trivial⟩ ?_
  refine d_ret (f_block_ret (f_then_ret ?_))
  exact f_fin2 (.cell 4 (v := .agg #[hiW (rz (dq c ((10 ^ j : Nat) : Int) + 1)), loW (rz (dq c ((10 ^ j : Nat) : Int) + 1))]) (reads_agg (cs := [hiW (rz (dq c ((10 ^ j : Nat) : Int) + 1)), loW (rz (dq c ((10 ^ j : Nat) : Int) + 1))]) tyWide rfl) rfl rfl) (.tmp rfl) (fun w h => by rw [rz_fit hf, rE_fit hf]; exact ⟨rfl, h.up.below⟩) rfl

theorem high_neg (w : World) (c s t : Int) (j : Nat) (hc : Fits c) (hs : May s) (ht : May t) (hj : s - t = (j : Int)) (hr : ¬ 0 < dr c ((10 ^ j : Nat) : Int)) : Calls Tryd.prog 50 #[Dc c s, .int .i64 t, .int .i64 1] w fun e w' => e = .returned (.tuple #[WV (dq c ((10 ^ j : Nat) : Int)), .int .i64 0]) ∧ Below w.heap.size w w' := by
  refine d_in (args := [Dc c s, .int .i64 t, .int .i64 1]) 86 Tryd.func50 rfl rfl rfl ?_
  refine d_reg ?_
  refine h_box (cs := #[hiW c, loW c, .int .i64 s]) rfl rfl rfl rfl ?_; intro g3_1
  refine h_alloc zeWide rfl rfl ?_; intro g6_2
  refine h_q hfl rfl ?_
  refine h_done (d_reg ?_)
  refine h_call (ent_of Tryd.func65 (by kernel_rfl) rfl) (fun w hH => of_any _ 1 (by omega)) rfl rfl rfl rfl ?_
  refine h_alloc zeWide rfl rfl ?_; intro g8_3
  refine h_store 0 (v := WV 1) (#[hiW 1, loW 1]) tyWide.2 rfl rfl rfl rfl rfl rfl rfl rfl rfl rfl ?_
  refine h_done (d_reg ?_)
  refine h_q hfl rfl ?_
  refine h_load 2 (v := .int .i64 s) (reads_one tyInt rfl) rfl rfl rfl rfl ?_
  refine h_q hfl rfl ?_
  refine h_ar (z' := (j : Int)) (by rw [IntWalk.i64_in _ (by omega)]; omega) rfl rfl rfl rfl rfl ?_
  refine h_q hfl rfl ?_
  refine h_done (d_seq (d_reg ?_))
  refine h_q hfl rfl ?_
  refine h_cmp (cmp_lss_f (by omega)) rfl rfl rfl rfl ?_
  refine h_done (d_else rfl (d_skip (f_to (d_seq (d_reg ?_)))))
  refine h_q hfl rfl ?_
  refine h_cmp (cmp_eql_f (by omega)) rfl rfl rfl rfl ?_
  refine h_done (d_else rfl (d_skip (f_to (d_reg ?_))))
  refine h_q hfl rfl ?_
  refine h_call (ent_of Tryd.func27 (by kernel_rfl) rfl) (fun w hH => pow_r _ j (by omega)) rfl rfl rfl rfl ?_
  refine h_q hfl rfl ?_
  refine h_alloc zeWide rfl rfl ?_; intro g12_4
  refine h_store 0 (v := WV ((10 ^ j : Nat) : Int)) (#[hiW ((10 ^ j : Nat) : Int), loW ((10 ^ j : Nat) : Int)]) tyWide.2 rfl rfl rfl rfl rfl rfl rfl rfl rfl rfl ?_
  refine h_q hfl rfl ?_
  refine h_done (d_reg ?_)
  refine h_q hfl rfl ?_
  refine h_load 3 (v := .agg #[hiW c, loW c]) (reads_agg (cs := [hiW c, loW c, .int .i64 s]) tyWide rfl) rfl rfl rfl rfl ?_
  refine h_load 0 (v := .agg #[hiW ((10 ^ j : Nat) : Int), loW ((10 ^ j : Nat) : Int)]) (reads_agg (cs := [hiW ((10 ^ j : Nat) : Int), loW ((10 ^ j : Nat) : Int)]) tyWide rfl) rfl rfl rfl rfl ?_
  refine h_call (ent_of Tryd.func73 (by kernel_rfl) rfl) (fun w hH => div_r _ _ _ hc (pow_fits j (by omega)) (by have := ten_pos j; omega) (dq_fits hc (ten_pos j))) rfl rfl rfl rfl ?_
  refine h_q hfl rfl ?_
  refine h_alloc zeWide rfl rfl ?_; intro g14_5
  refine h_alloc zeWide rfl rfl ?_; intro g15_6
  refine h_store 1 (v := WV (dq c ((10 ^ j : Nat) : Int))) (#[hiW (dq c ((10 ^ j : Nat) : Int)), loW (dq c ((10 ^ j : Nat) : Int))]) tyWide.2 rfl rfl rfl rfl rfl rfl rfl rfl rfl rfl ?_
  refine h_store 0 (v := WV (dr c ((10 ^ j : Nat) : Int))) (#[hiW (dr c ((10 ^ j : Nat) : Int)), loW (dr c ((10 ^ j : Nat) : Int))]) tyWide.2 rfl rfl rfl rfl rfl rfl rfl rfl rfl rfl ?_
  refine h_q hfl rfl ?_
  refine h_done (d_seq (d_block (d_reg ?_)))
  refine h_q hfl rfl ?_
  refine h_cmp (cmp_eql_t (by omega)) rfl rfl rfl rfl ?_
  refine h_q hfl rfl ?_
  refine h_load 0 (v := .agg #[hiW (dr c ((10 ^ j : Nat) : Int)), loW (dr c ((10 ^ j : Nat) : Int))]) (reads_agg (cs := [hiW (dr c ((10 ^ j : Nat) : Int)), loW (dr c ((10 ^ j : Nat) : Int))]) tyWide rfl) rfl rfl rfl rfl ?_
  refine h_call (ent_of Tryd.func31 (by kernel_rfl) rfl) (fun w hH => sign_any _ _ (dr_fits hc (by have := ten_pos j; omega) (pow_fits j (by omega)))) rfl rfl rfl rfl ?_
  refine h_cmp (cmp_eql_f (by rcases cmp3_cases (dr c ((10 ^ j : Nat) : Int)) 0 with ⟨h, e⟩ | ⟨h, e⟩ | ⟨h, e⟩ <;> omega)) rfl rfl rfl rfl ?_
  refine h_q hfl rfl ?_
  refine h_done (d_else rfl (d_reg ?_))
  refine h_q hfl rfl ?_
  refine h_cmp (cmp_eql_f (by omega)) rfl rfl rfl rfl ?_
  refine h_q hfl rfl ?_
  refine h_done ?_
  refine WC2.keep (env' := [(6, .pointer (some ⟨g6_2, 0, none⟩)), (7, .int .i64 0), (8, .pointer (some ⟨g8_3, 0, none⟩)), (14, .pointer (some ⟨g14_5, 0, none⟩)), (16, .int .i64 0), (71, .bool false)]) ⟨rfl, rfl, rfl, rfl, rfl, rfl, trivial⟩ ?_
  refine d_else rfl (d_skip (f_block (f_to (d_reg ?_))))
  refine h_load 1 (v := .agg #[hiW (dq c ((10 ^ j : Nat) : Int)), loW (dq c ((10 ^ j : Nat) : Int))]) (reads_agg (cs := [hiW (dq c ((10 ^ j : Nat) : Int)), loW (dq c ((10 ^ j : Nat) : Int))]) tyWide rfl) rfl rfl rfl rfl ?_
  refine h_q hfl rfl ?_
  refine h_store 4 (v := .agg #[hiW (dq c ((10 ^ j : Nat) : Int)), loW (dq c ((10 ^ j : Nat) : Int))]) (#[hiW (dq c ((10 ^ j : Nat) : Int)), loW (dq c ((10 ^ j : Nat) : Int))]) tyWide.2 rfl rfl rfl rfl rfl rfl rfl rfl rfl rfl ?_
  refine h_q hfl rfl ?_
  refine h_done (d_ret ?_)
  exact f_fin2 (.cell 4 (v := .agg #[hiW (dq c ((10 ^ j : Nat) : Int)), loW (dq c ((10 ^ j : Nat) : Int))]) (reads_agg (cs := [hiW (dq c ((10 ^ j : Nat) : Int)), loW (dq c ((10 ^ j : Nat) : Int))]) tyWide rfl) rfl rfl) (.tmp rfl) (fun w h => ⟨rfl, h.up.below⟩) rfl

theorem at_low (w : World) (c s t : Int) (j : Nat) (hc : Fits c) (hs : May s) (ht : May t) (hj : s - t = (j : Int)) : Calls Tryd.prog 50 #[Dc c s, .int .i64 t, .int .i64 0] w fun e w' => e = .returned (.tuple #[WV (c / ((10 ^ j : Nat) : Int)), .int .i64 0]) ∧ Below w.heap.size w w' := by
  rw [floor_eq (ten_pos j)]
  by_cases h : dr c ((10 ^ j : Nat) : Int) < 0
  · rw [if_pos h]; exact low_neg w c s t j hc hs ht hj h
  · rw [if_neg h]; exact low_pos w c s t j hc hs ht hj h
theorem at_high (w : World) (c s t : Int) (j : Nat) (hc : Fits c) (hs : May s) (ht : May t) (hj : s - t = (j : Int)) : Calls Tryd.prog 50 #[Dc c s, .int .i64 t, .int .i64 1] w fun e w' => e = .returned (.tuple #[WV (ceilD c ((10 ^ j : Nat) : Int)), .int .i64 0]) ∧ Below w.heap.size w w' := by
  rw [ceil_eq (ten_pos j)]
  by_cases h : 0 < dr c ((10 ^ j : Nat) : Int)
  · rw [if_pos h]; exact high_pos w c s t j hc hs ht hj h
  · rw [if_neg h]; exact high_neg w c s t j hc hs ht hj h
theorem low_fits {c : Int} (hc : Fits c) (j : Nat) : Fits (c / ((10 ^ j : Nat) : Int)) := by
  rw [floor_eq (ten_pos j)]
  have h1 := dq_fits hc (ten_pos j)
  split
  · have := dq_small hc (ten_pos j) (by omega)
    unfold Fits; omega
  · exact h1
theorem high_fits {c : Int} (hc : Fits c) (j : Nat) : Fits (ceilD c ((10 ^ j : Nat) : Int)) := by
  rw [ceil_eq (ten_pos j)]
  have h1 := dq_fits hc (ten_pos j)
  split
  · have := dq_small hc (ten_pos j) (by omega)
    unfold Fits; omega
  · exact h1

theorem bounds_any (w : World) (c s t : Int) (j : Nat) (hc : Fits c) (hs : May s) (ht : May t) (hj : s - t = (j : Int)) : Calls Tryd.prog 45 #[Dc c s, .int .i64 t] w fun e w' => e = .returned (.tuple #[WV (c / ((10 ^ j : Nat) : Int)), WV (ceilD c ((10 ^ j : Nat) : Int))]) ∧ Below w.heap.size w w' := by
  refine d_in (args := [Dc c s, .int .i64 t]) 20 Tryd.func45 rfl rfl rfl ?_
  refine d_reg ?_
  refine h_box (cs := #[hiW c, loW c, .int .i64 s]) rfl rfl rfl rfl ?_; intro g2_1
  refine h_alloc zeWide rfl rfl ?_; intro g4_2
  refine h_alloc zeWide rfl rfl ?_; intro g5_3
  refine h_done (d_reg ?_)
  refine h_load 2 (v := .agg #[hiW c, loW c, .int .i64 s]) (reads_agg (cs := [hiW c, loW c, .int .i64 s]) tyDec rfl) rfl rfl rfl rfl ?_
  refine h_q hfl rfl ?_
  refine h_call (ent_of Tryd.func50 (by kernel_rfl) rfl) (fun w hH => at_low _ c s t j hc hs ht hj) rfl rfl rfl rfl ?_
  refine h_q hfl rfl ?_
  refine h_store 1 (v := WV (c / ((10 ^ j : Nat) : Int))) (#[hiW (c / ((10 ^ j : Nat) : Int)), loW (c / ((10 ^ j : Nat) : Int))]) tyWide.2 rfl rfl rfl rfl rfl rfl rfl rfl rfl rfl ?_
  refine h_done (d_reg ?_)
  refine h_load 2 (v := .agg #[hiW c, loW c, .int .i64 s]) (reads_agg (cs := [hiW c, loW c, .int .i64 s]) tyDec rfl) rfl rfl rfl rfl ?_
  refine h_q hfl rfl ?_
  refine h_call (ent_of Tryd.func50 (by kernel_rfl) rfl) (fun w hH => at_high _ c s t j hc hs ht hj) rfl rfl rfl rfl ?_
  refine h_q hfl rfl ?_
  refine h_store 0 (v := WV (ceilD c ((10 ^ j : Nat) : Int))) (#[hiW (ceilD c ((10 ^ j : Nat) : Int)), loW (ceilD c ((10 ^ j : Nat) : Int))]) tyWide.2 rfl rfl rfl rfl rfl rfl rfl rfl rfl rfl ?_
  refine h_done (d_seq ?_)
  refine d_any (by kernel_rfl) ?_
  refine b_two 0 1 (by kernel_rfl) ?_ ?_
  · skip
    refine b_load 1 (v := .agg #[hiW (c / ((10 ^ j : Nat) : Int)), loW (c / ((10 ^ j : Nat) : Int))]) (reads_agg (cs := [hiW (c / ((10 ^ j : Nat) : Int)), loW (c / ((10 ^ j : Nat) : Int))]) tyWide rfl) rfl rfl rfl rfl rfl ?_
    refine b_two 1 2 (by kernel_rfl) ?_ ?_
    · skip
      refine b_load 0 (v := .agg #[hiW (ceilD c ((10 ^ j : Nat) : Int)), loW (ceilD c ((10 ^ j : Nat) : Int))]) (reads_agg (cs := [hiW (ceilD c ((10 ^ j : Nat) : Int)), loW (ceilD c ((10 ^ j : Nat) : Int))]) tyWide rfl) rfl rfl rfl rfl rfl ?_
      refine b_one 2 (by kernel_rfl) ?_
      refine b_store 1 (v := .agg #[hiW (c / ((10 ^ j : Nat) : Int)), loW (c / ((10 ^ j : Nat) : Int))]) (#[hiW (c / ((10 ^ j : Nat) : Int)), loW (c / ((10 ^ j : Nat) : Int))]) tyWide.2 rfl rfl rfl rfl rfl rfl rfl rfl rfl rfl rfl ?_
      refine b_one 3 (by kernel_rfl) ?_
      refine b_store 0 (v := .agg #[hiW (ceilD c ((10 ^ j : Nat) : Int)), loW (ceilD c ((10 ^ j : Nat) : Int))]) (#[hiW (ceilD c ((10 ^ j : Nat) : Int)), loW (ceilD c ((10 ^ j : Nat) : Int))]) tyWide.2 rfl rfl rfl rfl rfl rfl rfl rfl rfl rfl rfl ?_
      refine b_done (by kernel_rfl) ?_
      refine f_to (d_ret ?_)
      exact f_fin2 (.cell 1 (v := .agg #[hiW (c / ((10 ^ j : Nat) : Int)), loW (c / ((10 ^ j : Nat) : Int))]) (reads_agg (cs := [hiW (c / ((10 ^ j : Nat) : Int)), loW (c / ((10 ^ j : Nat) : Int))]) tyWide rfl) rfl rfl) (.cell 0 (v := .agg #[hiW (ceilD c ((10 ^ j : Nat) : Int)), loW (ceilD c ((10 ^ j : Nat) : Int))]) (reads_agg (cs := [hiW (ceilD c ((10 ^ j : Nat) : Int)), loW (ceilD c ((10 ^ j : Nat) : Int))]) tyWide rfl) rfl rfl) (fun w h => ⟨rfl, h.up.below⟩) rfl
    · skip
      refine b_store 1 (v := .agg #[hiW (c / ((10 ^ j : Nat) : Int)), loW (c / ((10 ^ j : Nat) : Int))]) (#[hiW (c / ((10 ^ j : Nat) : Int)), loW (c / ((10 ^ j : Nat) : Int))]) tyWide.2 rfl rfl rfl rfl rfl rfl rfl rfl rfl rfl rfl ?_
      refine b_one 1 (by kernel_rfl) ?_
      refine b_load 0 (v := .agg #[hiW (ceilD c ((10 ^ j : Nat) : Int)), loW (ceilD c ((10 ^ j : Nat) : Int))]) (reads_agg (cs := [hiW (ceilD c ((10 ^ j : Nat) : Int)), loW (ceilD c ((10 ^ j : Nat) : Int))]) tyWide rfl) rfl rfl rfl rfl rfl ?_
      refine b_one 3 (by kernel_rfl) ?_
      refine b_store 0 (v := .agg #[hiW (ceilD c ((10 ^ j : Nat) : Int)), loW (ceilD c ((10 ^ j : Nat) : Int))]) (#[hiW (ceilD c ((10 ^ j : Nat) : Int)), loW (ceilD c ((10 ^ j : Nat) : Int))]) tyWide.2 rfl rfl rfl rfl rfl rfl rfl rfl rfl rfl rfl ?_
      refine b_done (by kernel_rfl) ?_
      refine f_to (d_ret ?_)
      exact f_fin2 (.cell 1 (v := .agg #[hiW (c / ((10 ^ j : Nat) : Int)), loW (c / ((10 ^ j : Nat) : Int))]) (reads_agg (cs := [hiW (c / ((10 ^ j : Nat) : Int)), loW (c / ((10 ^ j : Nat) : Int))]) tyWide rfl) rfl rfl) (.cell 0 (v := .agg #[hiW (ceilD c ((10 ^ j : Nat) : Int)), loW (ceilD c ((10 ^ j : Nat) : Int))]) (reads_agg (cs := [hiW (ceilD c ((10 ^ j : Nat) : Int)), loW (ceilD c ((10 ^ j : Nat) : Int))]) tyWide rfl) rfl rfl) (fun w h => ⟨rfl, h.up.below⟩) rfl
  · skip
    refine b_load 0 (v := .agg #[hiW (ceilD c ((10 ^ j : Nat) : Int)), loW (ceilD c ((10 ^ j : Nat) : Int))]) (reads_agg (cs := [hiW (ceilD c ((10 ^ j : Nat) : Int)), loW (ceilD c ((10 ^ j : Nat) : Int))]) tyWide rfl) rfl rfl rfl rfl rfl ?_
    refine b_one 0 (by kernel_rfl) ?_
    refine b_load 1 (v := .agg #[hiW (c / ((10 ^ j : Nat) : Int)), loW (c / ((10 ^ j : Nat) : Int))]) (reads_agg (cs := [hiW (c / ((10 ^ j : Nat) : Int)), loW (c / ((10 ^ j : Nat) : Int))]) tyWide rfl) rfl rfl rfl rfl rfl ?_
    refine b_one 2 (by kernel_rfl) ?_
    refine b_store 1 (v := .agg #[hiW (c / ((10 ^ j : Nat) : Int)), loW (c / ((10 ^ j : Nat) : Int))]) (#[hiW (c / ((10 ^ j : Nat) : Int)), loW (c / ((10 ^ j : Nat) : Int))]) tyWide.2 rfl rfl rfl rfl rfl rfl rfl rfl rfl rfl rfl ?_
    refine b_one 3 (by kernel_rfl) ?_
    refine b_store 0 (v := .agg #[hiW (ceilD c ((10 ^ j : Nat) : Int)), loW (ceilD c ((10 ^ j : Nat) : Int))]) (#[hiW (ceilD c ((10 ^ j : Nat) : Int)), loW (ceilD c ((10 ^ j : Nat) : Int))]) tyWide.2 rfl rfl rfl rfl rfl rfl rfl rfl rfl rfl rfl ?_
    refine b_done (by kernel_rfl) ?_
    refine f_to (d_ret ?_)
    exact f_fin2 (.cell 1 (v := .agg #[hiW (c / ((10 ^ j : Nat) : Int)), loW (c / ((10 ^ j : Nat) : Int))]) (reads_agg (cs := [hiW (c / ((10 ^ j : Nat) : Int)), loW (c / ((10 ^ j : Nat) : Int))]) tyWide rfl) rfl rfl) (.cell 0 (v := .agg #[hiW (ceilD c ((10 ^ j : Nat) : Int)), loW (ceilD c ((10 ^ j : Nat) : Int))]) (reads_agg (cs := [hiW (ceilD c ((10 ^ j : Nat) : Int)), loW (ceilD c ((10 ^ j : Nat) : Int))]) tyWide rfl) rfl rfl) (fun w h => ⟨rfl, h.up.below⟩) rfl
end Go.Proofs.YtmamedobphlpkaaDoor
