/-
  A size with a sign: the number that it is, or that there is no place for it.
-/
import Derived.Test.YtfalllekhcocgaaDoorWide2
namespace Go.Proofs.YtfalllekhcocgaaDoor
open Go.RowKit

theorem Fits_neg {x : Int} (h : Fits x) : -170141183460469231731687303715884105728 ≤ x ∧ x < 170141183460469231731687303715884105728 := h

set_option maxHeartbeats 4000000 in
theorem signed_words (w : World) (hi lo : Int) (minus : Bool) (h1 : 0 ≤ hi ∧ hi < 18446744073709551616) (h2 : 0 ≤ lo ∧ lo < 18446744073709551616) :
    Calls Tryd.prog 43 #[.agg #[.int .u64 hi, .int .u64 lo], .bool minus] w fun e w' =>
      e = .returned (resV (if minus then -(hi * 18446744073709551616 + lo) else hi * 18446744073709551616 + lo)) ∧ Below w.heap.size w w' := by
  have hw0 : WV 0 = .agg #[.int .i64 0, .int .u64 0] := rfl
  cases minus
  · obtain ⟨s, hs⟩ : ∃ s, s = IntKind.i64.wrap hi := ⟨_, rfl⟩
    have hs' := hs
    rw [IntKind.wrap_i64] at hs'
    have hss := hs.symm
    rw [if_neg (by decide)]
    by_cases hf : s < 0
    · have hnf : ¬ Fits (hi * 18446744073709551616 + lo) := by unfold Fits; omega
      have hz : ¬ hi = 0 := by omega
      rw [resV_over hnf, hw0]
      clear hs' hs h1 h2 hnf hw0
      go_enter Tryd.func43, Tryd.ntmps43
      go_wp2_with fail
      simp [bodyPost, results, Tryd.results43, go_sem]
      exact (((((Up.refl w).alloc _).alloc _).alloc _).alloc _).below
    · have hnf : Fits (hi * 18446744073709551616 + lo) := by unfold Fits; omega
      rw [resV_fit hnf, WV_words h2.1 h2.2]
      have e : hi = s := by omega
      subst e
      clear hs' hs h1 h2 hnf hw0
      go_enter Tryd.func43, Tryd.ntmps43
      go_wp2_with fail
      all_goals
        simp [bodyPost, results, Tryd.results43, go_sem]
        exact (((((Up.refl w).alloc _).alloc _).alloc _).alloc _).below
  · rw [if_pos rfl]
    have hC := fun w => turned_words w hi lo h1 h2
    obtain ⟨th, tl, hr, ht, h3, h4⟩ := UV_of (m := (-(hi * 18446744073709551616 + lo)) % 340282366920938463463374607431768211456) (by unfold Big; omega)
    rw [hr] at hC
    obtain ⟨s, hs⟩ : ∃ s, s = IntKind.i64.wrap th := ⟨_, rfl⟩
    have hs' := hs
    rw [IntKind.wrap_i64] at hs'
    have hss := hs.symm
    have HC := hid hC
    clear hC hr
    by_cases hz : hi * 18446744073709551616 + lo = 0
    · have e1 : hi = 0 := by omega
      have e2 : lo = 0 := by omega
      have e3 : s = 0 := by omega
      have e4 : tl = 0 := by omega
      subst e1; subst e2; subst e3; subst e4
      rw [show -((0 : Int) * 18446744073709551616 + 0) = 0 by omega, resV_fit (by unfold Fits; omega), hw0]
      clear hs' hs h1 h2 h3 h4 ht hz hw0
      go_enter Tryd.func43, Tryd.ntmps43
      go_wp2_with fail
      refine Calls.mono (HC.out _) ?_; rintro e w' ⟨rfl, hb⟩
      have hR0 := (((Row.new w 54 #[.int .u64 0, .int .u64 0]).alloc (.cells #[.int .i64 0, .int .u64 0] 24)).alloc (.cells #[.int .u64 0, .int .u64 0] 54)).mod (Mod.of_below hb Nil) (fun hf => hf)
      have hR1 := ((Row.new (w.alloc (.cells #[.int .u64 0, .int .u64 0] 54)) 24 #[.int .i64 0, .int .u64 0]).alloc (.cells #[.int .u64 0, .int .u64 0] 54)).mod (Mod.of_below hb Nil) (fun hf => hf)
      have hR2 := (Row.new ((w.alloc (.cells #[.int .u64 0, .int .u64 0] 54)).alloc (.cells #[.int .i64 0, .int .u64 0] 24)) 54 #[.int .u64 0, .int .u64 0]).mod (Mod.of_below hb Nil) (fun hf => hf)
      simp only [alloc_size] at hR0 hR1 hR2
      have q0 := hR2.cell 0
      have q1 := hR2.cell 1
      have f0 := hR2.frozen 0
      have f1 := hR2.frozen 1
      obtain ⟨d0, d1, d2⟩ := hR2.two (.int .u64 th) (.int .u64 0)
      have hT0 := ((hR0.far (p := ⟨w.heap.size + 1 + 1, 0, none⟩) (by simp; omega) (.int .u64 th)).far (p := ⟨w.heap.size + 1 + 1, 1, none⟩) (by simp; omega) (.int .u64 0)).alloc (.cells #[.int .i64 0, .int .u64 0] 24)
      have hT1 := ((hR1.far (p := ⟨w.heap.size + 1 + 1, 0, none⟩) (by simp) (.int .u64 th)).far (p := ⟨w.heap.size + 1 + 1, 1, none⟩) (by simp) (.int .u64 0)).alloc (.cells #[.int .i64 0, .int .u64 0] 24)
      have m0 := hT0.cell 0
      have m1 := hT0.cell 1
      have n0 := hT1.cell 0
      have n1 := hT1.cell 1
      have nf0 := hT1.frozen 0
      have nf1 := hT1.frozen 1
      obtain ⟨b0, b1, b2⟩ := hT1.two (.int .i64 0) (.int .u64 0)
      simp at q0 q1 f0 f1 d0 d1 d2 m0 m1 n0 n1 nf0 nf1 b0 b1 b2
      clear hR0 hR1 hR2 hT0 hT1
      go_wp2_with fail
      all_goals
        simp [bodyPost, results, Tryd.results43, go_sem, b0, b1, b2]
        exact (((((((((Up.refl w).alloc _).alloc _).alloc _).trans hb).setCell (by omega) _).setCell (by omega) _).alloc _).setCell (by simp) _ |>.setCell (by simp) _).below
    · by_cases hf : s < 0
      · have hnf : Fits (-(hi * 18446744073709551616 + lo)) := by unfold Fits; omega
        rw [resV_fit hnf, show -(hi * 18446744073709551616 + lo) = s * 18446744073709551616 + tl by omega, WV_words h4.1 h4.2]
        clear hs' hs h1 h2 h3 h4 ht hz hw0 hnf
        go_enter Tryd.func43, Tryd.ntmps43
        go_wp2_with fail
        refine Calls.mono (HC.out _) ?_; rintro e w' ⟨rfl, hb⟩
        have hR0 := (((Row.new w 54 #[.int .u64 hi, .int .u64 lo]).alloc (.cells #[.int .i64 0, .int .u64 0] 24)).alloc (.cells #[.int .u64 hi, .int .u64 lo] 54)).mod (Mod.of_below hb Nil) (fun hf => hf)
        have hR1 := ((Row.new (w.alloc (.cells #[.int .u64 hi, .int .u64 lo] 54)) 24 #[.int .i64 0, .int .u64 0]).alloc (.cells #[.int .u64 hi, .int .u64 lo] 54)).mod (Mod.of_below hb Nil) (fun hf => hf)
        have hR2 := (Row.new ((w.alloc (.cells #[.int .u64 hi, .int .u64 lo] 54)).alloc (.cells #[.int .i64 0, .int .u64 0] 24)) 54 #[.int .u64 hi, .int .u64 lo]).mod (Mod.of_below hb Nil) (fun hf => hf)
        simp only [alloc_size] at hR0 hR1 hR2
        have q0 := hR2.cell 0
        have q1 := hR2.cell 1
        have f0 := hR2.frozen 0
        have f1 := hR2.frozen 1
        obtain ⟨d0, d1, d2⟩ := hR2.two (.int .u64 th) (.int .u64 tl)
        have hT0 := ((hR0.far (p := ⟨w.heap.size + 1 + 1, 0, none⟩) (by simp; omega) (.int .u64 th)).far (p := ⟨w.heap.size + 1 + 1, 1, none⟩) (by simp; omega) (.int .u64 tl)).alloc (.cells #[.int .i64 s, .int .u64 tl] 24)
        have hT1 := ((hR1.far (p := ⟨w.heap.size + 1 + 1, 0, none⟩) (by simp) (.int .u64 th)).far (p := ⟨w.heap.size + 1 + 1, 1, none⟩) (by simp) (.int .u64 tl)).alloc (.cells #[.int .i64 s, .int .u64 tl] 24)
        have m0 := hT0.cell 0
        have m1 := hT0.cell 1
        have n0 := hT1.cell 0
        have n1 := hT1.cell 1
        have nf0 := hT1.frozen 0
        have nf1 := hT1.frozen 1
        obtain ⟨b0, b1, b2⟩ := hT1.two (.int .i64 s) (.int .u64 tl)
        simp at q0 q1 f0 f1 d0 d1 d2 m0 m1 n0 n1 nf0 nf1 b0 b1 b2
        clear hR0 hR1 hR2 hT0 hT1
        go_wp2_with fail
        all_goals
          simp [bodyPost, results, Tryd.results43, go_sem, b0, b1, b2]
          exact (((((((((Up.refl w).alloc _).alloc _).alloc _).trans hb).setCell (by omega) _).setCell (by omega) _).alloc _).setCell (by simp) _ |>.setCell (by simp) _).below
      · have hnf : ¬ Fits (-(hi * 18446744073709551616 + lo)) := by unfold Fits; omega
        rw [resV_over hnf, hw0]
        have hz1 : ¬ hi = 0 := by omega
        clear hs' hs h1 h2 h3 h4 ht hz hw0 hnf
        go_enter Tryd.func43, Tryd.ntmps43
        go_wp2_with fail
        refine Calls.mono (HC.out _) ?_; rintro e w' ⟨rfl, hb⟩
        have hR0 := (((Row.new w 54 #[.int .u64 hi, .int .u64 lo]).alloc (.cells #[.int .i64 0, .int .u64 0] 24)).alloc (.cells #[.int .u64 hi, .int .u64 lo] 54)).mod (Mod.of_below hb Nil) (fun hf => hf)
        have hR1 := ((Row.new (w.alloc (.cells #[.int .u64 hi, .int .u64 lo] 54)) 24 #[.int .i64 0, .int .u64 0]).alloc (.cells #[.int .u64 hi, .int .u64 lo] 54)).mod (Mod.of_below hb Nil) (fun hf => hf)
        have hR2 := (Row.new ((w.alloc (.cells #[.int .u64 hi, .int .u64 lo] 54)).alloc (.cells #[.int .i64 0, .int .u64 0] 24)) 54 #[.int .u64 hi, .int .u64 lo]).mod (Mod.of_below hb Nil) (fun hf => hf)
        simp only [alloc_size] at hR0 hR1 hR2
        have q0 := hR2.cell 0
        have q1 := hR2.cell 1
        have f0 := hR2.frozen 0
        have f1 := hR2.frozen 1
        obtain ⟨d0, d1, d2⟩ := hR2.two (.int .u64 th) (.int .u64 tl)
        have hT0 := ((hR0.far (p := ⟨w.heap.size + 1 + 1, 0, none⟩) (by simp; omega) (.int .u64 th)).far (p := ⟨w.heap.size + 1 + 1, 1, none⟩) (by simp; omega) (.int .u64 tl)).alloc (.cells #[.int .i64 s, .int .u64 tl] 24)
        have hT1 := ((hR1.far (p := ⟨w.heap.size + 1 + 1, 0, none⟩) (by simp) (.int .u64 th)).far (p := ⟨w.heap.size + 1 + 1, 1, none⟩) (by simp) (.int .u64 tl)).alloc (.cells #[.int .i64 s, .int .u64 tl] 24)
        have m0 := hT0.cell 0
        have m1 := hT0.cell 1
        have n0 := hT1.cell 0
        have n1 := hT1.cell 1
        have nf0 := hT1.frozen 0
        have nf1 := hT1.frozen 1
        obtain ⟨b0, b1, b2⟩ := hT1.two (.int .i64 0) (.int .u64 0)
        simp at q0 q1 f0 f1 d0 d1 d2 m0 m1 n0 n1 nf0 nf1 b0 b1 b2
        clear hR0 hR1 hR2 hT0 hT1
        go_wp2_with fail
        all_goals
          rename_i hsp
          first
          | exact absurd hsp (by simp; omega)
          | (simp [bodyPost, results, Tryd.results43, go_sem, b0, b1, b2]
             exact (((((((((Up.refl w).alloc _).alloc _).alloc _).trans hb).setCell (by omega) _).setCell (by omega) _).alloc _).setCell (by simp) _ |>.setCell (by simp) _).below)

end Go.Proofs.YtfalllekhcocgaaDoor
