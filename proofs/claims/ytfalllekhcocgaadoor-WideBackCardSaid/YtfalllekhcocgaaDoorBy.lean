/-
  A size by one of one word.
-/
import Derived.Test.YtfalllekhcocgaaDoorDiv64
import Derived.BigQuiet
namespace Go.Proofs.YtfalllekhcocgaaDoor
open Go.RowKit

theorem div64_any (w : World) (hi lo y : Int) (h0 : 0 ≤ hi ∧ hi < y) (hl : 0 ≤ lo ∧ lo < 18446744073709551616) (hy : y < 18446744073709551616) :
    Calls Tryd.prog 51 #[.int .u64 hi, .int .u64 lo, .int .u64 y] w fun e w' =>
      e = .returned (.tuple #[.int .u64 ((hi * 18446744073709551616 + lo) / y), .int .u64 ((hi * 18446744073709551616 + lo) % y)]) ∧ ∃ n, w' = w.drewN n := by
  by_cases h : hi = 0
  · subst h
    rw [Int.zero_mul, Int.zero_add]
    exact div64_small w lo y hl ⟨by omega, hy⟩
  · exact div64_pos w hi lo y ⟨by omega, h0.2⟩ hl hy

set_option maxHeartbeats 1000000 in
theorem by_one (w : World) (mh ml nl : Int) (hmh : 0 ≤ mh ∧ mh < 18446744073709551616) (hml : 0 ≤ ml ∧ ml < 18446744073709551616) (hn : 0 < nl ∧ nl < 18446744073709551616) :
    Calls Tryd.prog 42 #[.agg #[.int .u64 mh, .int .u64 ml], .agg #[.int .u64 0, .int .u64 nl]] w fun e w' =>
      e = .returned (.tuple #[.agg #[.int .u64 (mh / nl), .int .u64 ((mh % nl * 18446744073709551616 + ml) / nl)], .agg #[.int .u64 0, .int .u64 ((mh % nl * 18446744073709551616 + ml) % nl)]]) ∧ Below w.heap.size w w' := by
  have hA := fun w => div64_small w mh nl hmh hn
  have hB := fun w => div64_any w (mh % nl) ml nl ⟨Int.emod_nonneg _ (by omega), Int.emod_lt_of_pos _ hn.1⟩ hml hn.2
  obtain ⟨qH, hq1⟩ : ∃ q1, q1 = mh / nl := ⟨_, rfl⟩
  obtain ⟨rH, hr1⟩ : ∃ r1, r1 = mh % nl := ⟨_, rfl⟩
  rw [← hq1, ← hr1] at hA
  rw [← hr1] at hB
  rw [← hq1, ← hr1]
  obtain ⟨q, hq⟩ : ∃ q, q = (rH * 18446744073709551616 + ml) / nl := ⟨_, rfl⟩
  obtain ⟨r, hr⟩ : ∃ r, r = (rH * 18446744073709551616 + ml) % nl := ⟨_, rfl⟩
  rw [← hq, ← hr] at hB ⊢
  have HA := hid hA
  have HB := hid hB
  clear hA hB hq hr hq1 hr1 hmh hml hn
  have hQ0 := (Row.new ((w.alloc (.cells #[.int .u64 mh, .int .u64 ml] 54)).alloc (.cells #[.int .u64 0, .int .u64 nl] 54)) 54 #[.int .u64 0, .int .u64 0]).alloc (.cells #[.int .u64 0, .int .u64 0] 54)
  have hR0 := Row.new (((w.alloc (.cells #[.int .u64 mh, .int .u64 ml] 54)).alloc (.cells #[.int .u64 0, .int .u64 nl] 54)).alloc (.cells #[.int .u64 0, .int .u64 0] 54)) 54 #[.int .u64 0, .int .u64 0]
  have hM0 := (((Row.new w 54 #[.int .u64 mh, .int .u64 ml]).alloc (.cells #[.int .u64 0, .int .u64 nl] 54)).alloc (.cells #[.int .u64 0, .int .u64 0] 54)).alloc (.cells #[.int .u64 0, .int .u64 0] 54)
  have hN0 := ((Row.new (w.alloc (.cells #[.int .u64 mh, .int .u64 ml] 54)) 54 #[.int .u64 0, .int .u64 nl]).alloc (.cells #[.int .u64 0, .int .u64 0] 54)).alloc (.cells #[.int .u64 0, .int .u64 0] 54)
  have hU0 := ((((Up.refl w).alloc (.cells #[.int .u64 mh, .int .u64 ml] 54)).alloc (.cells #[.int .u64 0, .int .u64 nl] 54)).alloc (.cells #[.int .u64 0, .int .u64 0] 54)).alloc (.cells #[.int .u64 0, .int .u64 0] 54)
  simp only [alloc_size] at hQ0 hR0 hN0
  obtain ⟨V, hV⟩ : ∃ V, V = (((w.alloc (.cells #[.int .u64 mh, .int .u64 ml] 54)).alloc (.cells #[.int .u64 0, .int .u64 nl] 54)).alloc (.cells #[.int .u64 0, .int .u64 0] 54)).alloc (.cells #[.int .u64 0, .int .u64 0] 54) := ⟨_, rfl⟩
  rw [← hV] at hQ0 hR0 hM0 hN0 hU0
  go_enter Tryd.func42, Tryd.ntmps42
  go_wp2_with fail
  rw [← hV]
  refine Calls.mono (HA.out _) ?_; rintro e w1 ⟨rfl, n1, h1⟩
  have hb1 : Below V.heap.size V w1 := by rw [h1]; exact ((Up.refl V).drewN n1).below
  clear h1 hV
  have hQ1 := hQ0.below hb1 hQ0.lt
  have hR1 := hR0.below hb1 hR0.lt
  have hM1 := hM0.below hb1 hM0.lt
  have hN1 := hN0.below hb1 hN0.lt
  have hU1 := hU0.trans hb1
  clear hQ0 hR0 hM0 hN0 hU0 hb1
  have a0 := hQ1.cell 0
  have a1 := hQ1.frozen 0
  have b0 := hR1.cell 1
  have b1 := hR1.frozen 1
  have m1 := hM1.cell 1
  have v1 := hN1.cell 1
  have hQ2 := (hQ1.set 0 (.int .u64 qH)).far (p := ⟨w.heap.size + 1 + 1 + 1, 1, none⟩) (by simp) (.int .u64 rH)
  have hR2 := (hR1.far (p := ⟨w.heap.size + 1 + 1, 0, none⟩) (by simp) (.int .u64 qH)).set 1 (.int .u64 rH)
  have hM2 := (hM1.far (p := ⟨w.heap.size + 1 + 1, 0, none⟩) (by simp; omega) (.int .u64 qH)).far (p := ⟨w.heap.size + 1 + 1 + 1, 1, none⟩) (by simp; omega) (.int .u64 rH)
  have hN2 := (hN1.far (p := ⟨w.heap.size + 1 + 1, 0, none⟩) (by simp) (.int .u64 qH)).far (p := ⟨w.heap.size + 1 + 1 + 1, 1, none⟩) (by simp) (.int .u64 rH)
  have hU2 := (hU1.setCell (p := w.heap.size + 1 + 1) (i := 0) (by omega) (.int .u64 qH)).setCell (p := w.heap.size + 1 + 1 + 1) (i := 1) (by omega) (.int .u64 rH)
  obtain ⟨V2, hV2⟩ : ∃ V2, V2 = (w1.setCell ⟨w.heap.size + 1 + 1, 0, none⟩ (.int .u64 qH)).setCell ⟨w.heap.size + 1 + 1 + 1, 1, none⟩ (.int .u64 rH) := ⟨_, rfl⟩
  rw [← hV2] at hQ2 hR2 hM2 hN2 hU2
  have x1 := hM2.cell 1
  have x2 := hN2.cell 1
  have x3 := hR2.cell 1
  rw [hV2] at x1 x2 x3
  simp at a0 a1 b0 b1 m1 v1 x1 x2 x3
  clear hQ1 hR1 hM1 hN1 hU1
  go_wp2_with fail
  rw [← hV2]
  clear x1 x2 x3 a0 a1 b0 b1 m1 v1 hM2 hN2 hV2
  simp only [List.setIfInBounds_toArray, List.set_cons_zero, List.set_cons_succ] at hQ2 hR2
  refine Calls.mono (HB.out _) ?_; rintro e w3 ⟨rfl, n2, h2⟩
  have hb2 : Below V2.heap.size V2 w3 := by rw [h2]; exact ((Up.refl V2).drewN n2).below
  clear h2
  have hQ3 := hQ2.below hb2 hQ2.lt
  have hR3 := hR2.below hb2 hR2.lt
  have hU3 := hU2.trans hb2
  clear hQ2 hR2 hU2 hb2
  have a0 := hQ3.cell 1
  have a1 := hQ3.frozen 1
  have b0 := hR3.cell 1
  have b1 := hR3.frozen 1
  have hQ4 := (hQ3.set 1 (.int .u64 q)).far (p := ⟨w.heap.size + 1 + 1 + 1, 1, none⟩) (by simp) (.int .u64 r)
  have hR4 := (hR3.far (p := ⟨w.heap.size + 1 + 1, 1, none⟩) (by simp) (.int .u64 q)).set 1 (.int .u64 r)
  have hU4 := (hU3.setCell (p := w.heap.size + 1 + 1) (i := 1) (by omega) (.int .u64 q)).setCell (p := w.heap.size + 1 + 1 + 1) (i := 1) (by omega) (.int .u64 r)
  obtain ⟨V4, hV4⟩ : ∃ V4, V4 = (w3.setCell ⟨w.heap.size + 1 + 1, 1, none⟩ (.int .u64 q)).setCell ⟨w.heap.size + 1 + 1 + 1, 1, none⟩ (.int .u64 r) := ⟨_, rfl⟩
  rw [← hV4] at hQ4 hR4 hU4
  simp at a0 a1 b0 b1
  simp only [List.setIfInBounds_toArray, List.set_cons_zero, List.set_cons_succ] at hQ4 hR4
  clear hQ3 hR3 hU3
  go_wp2_with fail
  rw [← hV4]
  clear a0 a1 b0 b1 hV4
  have hQ5 : Row V4.drew (w.heap.size + 1 + 1) 54 #[.int .u64 qH, .int .u64 q] := hQ4.drew
  have hR5 : Row V4.drew (w.heap.size + 1 + 1 + 1) 54 #[.int .u64 0, .int .u64 r] := hR4.drew
  have hU5 := hU4.drew
  obtain ⟨y0, y1, y2⟩ := hQ4.two (.int .u64 qH) (.int .u64 q)
  have hR8 := (hR4.far (p := ⟨w.heap.size + 1 + 1, 0, none⟩) (by simp) (.int .u64 qH)).far (p := ⟨w.heap.size + 1 + 1, 1, none⟩) (by simp) (.int .u64 q)
  obtain ⟨z0, z1, z2⟩ := hR8.two (.int .u64 0) (.int .u64 r)
  have Y0 := hid y0
  have Y1 := hid y1
  have Z0 := hid z0
  have Z1 := hid z1
  clear hQ4 hR4 hU4 hR8 y0 y1 y2 z0 z1 z2
  obtain ⟨d0, d1, d2⟩ := hQ5.two (.int .u64 qH) (.int .u64 q)
  have hQ6 := (hQ5.set 0 (.int .u64 qH)).set 1 (.int .u64 q)
  have hR6 := (hR5.far (p := ⟨w.heap.size + 1 + 1, 0, none⟩) (by simp) (.int .u64 qH)).far (p := ⟨w.heap.size + 1 + 1, 1, none⟩) (by simp) (.int .u64 q)
  obtain ⟨e0, e1, e2⟩ := hR6.two (.int .u64 0) (.int .u64 r)
  have hQ7 := (hQ6.far (p := ⟨w.heap.size + 1 + 1 + 1, 0, none⟩) (by simp) (.int .u64 0)).far (p := ⟨w.heap.size + 1 + 1 + 1, 1, none⟩) (by simp) (.int .u64 r)
  have q0 := hQ5.cell 0
  have q1 := hQ5.cell 1
  have q2 := hQ5.frozen 0
  have q3 := hQ5.frozen 1
  have r0 := hR5.cell 0
  have r1 := hR5.cell 1
  have r2 := hR6.cell 0
  have r3 := hR6.cell 1
  have r4 := hR6.frozen 0
  have r5 := hR6.frozen 1
  have t0 := hQ7.cell 0
  have t1 := hQ7.cell 1
  have hU7 := (((hU5.setCell (p := w.heap.size + 1 + 1) (i := 0) (by omega) (.int .u64 qH)).setCell (p := w.heap.size + 1 + 1) (i := 1) (by omega) (.int .u64 q)).setCell (p := w.heap.size + 1 + 1 + 1) (i := 0) (by omega) (.int .u64 0)).setCell (p := w.heap.size + 1 + 1 + 1) (i := 1) (by omega) (.int .u64 r)
  simp at q0 q1 q2 q3 r0 r1 r2 r3 r4 r5 t0 t1 d0 d1 d2 e0 e1 e2
  clear hQ5 hQ6 hR5 hR6 hQ7 hU5
  go_region
  all_goals
    go_wp2_with fail
    simp [bodyPost, results, Tryd.results42, go_sem, Y0.out, Y1.out, Z0.out, Z1.out]
    first | exact hU7.below | exact ⟨hU7.below.os, hU7.below.tape, hU7.below.output, hU7.below.size, hU7.below.block⟩ | trace_state
end Go.Proofs.YtfalllekhcocgaaDoor
