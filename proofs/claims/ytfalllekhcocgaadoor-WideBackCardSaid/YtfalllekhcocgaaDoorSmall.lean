/-
  Quotients of numbers of one word; the example of chapter 2 for Div.
-/
import Derived.Test.YtfalllekhcocgaaDoorMul
import Derived.BigQuiet
namespace Go.Proofs.YtfalllekhcocgaaDoor
open Go.RowKit

theorem setCell_size (w : World) (p : Addr) (v : Value) : (w.setCell p v).heap.size = w.heap.size := by simp [World.setCell]
theorem div64_small (w : World) (x y : Int) (hx : 0 ≤ x ∧ x < 18446744073709551616) (hy : 0 < y ∧ y < 18446744073709551616) :
    Calls Tryd.prog 51 #[.int .u64 0, .int .u64 x, .int .u64 y] w fun e w' => e = .returned (.tuple #[.int .u64 (x / y), .int .u64 (x % y)]) ∧ ∃ n, w' = w.drewN n := by
  have h0 : ¬ y = 0 := by omega
  have h1 : ¬ y ≤ 0 := by omega
  have ht1 : x.tdiv y = x / y := Int.tdiv_eq_ediv_of_nonneg hx.1
  have ht2 : x.tmod y = x % y := Int.tmod_eq_emod_of_nonneg hx.1
  obtain ⟨q, hq⟩ : ∃ q, q = x / y := ⟨_, rfl⟩
  obtain ⟨r, hr⟩ : ∃ r, r = x % y := ⟨_, rfl⟩
  rw [← hq] at ht1
  rw [← hr] at ht2
  rw [← hq, ← hr]
  have hq0 : 0 ≤ q ∧ q < 18446744073709551616 := by
    rw [hq]
    exact ⟨Int.ediv_nonneg hx.1 (by omega), Int.lt_of_le_of_lt (Int.ediv_le_self _ hx.1) hx.2⟩
  have hqw : IntKind.u64.wrap q = q := by rw [IntKind.wrap_u64]; omega
  clear hq hr hx hy hq0
  go_enter Tryd.func51, Tryd.ntmps51
  go_wp2
  go_quiet (fail)
  go_wp2
  go_ret2
  exact ⟨rfl, _, rfl⟩

theorem by_small (w : World) (ml nl : Int) (hm : 0 ≤ ml ∧ ml < 18446744073709551616) (hn : 0 < nl ∧ nl < 18446744073709551616) :
    Calls Tryd.prog 42 #[.agg #[.int .u64 0, .int .u64 ml], .agg #[.int .u64 0, .int .u64 nl]] w fun e w' =>
      e = .returned (.tuple #[.agg #[.int .u64 0, .int .u64 (ml / nl)], .agg #[.int .u64 0, .int .u64 (ml % nl)]]) ∧ Below w.heap.size w w' := by
  have hA := fun w => div64_small w 0 nl (by decide) hn
  rw [Int.zero_ediv, Int.zero_emod] at hA
  have hB := fun w => div64_small w ml nl hm hn
  obtain ⟨q, hq⟩ : ∃ q, q = ml / nl := ⟨_, rfl⟩
  obtain ⟨r, hr⟩ : ∃ r, r = ml % nl := ⟨_, rfl⟩
  rw [← hq, ← hr] at hB ⊢
  have HA := hid hA
  have HB := hid hB
  clear hA hB hq hr hm hn
  have hQ0 := (Row.new ((w.alloc (.cells #[.int .u64 0, .int .u64 ml] 54)).alloc (.cells #[.int .u64 0, .int .u64 nl] 54)) 54 #[.int .u64 0, .int .u64 0]).alloc (.cells #[.int .u64 0, .int .u64 0] 54)
  have hR0 := Row.new (((w.alloc (.cells #[.int .u64 0, .int .u64 ml] 54)).alloc (.cells #[.int .u64 0, .int .u64 nl] 54)).alloc (.cells #[.int .u64 0, .int .u64 0] 54)) 54 #[.int .u64 0, .int .u64 0]
  have hM0 := (((Row.new w 54 #[.int .u64 0, .int .u64 ml]).alloc (.cells #[.int .u64 0, .int .u64 nl] 54)).alloc (.cells #[.int .u64 0, .int .u64 0] 54)).alloc (.cells #[.int .u64 0, .int .u64 0] 54)
  have hN0 := ((Row.new (w.alloc (.cells #[.int .u64 0, .int .u64 ml] 54)) 54 #[.int .u64 0, .int .u64 nl]).alloc (.cells #[.int .u64 0, .int .u64 0] 54)).alloc (.cells #[.int .u64 0, .int .u64 0] 54)
  have hU0 := ((((Up.refl w).alloc (.cells #[.int .u64 0, .int .u64 ml] 54)).alloc (.cells #[.int .u64 0, .int .u64 nl] 54)).alloc (.cells #[.int .u64 0, .int .u64 0] 54)).alloc (.cells #[.int .u64 0, .int .u64 0] 54)
  simp only [alloc_size] at hQ0 hR0 hN0
  obtain ⟨V, hV⟩ : ∃ V, V = (((w.alloc (.cells #[.int .u64 0, .int .u64 ml] 54)).alloc (.cells #[.int .u64 0, .int .u64 nl] 54)).alloc (.cells #[.int .u64 0, .int .u64 0] 54)).alloc (.cells #[.int .u64 0, .int .u64 0] 54) := ⟨_, rfl⟩
  rw [← hV] at hQ0 hR0 hM0 hN0 hU0
  go_enter Tryd.func42, Tryd.ntmps42
  go_wp2_with fail
  rw [← hV]
  refine Calls.mono (HA.out _) ?_; rintro e w1 ⟨rfl, n1, h1⟩
  have hb1 : Below V.heap.size V w1 := by rw [h1]; exact ((Up.refl V).drewN n1).below
  clear h1 hV
  have hQ1 := hQ0.below hb1 hQ0.lt
  have hR1 := hR0.below hb1 hR0.lt
  have hM1 := hM0.below hb1 hM0.lt
  have hN1 := hN0.below hb1 hN0.lt
  have hU1 := hU0.trans hb1
  clear hQ0 hR0 hM0 hN0 hU0 hb1
  have a0 := hQ1.cell 0
  have a1 := hQ1.frozen 0
  have b0 := hR1.cell 1
  have b1 := hR1.frozen 1
  have m1 := hM1.cell 1
  have v1 := hN1.cell 1
  have hQ2 := (hQ1.set 0 (.int .u64 0)).far (p := ⟨w.heap.size + 1 + 1 + 1, 1, none⟩) (by simp) (.int .u64 0)
  have hR2 := (hR1.far (p := ⟨w.heap.size + 1 + 1, 0, none⟩) (by simp) (.int .u64 0)).set 1 (.int .u64 0)
  have hM2 := (hM1.far (p := ⟨w.heap.size + 1 + 1, 0, none⟩) (by simp; omega) (.int .u64 0)).far (p := ⟨w.heap.size + 1 + 1 + 1, 1, none⟩) (by simp; omega) (.int .u64 0)
  have hN2 := (hN1.far (p := ⟨w.heap.size + 1 + 1, 0, none⟩) (by simp) (.int .u64 0)).far (p := ⟨w.heap.size + 1 + 1 + 1, 1, none⟩) (by simp) (.int .u64 0)
  have hU2 := (hU1.setCell (p := w.heap.size + 1 + 1) (i := 0) (by omega) (.int .u64 0)).setCell (p := w.heap.size + 1 + 1 + 1) (i := 1) (by omega) (.int .u64 0)
  obtain ⟨V2, hV2⟩ : ∃ V2, V2 = (w1.setCell ⟨w.heap.size + 1 + 1, 0, none⟩ (.int .u64 0)).setCell ⟨w.heap.size + 1 + 1 + 1, 1, none⟩ (.int .u64 0) := ⟨_, rfl⟩
  rw [← hV2] at hQ2 hR2 hM2 hN2 hU2
  have x1 := hM2.cell 1
  have x2 := hN2.cell 1
  have x3 := hR2.cell 1
  rw [hV2] at x1 x2 x3
  simp at a0 a1 b0 b1 m1 v1 x1 x2 x3
  clear hQ1 hR1 hM1 hN1 hU1
  go_wp2_with fail
  rw [← hV2]
  clear x1 x2 x3 a0 a1 b0 b1 m1 v1 hM2 hN2 hV2
  simp only [List.setIfInBounds_toArray, List.set_cons_zero, List.set_cons_succ] at hQ2 hR2
  refine Calls.mono (HB.out _) ?_; rintro e w3 ⟨rfl, n2, h2⟩
  have hb2 : Below V2.heap.size V2 w3 := by rw [h2]; exact ((Up.refl V2).drewN n2).below
  clear h2
  have hQ3 := hQ2.below hb2 hQ2.lt
  have hR3 := hR2.below hb2 hR2.lt
  have hU3 := hU2.trans hb2
  clear hQ2 hR2 hU2 hb2
  have a0 := hQ3.cell 1
  have a1 := hQ3.frozen 1
  have b0 := hR3.cell 1
  have b1 := hR3.frozen 1
  have hQ4 := (hQ3.set 1 (.int .u64 q)).far (p := ⟨w.heap.size + 1 + 1 + 1, 1, none⟩) (by simp) (.int .u64 r)
  have hR4 := (hR3.far (p := ⟨w.heap.size + 1 + 1, 1, none⟩) (by simp) (.int .u64 q)).set 1 (.int .u64 r)
  have hU4 := (hU3.setCell (p := w.heap.size + 1 + 1) (i := 1) (by omega) (.int .u64 q)).setCell (p := w.heap.size + 1 + 1 + 1) (i := 1) (by omega) (.int .u64 r)
  obtain ⟨V4, hV4⟩ : ∃ V4, V4 = (w3.setCell ⟨w.heap.size + 1 + 1, 1, none⟩ (.int .u64 q)).setCell ⟨w.heap.size + 1 + 1 + 1, 1, none⟩ (.int .u64 r) := ⟨_, rfl⟩
  rw [← hV4] at hQ4 hR4 hU4
  simp at a0 a1 b0 b1
  simp only [List.setIfInBounds_toArray, List.set_cons_zero, List.set_cons_succ] at hQ4 hR4
  clear hQ3 hR3 hU3
  go_wp2_with fail
  rw [← hV4]
  clear a0 a1 b0 b1 hV4
  have hQ5 : Row V4.drew (w.heap.size + 1 + 1) 54 #[.int .u64 0, .int .u64 q] := hQ4.drew
  have hR5 : Row V4.drew (w.heap.size + 1 + 1 + 1) 54 #[.int .u64 0, .int .u64 r] := hR4.drew
  have hU5 := hU4.drew
  obtain ⟨y0, y1, y2⟩ := hQ4.two (.int .u64 0) (.int .u64 q)
  have hR8 := (hR4.far (p := ⟨w.heap.size + 1 + 1, 0, none⟩) (by simp) (.int .u64 0)).far (p := ⟨w.heap.size + 1 + 1, 1, none⟩) (by simp) (.int .u64 q)
  obtain ⟨z0, z1, z2⟩ := hR8.two (.int .u64 0) (.int .u64 r)
  have Y0 := hid y0
  have Y1 := hid y1
  have Z0 := hid z0
  have Z1 := hid z1
  clear hQ4 hR4 hU4 hR8 y0 y1 y2 z0 z1 z2
  obtain ⟨d0, d1, d2⟩ := hQ5.two (.int .u64 0) (.int .u64 q)
  have hQ6 := (hQ5.set 0 (.int .u64 0)).set 1 (.int .u64 q)
  have hR6 := (hR5.far (p := ⟨w.heap.size + 1 + 1, 0, none⟩) (by simp) (.int .u64 0)).far (p := ⟨w.heap.size + 1 + 1, 1, none⟩) (by simp) (.int .u64 q)
  obtain ⟨e0, e1, e2⟩ := hR6.two (.int .u64 0) (.int .u64 r)
  have hQ7 := (hQ6.far (p := ⟨w.heap.size + 1 + 1 + 1, 0, none⟩) (by simp) (.int .u64 0)).far (p := ⟨w.heap.size + 1 + 1 + 1, 1, none⟩) (by simp) (.int .u64 r)
  have q0 := hQ5.cell 0
  have q1 := hQ5.cell 1
  have q2 := hQ5.frozen 0
  have q3 := hQ5.frozen 1
  have r0 := hR5.cell 0
  have r1 := hR5.cell 1
  have r2 := hR6.cell 0
  have r3 := hR6.cell 1
  have r4 := hR6.frozen 0
  have r5 := hR6.frozen 1
  have t0 := hQ7.cell 0
  have t1 := hQ7.cell 1
  have hU7 := (((hU5.setCell (p := w.heap.size + 1 + 1) (i := 0) (by omega) (.int .u64 0)).setCell (p := w.heap.size + 1 + 1) (i := 1) (by omega) (.int .u64 q)).setCell (p := w.heap.size + 1 + 1 + 1) (i := 0) (by omega) (.int .u64 0)).setCell (p := w.heap.size + 1 + 1 + 1) (i := 1) (by omega) (.int .u64 r)
  simp at q0 q1 q2 q3 r0 r1 r2 r3 r4 r5 t0 t1 d0 d1 d2 e0 e1 e2
  clear hQ5 hQ6 hR5 hR6 hQ7 hU5
  go_region
  all_goals
    go_wp2_with fail
    simp [bodyPost, results, Tryd.results42, go_sem, Y0.out, Y1.out, Z0.out, Z1.out]
    first | exact hU7.below | exact ⟨hU7.below.os, hU7.below.tape, hU7.below.output, hU7.below.size, hU7.below.block⟩ | trace_state
end Go.Proofs.YtfalllekhcocgaaDoor
