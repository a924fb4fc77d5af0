/-
  Products of two wide numbers.
-/
import Derived.Test.YtfalllekhcocgaaDoorTimes
namespace Go.Proofs.YtfalllekhcocgaaDoor
open Go.RowKit

/-- what four words say -/
def P4 (a b c d : Int) : Int := a + b * 18446744073709551616 + c * 340282366920938463463374607431768211456 + d * 6277101735386680763835789423207666416102355444464034512896
def Word (a : Int) : Prop := 0 ≤ a ∧ a < 18446744073709551616

theorem expand (mh ml nh nl : Int) : ml * nl + (ml * nh + mh * nl) * 18446744073709551616 + mh * nh * 340282366920938463463374607431768211456 = (mh * 18446744073709551616 + ml) * (nh * 18446744073709551616 + nl) := by
  have e1 : mh * 18446744073709551616 * (nh * 18446744073709551616) = mh * nh * 340282366920938463463374607431768211456 := by
    rw [Int.mul_assoc, ← Int.mul_assoc 18446744073709551616, Int.mul_comm 18446744073709551616 nh, Int.mul_assoc nh, ← Int.mul_assoc]; rfl
  have e2 : mh * 18446744073709551616 * nl = mh * nl * 18446744073709551616 := by rw [Int.mul_assoc, Int.mul_comm 18446744073709551616, ← Int.mul_assoc]
  have e3 : ml * (nh * 18446744073709551616) = ml * nh * 18446744073709551616 := by rw [← Int.mul_assoc]
  have e4 : (mh * 18446744073709551616 + ml) * (nh * 18446744073709551616 + nl) = mh * 18446744073709551616 * (nh * 18446744073709551616) + ml * (nh * 18446744073709551616) + (mh * 18446744073709551616 * nl + ml * nl) := by
    rw [Int.mul_add, Int.add_mul, Int.add_mul]
  rw [e4, e1, e2, e3]
  omega
theorem times_any (w : World) (m n : Int) (hm : Big m) (hn : Big n) : Calls Tryd.prog 70 #[UV m, UV n] w fun e w' =>
    ∃ a b c d : Int, e = .returned (.agg #[.int .u64 a, .int .u64 b, .int .u64 c, .int .u64 d]) ∧ Word a ∧ Word b ∧ Word c ∧ Word d ∧ P4 a b c d = m * n ∧ Below w.heap.size w w' := by
  obtain ⟨mh, ml, e1, rfl, h1, h2⟩ := UV_of hm
  obtain ⟨nh, nl, e2, rfl, h3, h4⟩ := UV_of hn
  rw [e1, e2]
  refine (times_words w mh ml nh nl h1 h2 h3 h4).mono fun e w' ⟨a, b, c, d, he, ha, hb, hc, hd, hv, hbl⟩ => ⟨a, b, c, d, he, ha, hb, hc, hd, ?_, hbl⟩
  unfold P4
  rw [hv, expand]

theorem product_any (w : World) (x y : Int) (hx : Fits x) (hy : Fits y) : Calls Tryd.prog 39 #[WV x, WV y] w fun e w' =>
    ∃ (a b c d : Int) (s : Bool), e = .returned (.tuple #[.agg #[.int .u64 a, .int .u64 b, .int .u64 c, .int .u64 d], .bool s]) ∧ Word a ∧ Word b ∧ Word c ∧ Word d ∧ P4 a b c d = mag x * mag y ∧ s = (decide (x < 0) != decide (y < 0)) ∧ Below w.heap.size w w' := by
  have hS1 := fun w => sized_any w x hx
  have hS2 := fun w => sized_any w y hy
  have hT := fun w => times_any w (mag x) (mag y) (mag_big hx) (mag_big hy)
  obtain ⟨xh, xl, e1, _, _, _⟩ := WV_of hx
  obtain ⟨yh, yl, e2, _, _, _⟩ := WV_of hy
  obtain ⟨mh, ml, e3, _, _, _⟩ := UV_of (mag_big hx)
  obtain ⟨nh, nl, e4, _, _, _⟩ := UV_of (mag_big hy)
  obtain ⟨sx, hsx⟩ : ∃ s, s = decide (x < 0) := ⟨_, rfl⟩
  obtain ⟨sy, hsy⟩ : ∃ s, s = decide (y < 0) := ⟨_, rfl⟩
  rw [e1, e3, ← hsx] at hS1
  rw [e2, e4, ← hsy] at hS2
  rw [e3, e4] at hT
  rw [e1, e2, ← hsx, ← hsy]
  obtain ⟨M, hM⟩ : ∃ M, M = mag x * mag y := ⟨_, rfl⟩
  rw [← hM] at hT ⊢
  have HS1 := hid hS1
  have HS2 := hid hS2
  have HT := hid hT
  clear hS1 hS2 hT e1 e2 e3 e4 hsx hsy hM
  have hBr := (Row.new (w.alloc (.cells #[.int .i64 xh, .int .u64 xl] 24)) 24 #[.int .i64 yh, .int .u64 yl]).alloc (.cells #[.int .u64 0, .int .u64 0, .int .u64 0, .int .u64 0] 49)
  have hCr := Row.new ((w.alloc (.cells #[.int .i64 xh, .int .u64 xl] 24)).alloc (.cells #[.int .i64 yh, .int .u64 yl] 24)) 49 #[.int .u64 0, .int .u64 0, .int .u64 0, .int .u64 0]
  have hU := (((Up.refl w).alloc (.cells #[.int .i64 xh, .int .u64 xl] 24)).alloc (.cells #[.int .i64 yh, .int .u64 yl] 24)).alloc (.cells #[.int .u64 0, .int .u64 0, .int .u64 0, .int .u64 0] 49)
  simp only [alloc_size] at hBr hCr
  go_enter Tryd.func39, Tryd.ntmps39
  go_wp2_with fail
  refine Calls.mono (HS1.out _) ?_; rintro e w4 ⟨rfl, hb4⟩
  have hB4 := hBr.mod (Mod.of_below hb4 Nil) (fun hf => hf)
  have hC4 := hCr.mod (Mod.of_below hb4 Nil) (fun hf => hf)
  have hU4 := hU.trans hb4
  have hB5 := hB4.alloc (.cells #[.int .u64 mh, .int .u64 ml] 54)
  have q0 := hB5.cell 0
  have q1 := hB5.cell 1
  simp at q0 q1
  clear hBr hCr hU hb4 hB5
  go_wp2_with fail
  refine Calls.mono (HS2.out _) ?_; rintro e w6 ⟨rfl, hb6⟩
  have hM6 := (Row.new w4 54 #[.int .u64 mh, .int .u64 ml]).mod (Mod.of_below hb6 Nil) (fun hf => hf)
  have hC6 := (hC4.alloc (.cells #[.int .u64 mh, .int .u64 ml] 54)).mod (Mod.of_below hb6 Nil) (fun hf => hf)
  have hU6 := (hU4.alloc (.cells #[.int .u64 mh, .int .u64 ml] 54)).trans hb6
  have hM7 := hM6.alloc (.cells #[.int .u64 nh, .int .u64 nl] 54)
  have r0 := hM7.cell 0
  have r1 := hM7.cell 1
  simp at r0 r1
  clear hB4 hC4 hU4 hb6 hM6 hM7 q0 q1
  go_wp2_with fail
  refine Calls.mono (HT.out _) ?_; rintro e w8 ⟨a, b, c, d, rfl, ha, hb, hc, hd, hv, hb8⟩
  have hC8 := (hC6.alloc (.cells #[.int .u64 nh, .int .u64 nl] 54)).mod (Mod.of_below hb8 Nil) (fun hf => hf)
  have hU8 := (hU6.alloc (.cells #[.int .u64 nh, .int .u64 nl] 54)).trans hb8
  have c0 := hC8.cell 0
  have c1 := hC8.cell 1
  have c2 := hC8.cell 2
  have c3 := hC8.cell 3
  have f0 := hC8.frozen 0
  have f1 := hC8.frozen 1
  have f2 := hC8.frozen 2
  have f3 := hC8.frozen 3
  have S0 := hC8.set 0 (.int .u64 a)
  have S1 := S0.set 1 (.int .u64 b)
  have S2 := S1.set 2 (.int .u64 c)
  have S3 := S2.set 3 (.int .u64 d)
  have d0 := S0.cell 0
  have d1 := S1.cell 1
  have d2 := S2.cell 2
  have d3 := S3.cell 3
  have g0 := S3.cell 0
  have g1 := S3.cell 1
  have g2 := S3.cell 2
  simp at c0 c1 c2 c3 f0 f1 f2 f3 d0 d1 d2 d3 g0 g1 g2
  have HU9 := (((hU8.setCell (p := w.heap.size + 1 + 1) (i := 0) (by omega) (.int .u64 a)).setCell (p := w.heap.size + 1 + 1) (i := 1) (by omega) (.int .u64 b)).setCell (p := w.heap.size + 1 + 1) (i := 2) (by omega) (.int .u64 c)).setCell (p := w.heap.size + 1 + 1) (i := 3) (by omega) (.int .u64 d)
  have HV := hid hv
  have HA := hid ha
  have HB := hid hb
  have HCC := hid hc
  have HD := hid hd
  clear S0 S1 S2 S3 hC6 hU6 hb8 hC8 hU8 r0 r1 hv ha hb hc hd
  go_wp2_with fail
  simp [bodyPost, results, Tryd.results39, go_sem, d0, d1, d2, d3, g0, g1, g2]
  by_cases hss : sx = sy
  · exact ⟨a, b, c, d, .inl ⟨⟨⟨rfl, rfl, rfl, rfl⟩, hss⟩, HA.out, HB.out, HCC.out, HD.out, HV.out, hss, HU9.below⟩⟩
  · exact ⟨a, b, c, d, .inr ⟨⟨⟨rfl, rfl, rfl, rfl⟩, hss⟩, HA.out, HB.out, HCC.out, HD.out, HV.out, hss, HU9.below⟩⟩

theorem wsigned_any (w : World) (a b c d : Int) (minus : Bool) (ha : Word a) (hb : Word b) (hc : Word c) (hd : Word d) :
    Calls Tryd.prog 40 #[.agg #[.int .u64 a, .int .u64 b, .int .u64 c, .int .u64 d], .bool minus] w fun e w' =>
      e = .returned (resV (if minus then -(P4 a b c d) else P4 a b c d)) ∧ Below w.heap.size w w' := by
  have ho := or_pos c d hc.1 hc.2 hd.1 hd.2
  by_cases hz : 0 < bits .or .u64 c d
  · have hnf : ¬ Fits (if minus then -(P4 a b c d) else P4 a b c d) := by
      have := ho.1 hz
      unfold Word at ha hb hc hd
      unfold Fits P4
      cases minus <;> simp <;> omega
    rw [resV_over hnf]
    clear ho hnf ha hb hc hd
    have hw0 : WV 0 = .agg #[.int .i64 0, .int .u64 0] := rfl
    rw [hw0]
    clear hw0
    go_enter Tryd.func40, Tryd.ntmps40
    go_wp2_with fail
    simp [bodyPost, results, Tryd.results40, go_sem]
    exact (((Up.refl w).alloc _).alloc _).below
  · have hz' : c = 0 ∧ d = 0 := by
      by_cases h : c = 0 ∧ d = 0
      · exact h
      · exact absurd (ho.2 h) hz
    obtain ⟨rfl, rfl⟩ := hz'
    have hC := fun w => signed_words w b a minus hb ha
    rw [show b * 18446744073709551616 + a = P4 a b 0 0 by unfold P4; omega] at hC
    obtain ⟨ra, rb, k, hr⟩ := resV_form (if minus then -(P4 a b 0 0) else P4 a b 0 0)
    rw [hr] at hC ⊢
    have HC := hid hC
    clear hC hr ho ha hb hc hd
    go_enter Tryd.func40, Tryd.ntmps40
    go_wp2_with fail
    refine Calls.mono (HC.out _) ?_; rintro e w' ⟨rfl, hb⟩
    have hR := (Row.new (w.alloc (.cells #[.int .u64 a, .int .u64 b, .int .u64 0, .int .u64 0] 49)) 24 #[.int .i64 0, .int .u64 0]).mod (Mod.of_below hb Nil) (fun hf => hf)
    have c0 := hR.cell 0
    have c1 := hR.cell 1
    have f0 := hR.frozen 0
    have f1 := hR.frozen 1
    obtain ⟨d0, d1, _⟩ := hR.two (.int .i64 ra) (.int .u64 rb)
    simp at c0 c1 f0 f1 d0 d1
    go_wp2_with fail
    simp [bodyPost, results, Tryd.results40, go_sem, d0, d1]
    exact ((((((Up.refl w).alloc _).alloc _).trans hb).setCell (by simp) _).setCell (by simp) _).below

theorem mag_mul (x y : Int) : (if (decide (x < 0) != decide (y < 0)) = true then -(mag x * mag y) else mag x * mag y) = x * y := by
  rcases mag_cases x with ⟨h1, e1⟩ | ⟨h1, e1⟩ <;> rcases mag_cases y with ⟨h2, e2⟩ | ⟨h2, e2⟩
  · rw [e1, e2, decide_eq_true h1, decide_eq_true h2]; simp [Int.neg_mul, Int.mul_neg]
  · rw [e1, e2, decide_eq_true h1, decide_eq_false (by omega)]; simp [Int.neg_mul]
  · rw [e1, e2, decide_eq_true h2, decide_eq_false (by omega)]; simp [Int.mul_neg]
  · rw [e1, e2, decide_eq_false (by omega), decide_eq_false (by omega)]; simp

theorem mul_any (w : World) (x y : Int) (hx : Fits x) (hy : Fits y) : Calls Tryd.prog 15 #[WV x, WV y] w fun e w' => e = .returned (resV (x * y)) ∧ Below w.heap.size w w' := by
  have hP := fun w => product_any w x y hx hy
  have hS := fun w a b c d s ha hb hc hd => wsigned_any w a b c d s ha hb hc hd
  have hmm := mag_mul x y
  obtain ⟨xh, xl, e1, _, _, _⟩ := WV_of hx
  obtain ⟨yh, yl, e2, _, _, _⟩ := WV_of hy
  obtain ⟨ra, rb, k, hr⟩ := resV_form (x * y)
  have hS2 : ∀ (w : World) (a b c d : Int) (s : Bool), Word a → Word b → Word c → Word d → P4 a b c d = mag x * mag y → s = (decide (x < 0) != decide (y < 0)) →
      Calls Tryd.prog 40 #[.agg #[.int .u64 a, .int .u64 b, .int .u64 c, .int .u64 d], .bool s] w fun e w' => e = .returned (.tuple #[.agg #[.int .i64 ra, .int .u64 rb], .int .i64 k]) ∧ Below w.heap.size w w' := by
    intro w a b c d s ha hb hc hd hv hs
    have := wsigned_any w a b c d s ha hb hc hd
    rw [hv, hs, hmm, hr] at this
    rw [hs]
    exact this
  rw [e1, e2] at hP
  rw [e1, e2, hr]
  have HP := hid hP
  have HS := hid hS2
  clear hP hS hS2 hmm e1 e2 hr
  have hR := (Row.new ((w.alloc (.cells #[.int .i64 xh, .int .u64 xl] 24)).alloc (.cells #[.int .i64 yh, .int .u64 yl] 24)) 24 #[.int .i64 0, .int .u64 0])
  have hU := (((Up.refl w).alloc (.cells #[.int .i64 xh, .int .u64 xl] 24)).alloc (.cells #[.int .i64 yh, .int .u64 yl] 24)).alloc (.cells #[.int .i64 0, .int .u64 0] 24)
  simp only [alloc_size] at hR
  go_enter Tryd.func15, Tryd.ntmps15
  go_wp2_with fail
  refine Calls.mono (HP.out _) ?_; rintro e w4 ⟨a, b, c, d, s, rfl, ha, hb, hc, hd, hv, hs, hb4⟩
  have hR4 := hR.mod (Mod.of_below hb4 Nil) (fun hf => hf)
  have hU4 := hU.trans hb4
  have HSS := hid (fun w => HS.out w a b c d s ha hb hc hd hv hs)
  clear hR hU hb4 ha hb hc hd hv hs HP HS
  go_wp2_with fail
  refine Calls.mono (HSS.out _) ?_; rintro e w8 ⟨rfl, hb8⟩
  have hR8 := (hR4.alloc (.cells #[.int .u64 a, .int .u64 b, .int .u64 c, .int .u64 d] 49)).mod (Mod.of_below hb8 Nil) (fun hf => hf)
  have hU8 := (hU4.alloc (.cells #[.int .u64 a, .int .u64 b, .int .u64 c, .int .u64 d] 49)).trans hb8
  have c0 := hR8.cell 0
  have c1 := hR8.cell 1
  have f0 := hR8.frozen 0
  have f1 := hR8.frozen 1
  obtain ⟨d0, d1, _⟩ := hR8.two (.int .i64 ra) (.int .u64 rb)
  simp at c0 c1 f0 f1 d0 d1
  clear hR4 hU4 hb8 hR8
  go_wp2_with fail
  simp [bodyPost, results, Tryd.results15, go_sem, d0, d1]
  exact ((hU8.setCell (by omega) _).setCell (by omega) _).below
end Go.Proofs.YtfalllekhcocgaaDoor
