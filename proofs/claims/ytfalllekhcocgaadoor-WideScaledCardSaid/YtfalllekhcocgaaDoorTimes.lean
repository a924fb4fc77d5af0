/-
  A product of two sizes, in four words: each step of the school method, and the whole.
-/
import Derived.Test.YtfalllekhcocgaaDoorWide5
namespace Go.Proofs.YtfalllekhcocgaaDoor
open Go.RowKit

theorem mul_bound {x y : Int} (hx : 0 ≤ x ∧ x < 18446744073709551616) (hy : 0 ≤ y ∧ y < 18446744073709551616) : 0 ≤ x * y ∧ x * y ≤ 340282366920938463426481119284349108225 := by
  refine ⟨Int.mul_nonneg hx.1 hy.1, ?_⟩
  have h1 : x * y ≤ 18446744073709551615 * y := Int.mul_le_mul_of_nonneg_right (by omega) hy.1
  omega
/-- one step: a product of two words, what is carried over, and a digit -/
theorem mul_add (t o p : Int) (ht : 0 ≤ t ∧ t ≤ 340282366920938463426481119284349108225) (ho : 0 ≤ o ∧ o < 18446744073709551616) (hp : 0 ≤ p ∧ p < 18446744073709551616) :
    ∃ th tl s1 c1 s2 c2 h1 o2 : Int, t / 18446744073709551616 = th ∧ t % 18446744073709551616 = tl ∧ (tl + o) % 18446744073709551616 = s1 ∧ (tl + o) / 18446744073709551616 = c1 ∧ (p + s1) % 18446744073709551616 = s2 ∧ (p + s1) / 18446744073709551616 = c2 ∧
      IntKind.u64.wrap (th + c1) = h1 ∧ IntKind.u64.wrap (h1 + c2) = o2 ∧ o2 * 18446744073709551616 + s2 = t + o + p ∧ (0 ≤ s2 ∧ s2 < 18446744073709551616) ∧ (0 ≤ o2 ∧ o2 < 18446744073709551616) ∧ 0 ≤ tl ∧ 0 ≤ s1 := by
  refine ⟨_, _, _, _, _, _, _, _, rfl, rfl, rfl, rfl, rfl, rfl, rfl, rfl, ?_⟩
  rw [IntKind.wrap_u64, IntKind.wrap_u64]
  omega

theorem index_0 (x y : Int) (W : World) : (Instr.index 120 (.agg #[.int .u64 x, .int .u64 y]) (.int .i64 0)).run Tryd.prog W = .ok (.int .u64 x) W := by kernel_rfl
theorem index_1 (x y : Int) (W : World) : (Instr.index 120 (.agg #[.int .u64 x, .int .u64 y]) (.int .i64 1)).run Tryd.prog W = .ok (.int .u64 y) W := by kernel_rfl

set_option maxRecDepth 100000 in
set_option maxHeartbeats 4000000 in
theorem times_words (w : World) (mh ml nh nl : Int) (h1 : 0 ≤ mh ∧ mh < 18446744073709551616) (h2 : 0 ≤ ml ∧ ml < 18446744073709551616) (h3 : 0 ≤ nh ∧ nh < 18446744073709551616) (h4 : 0 ≤ nl ∧ nl < 18446744073709551616) :
    Calls Tryd.prog 70 #[.agg #[.int .u64 mh, .int .u64 ml], .agg #[.int .u64 nh, .int .u64 nl]] w fun e w' =>
      ∃ a b c d : Int, e = .returned (.agg #[.int .u64 a, .int .u64 b, .int .u64 c, .int .u64 d]) ∧ (0 ≤ a ∧ a < 18446744073709551616) ∧ (0 ≤ b ∧ b < 18446744073709551616) ∧ (0 ≤ c ∧ c < 18446744073709551616) ∧ (0 ≤ d ∧ d < 18446744073709551616) ∧
        a + b * 18446744073709551616 + c * 340282366920938463463374607431768211456 + d * 6277101735386680763835789423207666416102355444464034512896 = ml * nl + (ml * nh + mh * nl) * 18446744073709551616 + mh * nh * 340282366920938463463374607431768211456 ∧ Below w.heap.size w w' := by
  have b00 := mul_bound h2 h4
  have b01 := mul_bound h2 h3
  have b10 := mul_bound h1 h4
  have b11 := mul_bound h1 h3
  have m00 := fun w => mul64 ml nl h2 h4 w
  have m01 := fun w => mul64 ml nh h2 h3 w
  have m10 := fun w => mul64 mh nl h1 h4 w
  have m11 := fun w => mul64 mh nh h1 h3 w
  obtain ⟨P00, e00⟩ : ∃ P, P = ml * nl := ⟨_, rfl⟩
  obtain ⟨P01, e01⟩ : ∃ P, P = ml * nh := ⟨_, rfl⟩
  obtain ⟨P10, e10⟩ : ∃ P, P = mh * nl := ⟨_, rfl⟩
  obtain ⟨P11, e11⟩ : ∃ P, P = mh * nh := ⟨_, rfl⟩
  rw [← e00] at b00 m00
  rw [← e01] at b01 m01
  rw [← e10] at b10 m10
  rw [← e11] at b11 m11
  rw [← e00, ← e01, ← e10, ← e11]
  clear e00 e01 e10 e11
  have hA := ((Row.new w 54 #[.int .u64 mh, .int .u64 ml]).alloc (.cells #[.int .u64 nh, .int .u64 nl] 54)).alloc (.cells #[.int .u64 0, .int .u64 0, .int .u64 0, .int .u64 0] 49)
  have hB := (Row.new (w.alloc (.cells #[.int .u64 mh, .int .u64 ml] 54)) 54 #[.int .u64 nh, .int .u64 nl]).alloc (.cells #[.int .u64 0, .int .u64 0, .int .u64 0, .int .u64 0] 49)
  have hC := Row.new ((w.alloc (.cells #[.int .u64 mh, .int .u64 ml] 54)).alloc (.cells #[.int .u64 nh, .int .u64 nl] 54)) 49 #[.int .u64 0, .int .u64 0, .int .u64 0, .int .u64 0]
  have hU := (((Up.refl w).alloc (.cells #[.int .u64 mh, .int .u64 ml] 54)).alloc (.cells #[.int .u64 nh, .int .u64 nl] 54)).alloc (.cells #[.int .u64 0, .int .u64 0, .int .u64 0, .int .u64 0] 49)
  simp only [alloc_size] at hB hC
  have HM00 := hid m00
  have HM01 := hid m01
  have HM10 := hid m10
  have HM11 := hid m11
  have B00 := hid b00
  have B01 := hid b01
  have B10 := hid b10
  have B11 := hid b11
  have i0 := index_0
  have i1 := index_1
  clear m00 m01 m10 m11 b00 b01 b10 b11 h1 h2 h3 h4
  go_enter Tryd.func70, Tryd.ntmps70
  go_wp2_with fail
  obtain ⟨V, hV⟩ : ∃ V, V = ((w.alloc (.cells #[.int .u64 mh, .int .u64 ml] 54)).alloc (.cells #[.int .u64 nh, .int .u64 nl] 54)).alloc (.cells #[.int .u64 0, .int .u64 0, .int .u64 0, .int .u64 0] 49) := ⟨_, rfl⟩
  rw [← hV] at hA hB hC hU ⊢
  clear hV hA
  go_loopw [18] (fun i wr => ∃ a b c d : Int, Row wr (w.heap.size + 1 + 1) 49 #[.int .u64 a, .int .u64 b, .int .u64 c, .int .u64 d] ∧ Row wr (w.heap.size + 1) 54 #[.int .u64 nh, .int .u64 nl] ∧ Up w.heap.size w wr ∧
    (0 ≤ a ∧ a < 18446744073709551616) ∧ (0 ≤ b ∧ b < 18446744073709551616) ∧ (0 ≤ c ∧ c < 18446744073709551616) ∧ (0 ≤ d ∧ d < 18446744073709551616) ∧
    ((i = .int .i64 0 ∧ a = 0 ∧ b = 0 ∧ c = 0 ∧ d = 0) ∨ (i = .int .i64 1 ∧ d = 0 ∧ a + b * 18446744073709551616 + c * 340282366920938463463374607431768211456 = P00 + P01 * 18446744073709551616) ∨
     (i = .int .i64 2 ∧ a + b * 18446744073709551616 + c * 340282366920938463463374607431768211456 + d * 6277101735386680763835789423207666416102355444464034512896 = P00 + (P01 + P10) * 18446744073709551616 + P11 * 340282366920938463463374607431768211456))) (fun i _ => 2 - (intOf i).toNat)
  case atStart => exact ⟨0, 0, 0, 0, hC, hB, hU, by decide, by decide, by decide, by decide, .inl ⟨rfl, rfl, rfl, rfl, rfl⟩⟩
  case round =>
    clear hB hC hU
    obtain ⟨a, b, c, d, hC, hB, hU, ra, rb, rc, rd, hcase⟩ := hrel
    have n0 := hB.cell 0
    have n1 := hB.cell 1
    simp at n0 n1
    rcases hcase with ⟨rfl, rfl, rfl, rfl, rfl⟩ | ⟨rfl, rfl, hval⟩ | ⟨rfl, hval⟩
    · clear ra rb rc rd
      go_wp2_with fail
      go_loopw [7, 27] (fun o i wi => ∃ a b x : Int, Row wi (w.heap.size + 1 + 1) 49 #[.int .u64 a, .int .u64 b, .int .u64 0, .int .u64 0] ∧ Row wi (w.heap.size + 1) 54 #[.int .u64 nh, .int .u64 nl] ∧ Up w.heap.size w wi ∧ o = .int .u64 x ∧
        (0 ≤ a ∧ a < 18446744073709551616) ∧ (0 ≤ b ∧ b < 18446744073709551616) ∧ (0 ≤ x ∧ x < 18446744073709551616) ∧
        ((i = .int .i64 0 ∧ a = 0 ∧ b = 0 ∧ x = 0) ∨ (i = .int .i64 1 ∧ b = 0 ∧ a + x * 18446744073709551616 = P00) ∨ (i = .int .i64 2 ∧ a + b * 18446744073709551616 + x * 340282366920938463463374607431768211456 = P00 + P01 * 18446744073709551616))) (fun _ i _ => 2 - (intOf i).toNat)
      case atStart => exact ⟨0, 0, 0, hC, hB, hU, rfl, by decide, by decide, by decide, .inl ⟨rfl, rfl, rfl, rfl⟩⟩
      case round =>
        clear hB hC hU n0 n1
        obtain ⟨a, b, x, hC, hB, hU, rfl, ra, rb, rx, hcase⟩ := hrel
        rcases hcase with ⟨rfl, rfl, rfl, rfl⟩ | ⟨rfl, rfl, hval⟩ | ⟨rfl, hval⟩
        · obtain ⟨th, tl, s1, c1, s2, c2, g1, o2, e1, e2, e3, e4, e5, e6, e7, e8, hv, r2, ro, htl, hs1⟩ := mul_add P00 0 0 B00.out (show (0 : Int) ≤ 0 ∧ (0 : Int) < 18446744073709551616 by decide) (show (0 : Int) ≤ 0 ∧ (0 : Int) < 18446744073709551616 by decide)
          have M := HM00.out
          rw [e1, e2] at M
          have A1 := fun w => add64 tl 0 0 htl (show (0 : Int) ≤ 0 ∧ (0 : Int) < 18446744073709551616 by decide).1 (Int.le_refl 0) (by decide) w
          have A2 := fun w => add64 0 s1 0 (show (0 : Int) ≤ 0 ∧ (0 : Int) < 18446744073709551616 by decide).1 hs1 (Int.le_refl 0) (by decide) w
          rw [Int.add_zero, e3, e4] at A1
          rw [Int.add_zero, e5, e6] at A2
          have HV := hid hv
          have q0 := hC.cell 0
          have q1 := hC.frozen 0
          simp at q0 q1
          clear e1 e2 e3 e4 e5 e6 hv htl hs1
          have R2 := hid r2
          have RO := hid ro
          have HC2 := hC.set 0 (.int .u64 s2)
          have HB2 := hB.far (p := ⟨w.heap.size + 1 + 1, 0, none⟩) (by simp) (.int .u64 s2)
          have HU2 := hU.setCell (p := w.heap.size + 1 + 1) (i := 0) (by omega) (.int .u64 s2)
          simp at HC2
          clear ra rb rx
          clear r2 ro
          go_wp2_with (go_at_call 48; refine Calls.mono (M _) ?_; rintro e w' ⟨rfl, rfl⟩)
          have hv := HV.out
          have r2 := R2.out
          have ro := RO.out
          go_roundw
          case rel => exact ⟨s2, 0, o2, HC2, HB2, HU2, rfl, r2, by decide, ro, .inr (.inl ⟨rfl, rfl, by omega⟩)⟩
          case measure => simp [intOf]
        · obtain ⟨th, tl, s1, c1, s2, c2, g1, o2, e1, e2, e3, e4, e5, e6, e7, e8, hv, r2, ro, htl, hs1⟩ := mul_add P01 x 0 B01.out rx (show (0 : Int) ≤ 0 ∧ (0 : Int) < 18446744073709551616 by decide)
          have M := HM01.out
          rw [e1, e2] at M
          have A1 := fun w => add64 tl x 0 htl rx.1 (Int.le_refl 0) (by decide) w
          have A2 := fun w => add64 0 s1 0 (show (0 : Int) ≤ 0 ∧ (0 : Int) < 18446744073709551616 by decide).1 hs1 (Int.le_refl 0) (by decide) w
          rw [Int.add_zero, e3, e4] at A1
          rw [Int.add_zero, e5, e6] at A2
          have HV := hid hv
          have q0 := hC.cell 1
          have q1 := hC.frozen 1
          simp at q0 q1
          clear e1 e2 e3 e4 e5 e6 hv htl hs1
          have R2 := hid r2
          have RO := hid ro
          have HC2 := hC.set 1 (.int .u64 s2)
          have HB2 := hB.far (p := ⟨w.heap.size + 1 + 1, 1, none⟩) (by simp) (.int .u64 s2)
          have HU2 := hU.setCell (p := w.heap.size + 1 + 1) (i := 1) (by omega) (.int .u64 s2)
          simp at HC2
          have RA := hid ra
          have HVAL := hid hval
          clear ra rb rx hval
          clear r2 ro
          go_wp2_with (go_at_call 48; refine Calls.mono (M _) ?_; rintro e w' ⟨rfl, rfl⟩)
          have hv := HV.out
          have r2 := R2.out
          have ro := RO.out
          go_roundw
          case rel => exact ⟨a, s2, o2, HC2, HB2, HU2, rfl, RA.out, r2, ro, .inr (.inr ⟨rfl, by have := HVAL.out; omega⟩)⟩
          case measure => simp [intOf]
        · have q0 := hC.cell 2
          have q1 := hC.frozen 2
          simp at q0 q1
          have HC2 := hC.set 2 (.int .u64 x)
          have HB2 := hB.far (p := ⟨w.heap.size + 1 + 1, 2, none⟩) (by simp) (.int .u64 x)
          have HU2 := hU.setCell (p := w.heap.size + 1 + 1) (i := 2) (by omega) (.int .u64 x)
          simp at HC2
          have HVAL := hid hval
          have RA := hid ra
          have RB := hid rb
          have RX := hid rx
          clear hval ra rb rx
          go_wp2_with fail
          go_roundw
          case rel => exact ⟨a, b, x, 0, HC2, HB2, HU2, RA.out, RB.out, RX.out, by decide, .inr (.inl ⟨rfl, rfl, by have := HVAL.out; omega⟩)⟩
          case measure => simp [intOf]
    · have RA := hid ra
      have RB0 := hid rb
      have RC0 := hid rc
      have HVAL := hid hval
      clear ra rb rc rd hval
      go_wp2_with fail
      go_loopw [7, 27] (fun o i wi => ∃ b' c' x : Int, Row wi (w.heap.size + 1 + 1) 49 #[.int .u64 a, .int .u64 b', .int .u64 c', .int .u64 0] ∧ Row wi (w.heap.size + 1) 54 #[.int .u64 nh, .int .u64 nl] ∧ Up w.heap.size w wi ∧ o = .int .u64 x ∧
        (0 ≤ b' ∧ b' < 18446744073709551616) ∧ (0 ≤ c' ∧ c' < 18446744073709551616) ∧ (0 ≤ x ∧ x < 18446744073709551616) ∧
        ((i = .int .i64 0 ∧ b' = b ∧ c' = c ∧ x = 0) ∨ (i = .int .i64 1 ∧ c' = c ∧ b' + x * 18446744073709551616 = b + P10) ∨ (i = .int .i64 2 ∧ b' + c' * 18446744073709551616 + x * 340282366920938463463374607431768211456 = b + c * 18446744073709551616 + P10 + P11 * 18446744073709551616))) (fun _ i _ => 2 - (intOf i).toNat)
      case atStart => exact ⟨b, c, 0, hC, hB, hU, rfl, RB0.out, RC0.out, by decide, .inl ⟨rfl, rfl, rfl, rfl⟩⟩
      case round =>
        clear hB hC hU n0 n1
        obtain ⟨b', c', x, hC, hB, hU, rfl, rb, rc, rx, hcase⟩ := hrel
        rcases hcase with ⟨rfl, rfl, rfl, rfl⟩ | ⟨rfl, rfl, hval⟩ | ⟨rfl, hval⟩
        · obtain ⟨th, tl, s1, c1, s2, c2, g1, o2, e1, e2, e3, e4, e5, e6, e7, e8, hv, r2, ro, htl, hs1⟩ := mul_add P10 0 b' B10.out (show (0 : Int) ≤ 0 ∧ (0 : Int) < 18446744073709551616 by decide) rb
          have M := HM10.out
          rw [e1, e2] at M
          have A1 := fun w => add64 tl 0 0 htl (show (0 : Int) ≤ 0 ∧ (0 : Int) < 18446744073709551616 by decide).1 (Int.le_refl 0) (by decide) w
          have A2 := fun w => add64 b' s1 0 rb.1 hs1 (Int.le_refl 0) (by decide) w
          rw [Int.add_zero, e3, e4] at A1
          rw [Int.add_zero, e5, e6] at A2
          have HV := hid hv
          have q0 := hC.cell 1
          have q1 := hC.frozen 1
          simp at q0 q1
          clear e1 e2 e3 e4 e5 e6 hv htl hs1
          have R2 := hid r2
          have RO := hid ro
          have HC2 := hC.set 1 (.int .u64 s2)
          have HB2 := hB.far (p := ⟨w.heap.size + 1 + 1, 1, none⟩) (by simp) (.int .u64 s2)
          have HU2 := hU.setCell (p := w.heap.size + 1 + 1) (i := 1) (by omega) (.int .u64 s2)
          simp at HC2
          have RC := hid rc
          clear rb rc rx
          clear r2 ro
          go_wp2_with (go_at_call 48; refine Calls.mono (M _) ?_; rintro e w' ⟨rfl, rfl⟩)
          have hv := HV.out
          have r2 := R2.out
          have ro := RO.out
          go_roundw
          case rel => exact ⟨s2, c', o2, HC2, HB2, HU2, rfl, r2, RC.out, ro, .inr (.inl ⟨rfl, rfl, by omega⟩)⟩
          case measure => simp [intOf]
        · obtain ⟨th, tl, s1, c1, s2, c2, g1, o2, e1, e2, e3, e4, e5, e6, e7, e8, hv, r2, ro, htl, hs1⟩ := mul_add P11 x c' B11.out rx rc
          have M := HM11.out
          rw [e1, e2] at M
          have A1 := fun w => add64 tl x 0 htl rx.1 (Int.le_refl 0) (by decide) w
          have A2 := fun w => add64 c' s1 0 rc.1 hs1 (Int.le_refl 0) (by decide) w
          rw [Int.add_zero, e3, e4] at A1
          rw [Int.add_zero, e5, e6] at A2
          have HV := hid hv
          have q0 := hC.cell 2
          have q1 := hC.frozen 2
          simp at q0 q1
          clear e1 e2 e3 e4 e5 e6 hv htl hs1
          have R2 := hid r2
          have RO := hid ro
          have HC2 := hC.set 2 (.int .u64 s2)
          have HB2 := hB.far (p := ⟨w.heap.size + 1 + 1, 2, none⟩) (by simp) (.int .u64 s2)
          have HU2 := hU.setCell (p := w.heap.size + 1 + 1) (i := 2) (by omega) (.int .u64 s2)
          simp at HC2
          have RB := hid rb
          have HV2 := hid hval
          clear rb rc rx hval
          clear r2 ro
          go_wp2_with (go_at_call 48; refine Calls.mono (M _) ?_; rintro e w' ⟨rfl, rfl⟩)
          have hv := HV.out
          have r2 := R2.out
          have ro := RO.out
          go_roundw
          case rel => exact ⟨b', s2, o2, HC2, HB2, HU2, rfl, RB.out, r2, ro, .inr (.inr ⟨rfl, by have := HV2.out; omega⟩)⟩
          case measure => simp [intOf]
        · have q0 := hC.cell 3
          have q1 := hC.frozen 3
          simp at q0 q1
          have HC2 := hC.set 3 (.int .u64 x)
          have HB2 := hB.far (p := ⟨w.heap.size + 1 + 1, 3, none⟩) (by simp) (.int .u64 x)
          have HU2 := hU.setCell (p := w.heap.size + 1 + 1) (i := 3) (by omega) (.int .u64 x)
          simp at HC2
          have HV2 := hid hval
          have RB := hid rb
          have RC := hid rc
          have RX := hid rx
          clear hval rb rc rx
          go_wp2_with fail
          go_roundw
          case rel => exact ⟨a, b', c', x, HC2, HB2, HU2, RA.out, RB.out, RC.out, RX.out, .inr (.inr ⟨rfl, by have := HVAL.out; have := HV2.out; omega⟩)⟩
          case measure => simp [intOf]
    · have q0 := hC.cell 0
      have q1 := hC.cell 1
      have q2 := hC.cell 2
      have q3 := hC.cell 3
      have f0 := hC.frozen 0
      have f1 := hC.frozen 1
      have f2 := hC.frozen 2
      have f3 := hC.frozen 3
      have S0 := hC.set 0 (.int .u64 a)
      have S1 := S0.set 1 (.int .u64 b)
      have S2 := S1.set 2 (.int .u64 c)
      have S3 := S2.set 3 (.int .u64 d)
      have d0 := S0.cell 0
      have d1 := S1.cell 1
      have d2 := S2.cell 2
      have d3 := S3.cell 3
      have g0 := S3.cell 0
      have g1 := S3.cell 1
      have g2 := S3.cell 2
      simp at q0 q1 q2 q3 f0 f1 f2 f3 d0 d1 d2 d3 g0 g1 g2
      clear S0 S1 S2 S3
      have HVAL := hid hval
      have RA := hid ra
      have RB := hid rb
      have RC := hid rc
      have RD := hid rd
      clear hval ra rb rc rd
      go_wp2_with fail
      have HU2 := (((hU.setCell (p := w.heap.size + 1 + 1) (i := 0) (by omega) (.int .u64 a)).setCell (p := w.heap.size + 1 + 1) (i := 1) (by omega) (.int .u64 b)).setCell (p := w.heap.size + 1 + 1) (i := 2) (by omega) (.int .u64 c)).setCell (p := w.heap.size + 1 + 1) (i := 3) (by omega) (.int .u64 d)
      simp [bodyPost, results, Tryd.results70, go_sem, d0, d1, d2, d3, g0, g1, g2]
      exact ⟨a, b, c, d, ⟨rfl, rfl, rfl, rfl⟩, RA.out, RB.out, RC.out, RD.out, HVAL.out, HU2.below⟩
end Go.Proofs.YtfalllekhcocgaaDoor
