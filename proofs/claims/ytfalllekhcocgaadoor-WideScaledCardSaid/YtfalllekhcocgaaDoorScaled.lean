/-
  The example of chapter 2 for Scaled: 35 times 1, at a tenth, is 4.
-/
import Derived.Test.YtfalllekhcocgaaDoorScale
namespace Go.Proofs.YtfalllekhcocgaaDoor
open Go.RowKit

theorem scale_35 (w : World) (g : Nat) (hR : Row w g 49 #[.int .u64 35, .int .u64 0, .int .u64 0, .int .u64 0]) :
    Calls Tryd.prog 44 #[.pointer (some ⟨g, 0, none⟩), .int .i64 1] w fun e w' =>
      e = .returned (.tuple #[]) ∧ Row w' g 49 #[.int .u64 4, .int .u64 0, .int .u64 0, .int .u64 0] ∧ Mod (One g) w w' := by
  have T1 := hid (fun w => show Calls Tryd.prog 49 #[.int .i64 1] w fun e w' => e = .returned (.int .u64 10) ∧ Below w.heap.size w w' from ten_any w 1 (by decide))
  have T0 := hid (fun w => show Calls Tryd.prog 49 #[.int .i64 0] w fun e w' => e = .returned (.int .u64 1) ∧ Below w.heap.size w w' from ten_any w 0 (by decide))
  have C1 := hid (fun w (h : Row w g 49 #[.int .u64 35, .int .u64 0, .int .u64 0, .int .u64 0]) => show Calls Tryd.prog 73 #[.pointer (some ⟨g, 0, none⟩), .int .u64 10] w fun e w' => e = .returned (.int .u64 5) ∧ Row w' g 49 #[.int .u64 3, .int .u64 0, .int .u64 0, .int .u64 0] ∧ Mod (One g) w w' from cut_small w g 35 10 (by decide) (by decide) h)
  have C2 := hid (fun w (h : Row w g 49 #[.int .u64 3, .int .u64 0, .int .u64 0, .int .u64 0]) => show Calls Tryd.prog 73 #[.pointer (some ⟨g, 0, none⟩), .int .u64 1] w fun e w' => e = .returned (.int .u64 0) ∧ Row w' g 49 #[.int .u64 3, .int .u64 0, .int .u64 0, .int .u64 0] ∧ Mod (One g) w w' from cut_small w g 3 1 (by decide) (by decide) h)
  have M1 := hid (fun w => show Calls Tryd.prog 48 #[.int .u64 0, .int .u64 10] w fun e w' => e = .returned (.tuple #[.int .u64 0, .int .u64 0]) ∧ w = w' from mul64 0 10 (by decide) (by decide) w)
  have M2 := hid (fun w => show Calls Tryd.prog 48 #[.int .u64 10, .int .u64 1] w fun e w' => e = .returned (.tuple #[.int .u64 0, .int .u64 10]) ∧ w = w' from mul64 10 1 (by decide) (by decide) w)
  have A1 : ∀ w, (callFunc 50 #[.int .u64 0, .int .u64 5, .int .u64 0]).run Tryd.prog w = .ok (.value (.tuple #[.int .u64 5, .int .u64 0])) w := fun w => add64 0 5 0 (by decide) (by decide) (by decide) (by decide) w
  have K := hid (fun w => show Calls Tryd.prog 74 #[.agg #[.int .u64 0, .int .u64 10], .agg #[.int .u64 0, .int .u64 10]] w fun e w' => e = .returned (.int .i64 0) ∧ Below w.heap.size w w' from compare_any w 10 10 (by unfold Big; omega) (by unfold Big; omega))
  have A2 := hid (fun w (h : Row w g 49 #[.int .u64 3, .int .u64 0, .int .u64 0, .int .u64 0]) => show Calls Tryd.prog 75 #[.pointer (some ⟨g, 0, none⟩), .int .u64 1] w fun e w' => e = .returned (.tuple #[]) ∧ Row w' g 49 #[.int .u64 4, .int .u64 0, .int .u64 0, .int .u64 0] ∧ Mod (One g) w w' from add_small w g 3 1 (by decide) (by decide) (by decide) h)
  have o0 : bits .or .u64 0 0 = 0 := by decide
  have n1 : bits .and .u64 3 1 = 1 := by decide
  have hg := hR.lt
  go_enter Tryd.func44, Tryd.ntmps44
  go_wp2_with fail
  refine Calls.mono (T1.out _) ?_; rintro e w1 ⟨rfl, hb1⟩
  go_wp2_with fail
  refine Calls.mono (T0.out _) ?_; rintro e w2 ⟨rfl, hb2⟩
  go_wp2_with fail
  have hR2 := (hR.below hb1 hR.lt).below hb2 (hR.below hb1 hR.lt).lt
  have hM2 := (Mod.of_below hb1 (One g)).same (Mod.of_below hb2 (One g))
  refine Calls.mono (C1.out _ hR2) ?_; rintro e w3 ⟨rfl, hR3, hm3⟩
  go_wp2_with fail
  refine Calls.mono (C2.out _ hR3) ?_; rintro e w4 ⟨rfl, hR4, hm4⟩
  have hM4 := (hM2.same hm3).same hm4
  clear hR hR2 hR3 hm3 hm4 hb1 hb2 hM2 hg
  go_wp2_with fail
  refine Calls.mono (M1.out _) ?_; rintro e w5 ⟨rfl, rfl⟩
  go_wp2_with fail
  refine Calls.mono (M2.out _) ?_; rintro e w5 ⟨rfl, rfl⟩
  go_wp2_with fail
  refine Calls.mono (K.out _) ?_; rintro e w6 ⟨rfl, hb6⟩
  have hR5 := hR4.alloc (.cells #[.int .u64 0, .int .u64 10] 54)
  have hM5 := hM4.alloc (.cells #[.int .u64 0, .int .u64 10] 54)
  have hR6 := hR5.below hb6 hR5.lt
  have hM6 := hM5.same (Mod.of_below hb6 (One g))
  have q0 := hR6.cell 0
  simp at q0
  clear hR4 hR5 hM4 hM5 hb6
  go_wp2_with fail
  refine Calls.mono (A2.out _ hR6) ?_; rintro e w7 ⟨rfl, hR7, hm7⟩
  go_wp2_with fail
  go_end0
  exact ⟨rfl, hR7, hM6.same hm7⟩

theorem scaled_35 (w : World) : Calls Tryd.prog 18 #[WV 35, WV 1, .int .i64 1] w fun e w' => e = .returned (.tuple #[WV 4, .int .i64 0]) ∧ Below w.heap.size w w' := by
  have P := hid (fun w => show Calls Tryd.prog 39 #[.agg #[.int .i64 0, .int .u64 35], .agg #[.int .i64 0, .int .u64 1]] w fun e w' =>
    ∃ (a b c d : Int) (s : Bool), e = .returned (.tuple #[.agg #[.int .u64 a, .int .u64 b, .int .u64 c, .int .u64 d], .bool s]) ∧ Word a ∧ Word b ∧ Word c ∧ Word d ∧ P4 a b c d = mag 35 * mag 1 ∧ s = (decide ((35 : Int) < 0) != decide ((1 : Int) < 0)) ∧ Below w.heap.size w w' from product_any w 35 1 (by unfold Fits; omega) (by unfold Fits; omega))
  have Sg := hid (fun w => show Calls Tryd.prog 40 #[.agg #[.int .u64 4, .int .u64 0, .int .u64 0, .int .u64 0], .bool false] w fun e w' => e = .returned (.tuple #[.agg #[.int .i64 0, .int .u64 4], .int .i64 0]) ∧ Below w.heap.size w w' from wsigned_any w 4 0 0 0 false (by unfold Word; omega) (by unfold Word; omega) (by unfold Word; omega) (by unfold Word; omega))
  show Calls Tryd.prog 18 #[.agg #[.int .i64 0, .int .u64 35], .agg #[.int .i64 0, .int .u64 1], .int .i64 1] w fun e w' => e = .returned (.tuple #[.agg #[.int .i64 0, .int .u64 4], .int .i64 0]) ∧ Below w.heap.size w w'
  have hE := (Row.new ((w.alloc (.cells #[.int .i64 0, .int .u64 35] 24)).alloc (.cells #[.int .i64 0, .int .u64 1] 24)) 24 #[.int .i64 0, .int .u64 0])
  have hU := (((Up.refl w).alloc (.cells #[.int .i64 0, .int .u64 35] 24)).alloc (.cells #[.int .i64 0, .int .u64 1] 24)).alloc (.cells #[.int .i64 0, .int .u64 0] 24)
  simp only [alloc_size] at hE
  go_enter Tryd.func18, Tryd.ntmps18
  go_wp2_with fail
  refine Calls.mono (P.out _) ?_; rintro e w1 ⟨a, b, c, d, s, rfl, ha, hb, hc, hd, hv, hs, hb1⟩
  have e1 : a = 35 ∧ b = 0 ∧ c = 0 ∧ d = 0 := by
    have : mag 35 * mag 1 = 35 := by decide
    rw [this] at hv
    unfold P4 at hv
    unfold Word at ha hb hc hd
    omega
  obtain ⟨rfl, rfl, rfl, rfl⟩ := e1
  obtain rfl : s = false := by rw [hs]; decide
  clear ha hb hc hd hv hs
  have hE1 := hE.below hb1 hE.lt
  have hU1 := hU.trans hb1
  have hl1 := hE1.lt
  go_wp2_with fail
  refine Calls.mono (scale_35 _ w1.heap.size (Row.new w1 49 #[.int .u64 35, .int .u64 0, .int .u64 0, .int .u64 0])) ?_; rintro e w2 ⟨rfl, hP2, hm2⟩
  have hE2 := (hE1.alloc (.cells #[.int .u64 35, .int .u64 0, .int .u64 0, .int .u64 0] 49)).mod hm2 (fun e => by unfold One at e; omega)
  have hU2 := (hU1.alloc (.cells #[.int .u64 35, .int .u64 0, .int .u64 0, .int .u64 0] 49)).one hm2 hU1.size
  have q0 := hP2.cell 0
  have q1 := hP2.cell 1
  have q2 := hP2.cell 2
  have q3 := hP2.cell 3
  simp at q0 q1 q2 q3
  clear hE hU hb1 hE1 hU1 hl1
  go_wp2_with fail
  refine Calls.mono (Sg.out _) ?_; rintro e w3 ⟨rfl, hb3⟩
  have hE3 := hE2.below hb3 hE2.lt
  have hU3 := hU2.trans hb3
  have c0 := hE3.cell 0
  have c1 := hE3.cell 1
  have f0 := hE3.frozen 0
  have f1 := hE3.frozen 1
  obtain ⟨d0, d1, _⟩ := hE3.two (.int .i64 0) (.int .u64 4)
  simp at c0 c1 f0 f1 d0 d1
  clear hE2 hU2 hb3 hP2 hm2 q0 q1 q2 q3
  go_wp2_with fail
  simp [bodyPost, results, Tryd.results18, go_sem, d0, d1]
  exact ((hU3.setCell (by omega) _).setCell (by omega) _).below
end Go.Proofs.YtfalllekhcocgaaDoor
