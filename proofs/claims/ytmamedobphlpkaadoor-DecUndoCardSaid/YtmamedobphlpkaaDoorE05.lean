/-
  Div
-/
import Derived.Test.YtmamedobphlpkaaDoorE02
set_option linter.unusedSimpArgs false
set_option linter.unusedVariables false

namespace Go.Proofs.YtmamedobphlpkaaDoor
open Go.RowKit

theorem div_by (w : World) (x y q r : Int) (hx : Fits x) (hy : Fits y) (h0 : y ≠ 0) (hq : Big q) (hr : Big r)
    (hby : ∀ w, Calls Tryd.prog 91 #[UV (mag x), UV (mag y)] w fun e w' => e = .returned (.tuple #[UV q, UV r]) ∧ Below w.heap.size w w')
    (hqf : Fits (if (decide (x < 0) != decide (y < 0)) = true then -q else q)) (hrf : Fits (if decide (x < 0) = true then -r else r)) :
    Calls Tryd.prog 73 #[WV x, WV y] w fun e w' =>
      e = .returned (.tuple #[WV (if (decide (x < 0) != decide (y < 0)) = true then -q else q), WV (if decide (x < 0) = true then -r else r), .int .i64 0]) ∧ Below w.heap.size w w' := by
  have hS := fun w => sign_any w y hy
  have hs0 : cmp3 y 0 ≠ 0 := by
    rcases cmp3_cases y 0 with ⟨h, e⟩ | ⟨h, e⟩ | ⟨h, e⟩
    · rw [e]; decide
    · rw [e]; decide
    · exact absurd h h0
  obtain ⟨sg, hsg⟩ : ∃ s, s = cmp3 y 0 := ⟨_, rfl⟩
  rw [← hsg] at hS hs0
  have hs0' : ¬ sg = 0 := hs0
  have hA := fun w => sized_any w x hx
  have hB := fun w => sized_any w y hy
  obtain ⟨sx, hsx⟩ : ∃ s, s = decide (x < 0) := ⟨_, rfl⟩
  obtain ⟨sy, hsy⟩ : ∃ s, s = decide (y < 0) := ⟨_, rfl⟩
  have hQ := fun w => signed_any w q (sx != sy) hq
  have hR := fun w => signed_any w r sx hr
  rw [← hsx] at hA hrf
  rw [← hsy] at hB
  rw [← hsx, ← hsy] at hqf
  rw [← hsx, ← hsy]
  rw [resV_fit hqf] at hQ
  rw [resV_fit hrf] at hR
  obtain ⟨xh, xl, e1, _, _, _⟩ := WV_of hx
  obtain ⟨yh, yl, e2, _, _, _⟩ := WV_of hy
  obtain ⟨mh, ml, e3, _, _, _⟩ := UV_of (mag_big hx)
  obtain ⟨nh, nl, e4, _, _, _⟩ := UV_of (mag_big hy)
  obtain ⟨qh, ql, e5, _, _, _⟩ := UV_of hq
  obtain ⟨rh, rl, e6, _, _, _⟩ := UV_of hr
  obtain ⟨oh, ol, e7, _, _, _⟩ := WV_of hqf
  obtain ⟨uh, ul, e8, _, _, _⟩ := WV_of hrf
  rw [e2] at hS
  rw [e1, e3] at hA
  rw [e2, e4] at hB
  rw [e3, e4, e5, e6] at hby
  rw [e5, e7] at hQ
  rw [e6, e8] at hR
  rw [e1, e2, e7, e8]
  have HS := hid hS
  have HA := hid hA
  have HB := hid hB
  have HBY := hid hby
  have HQ := hid hQ
  have HR := hid hR
  clear hS hA hB hby hQ hR e1 e2 e3 e4 e5 e6 e7 e8 hqf hrf hsx hsy hsg hs0
  have R_a := (((Row.new w 24 #[.int .i64 xh, .int .u64 xl]).alloc (.cells #[.int .i64 yh, .int .u64 yl] 24)).alloc (.cells #[.int .i64 0, .int .u64 0] 24)).alloc (.cells #[.int .i64 0, .int .u64 0] 24)
  have R_b := ((Row.new (w.alloc (.cells #[.int .i64 xh, .int .u64 xl] 24)) 24 #[.int .i64 yh, .int .u64 yl]).alloc (.cells #[.int .i64 0, .int .u64 0] 24)).alloc (.cells #[.int .i64 0, .int .u64 0] 24)
  have R_q := (Row.new ((w.alloc (.cells #[.int .i64 xh, .int .u64 xl] 24)).alloc (.cells #[.int .i64 yh, .int .u64 yl] 24)) 24 #[.int .i64 0, .int .u64 0]).alloc (.cells #[.int .i64 0, .int .u64 0] 24)
  have R_r := Row.new (((w.alloc (.cells #[.int .i64 xh, .int .u64 xl] 24)).alloc (.cells #[.int .i64 yh, .int .u64 yl] 24)).alloc (.cells #[.int .i64 0, .int .u64 0] 24)) 24 #[.int .i64 0, .int .u64 0]
  have HU := ((((Up.refl w).alloc (.cells #[.int .i64 xh, .int .u64 xl] 24)).alloc (.cells #[.int .i64 yh, .int .u64 yl] 24)).alloc (.cells #[.int .i64 0, .int .u64 0] 24)).alloc (.cells #[.int .i64 0, .int .u64 0] 24)
  simp only [alloc_size] at R_b R_q R_r
  have R_a := (((Row.new w 24 #[.int .i64 xh, .int .u64 xl]).alloc (.cells #[.int .i64 yh, .int .u64 yl] 24)).alloc (.cells #[.int .i64 0, .int .u64 0] 24)).alloc (.cells #[.int .i64 0, .int .u64 0] 24)
  have R_b := ((Row.new (w.alloc (.cells #[.int .i64 xh, .int .u64 xl] 24)) 24 #[.int .i64 yh, .int .u64 yl]).alloc (.cells #[.int .i64 0, .int .u64 0] 24)).alloc (.cells #[.int .i64 0, .int .u64 0] 24)
  have R_q := (Row.new ((w.alloc (.cells #[.int .i64 xh, .int .u64 xl] 24)).alloc (.cells #[.int .i64 yh, .int .u64 yl] 24)) 24 #[.int .i64 0, .int .u64 0]).alloc (.cells #[.int .i64 0, .int .u64 0] 24)
  have R_r := Row.new (((w.alloc (.cells #[.int .i64 xh, .int .u64 xl] 24)).alloc (.cells #[.int .i64 yh, .int .u64 yl] 24)).alloc (.cells #[.int .i64 0, .int .u64 0] 24)) 24 #[.int .i64 0, .int .u64 0]
  have HU := ((((Up.refl w).alloc (.cells #[.int .i64 xh, .int .u64 xl] 24)).alloc (.cells #[.int .i64 yh, .int .u64 yl] 24)).alloc (.cells #[.int .i64 0, .int .u64 0] 24)).alloc (.cells #[.int .i64 0, .int .u64 0] 24)
  simp only [alloc_size] at R_b R_q R_r
  have R_a := (((Row.new w 24 #[.int .i64 xh, .int .u64 xl]).alloc (.cells #[.int .i64 yh, .int .u64 yl] 24)).alloc (.cells #[.int .i64 0, .int .u64 0] 24)).alloc (.cells #[.int .i64 0, .int .u64 0] 24)
  have R_b := ((Row.new (w.alloc (.cells #[.int .i64 xh, .int .u64 xl] 24)) 24 #[.int .i64 yh, .int .u64 yl]).alloc (.cells #[.int .i64 0, .int .u64 0] 24)).alloc (.cells #[.int .i64 0, .int .u64 0] 24)
  have R_q := (Row.new ((w.alloc (.cells #[.int .i64 xh, .int .u64 xl] 24)).alloc (.cells #[.int .i64 yh, .int .u64 yl] 24)) 24 #[.int .i64 0, .int .u64 0]).alloc (.cells #[.int .i64 0, .int .u64 0] 24)
  have R_r := Row.new (((w.alloc (.cells #[.int .i64 xh, .int .u64 xl] 24)).alloc (.cells #[.int .i64 yh, .int .u64 yl] 24)).alloc (.cells #[.int .i64 0, .int .u64 0] 24)) 24 #[.int .i64 0, .int .u64 0]
  have HU := ((((Up.refl w).alloc (.cells #[.int .i64 xh, .int .u64 xl] 24)).alloc (.cells #[.int .i64 yh, .int .u64 yl] 24)).alloc (.cells #[.int .i64 0, .int .u64 0] 24)).alloc (.cells #[.int .i64 0, .int .u64 0] 24)
  simp only [alloc_size] at R_b R_q R_r
  have R_a := (((Row.new w 24 #[.int .i64 xh, .int .u64 xl]).alloc (.cells #[.int .i64 yh, .int .u64 yl] 24)).alloc (.cells #[.int .i64 0, .int .u64 0] 24)).alloc (.cells #[.int .i64 0, .int .u64 0] 24)
  have R_b := ((Row.new (w.alloc (.cells #[.int .i64 xh, .int .u64 xl] 24)) 24 #[.int .i64 yh, .int .u64 yl]).alloc (.cells #[.int .i64 0, .int .u64 0] 24)).alloc (.cells #[.int .i64 0, .int .u64 0] 24)
  have R_q := (Row.new ((w.alloc (.cells #[.int .i64 xh, .int .u64 xl] 24)).alloc (.cells #[.int .i64 yh, .int .u64 yl] 24)) 24 #[.int .i64 0, .int .u64 0]).alloc (.cells #[.int .i64 0, .int .u64 0] 24)
  have R_r := Row.new (((w.alloc (.cells #[.int .i64 xh, .int .u64 xl] 24)).alloc (.cells #[.int .i64 yh, .int .u64 yl] 24)).alloc (.cells #[.int .i64 0, .int .u64 0] 24)) 24 #[.int .i64 0, .int .u64 0]
  have HU := ((((Up.refl w).alloc (.cells #[.int .i64 xh, .int .u64 xl] 24)).alloc (.cells #[.int .i64 yh, .int .u64 yl] 24)).alloc (.cells #[.int .i64 0, .int .u64 0] 24)).alloc (.cells #[.int .i64 0, .int .u64 0] 24)
  simp only [alloc_size] at R_b R_q R_r
  go_enter Tryd.func73, Tryd.ntmps73
  go_wp2_with fail
  refine Calls.mono (HS.out _) ?_; rintro e w1 ⟨rfl, hb_w1⟩
  have z_w1 := hb_w1.size
  try simp only [alloc_size, setCell_size] at z_w1
  replace R_a := R_a.mod (Mod.of_below hb_w1 Nil) (fun hf => hf)
  replace R_b := R_b.mod (Mod.of_below hb_w1 Nil) (fun hf => hf)
  replace R_q := R_q.mod (Mod.of_below hb_w1 Nil) (fun hf => hf)
  replace R_r := R_r.mod (Mod.of_below hb_w1 Nil) (fun hf => hf)
  replace HU := HU.trans hb_w1
  clear hb_w1
  have c1_0 := R_a.cell 0
  have c1_1 := R_a.cell 1
  simp at c1_0 c1_1
  go_wp2_with fail
  clear c1_0 c1_1
  refine Calls.mono (HA.out _) ?_; rintro e w2 ⟨rfl, hb_w2⟩
  have z_w2 := hb_w2.size
  try simp only [alloc_size, setCell_size] at z_w2
  replace R_a := R_a.mod (Mod.of_below hb_w2 Nil) (fun hf => hf)
  replace R_b := R_b.mod (Mod.of_below hb_w2 Nil) (fun hf => hf)
  replace R_q := R_q.mod (Mod.of_below hb_w2 Nil) (fun hf => hf)
  replace R_r := R_r.mod (Mod.of_below hb_w2 Nil) (fun hf => hf)
  replace HU := HU.trans hb_w2
  clear hb_w2
  have R_m := Row.new (w2) 79 #[.int .u64 mh, .int .u64 ml]
  replace R_a := R_a.alloc (.cells #[.int .u64 mh, .int .u64 ml] 79)
  replace R_b := R_b.alloc (.cells #[.int .u64 mh, .int .u64 ml] 79)
  replace R_q := R_q.alloc (.cells #[.int .u64 mh, .int .u64 ml] 79)
  replace R_r := R_r.alloc (.cells #[.int .u64 mh, .int .u64 ml] 79)
  replace HU := HU.alloc (.cells #[.int .u64 mh, .int .u64 ml] 79)
  have c2_0 := R_b.cell 0
  have c2_1 := R_b.cell 1
  simp at c2_0 c2_1
  go_wp2_with fail
  clear c2_0 c2_1
  refine Calls.mono (HB.out _) ?_; rintro e w3 ⟨rfl, hb_w3⟩
  have z_w3 := hb_w3.size
  try simp only [alloc_size, setCell_size] at z_w3
  replace R_a := R_a.mod (Mod.of_below hb_w3 Nil) (fun hf => hf)
  replace R_b := R_b.mod (Mod.of_below hb_w3 Nil) (fun hf => hf)
  replace R_q := R_q.mod (Mod.of_below hb_w3 Nil) (fun hf => hf)
  replace R_r := R_r.mod (Mod.of_below hb_w3 Nil) (fun hf => hf)
  replace R_m := R_m.mod (Mod.of_below hb_w3 Nil) (fun hf => hf)
  replace HU := HU.trans hb_w3
  clear hb_w3
  have R_n := Row.new (w3) 79 #[.int .u64 nh, .int .u64 nl]
  replace R_a := R_a.alloc (.cells #[.int .u64 nh, .int .u64 nl] 79)
  replace R_b := R_b.alloc (.cells #[.int .u64 nh, .int .u64 nl] 79)
  replace R_q := R_q.alloc (.cells #[.int .u64 nh, .int .u64 nl] 79)
  replace R_r := R_r.alloc (.cells #[.int .u64 nh, .int .u64 nl] 79)
  replace R_m := R_m.alloc (.cells #[.int .u64 nh, .int .u64 nl] 79)
  replace HU := HU.alloc (.cells #[.int .u64 nh, .int .u64 nl] 79)
  have c3_0 := R_m.cell 0
  have c3_1 := R_m.cell 1
  simp at c3_0 c3_1
  go_wp2_with fail
  clear c3_0 c3_1
  refine Calls.mono (HBY.out _) ?_; rintro e w4 ⟨rfl, hb_w4⟩
  have z_w4 := hb_w4.size
  try simp only [alloc_size, setCell_size] at z_w4
  replace R_a := R_a.mod (Mod.of_below hb_w4 Nil) (fun hf => hf)
  replace R_b := R_b.mod (Mod.of_below hb_w4 Nil) (fun hf => hf)
  replace R_q := R_q.mod (Mod.of_below hb_w4 Nil) (fun hf => hf)
  replace R_r := R_r.mod (Mod.of_below hb_w4 Nil) (fun hf => hf)
  replace R_m := R_m.mod (Mod.of_below hb_w4 Nil) (fun hf => hf)
  replace R_n := R_n.mod (Mod.of_below hb_w4 Nil) (fun hf => hf)
  replace HU := HU.trans hb_w4
  clear hb_w4
  have R_o := Row.new (w4) 79 #[.int .u64 qh, .int .u64 ql]
  replace R_a := R_a.alloc (.cells #[.int .u64 qh, .int .u64 ql] 79)
  replace R_b := R_b.alloc (.cells #[.int .u64 qh, .int .u64 ql] 79)
  replace R_q := R_q.alloc (.cells #[.int .u64 qh, .int .u64 ql] 79)
  replace R_r := R_r.alloc (.cells #[.int .u64 qh, .int .u64 ql] 79)
  replace R_m := R_m.alloc (.cells #[.int .u64 qh, .int .u64 ql] 79)
  replace R_n := R_n.alloc (.cells #[.int .u64 qh, .int .u64 ql] 79)
  replace HU := HU.alloc (.cells #[.int .u64 qh, .int .u64 ql] 79)
  have R_t := Row.new ((w4).alloc (.cells #[.int .u64 qh, .int .u64 ql] 79)) 79 #[.int .u64 rh, .int .u64 rl]
  have hz : ((w4).alloc (.cells #[.int .u64 qh, .int .u64 ql] 79)).heap.size = w4.heap.size + 1 := by simp only [alloc_size, setCell_size]
  rw [hz] at R_t
  clear hz
  replace R_a := R_a.alloc (.cells #[.int .u64 rh, .int .u64 rl] 79)
  replace R_b := R_b.alloc (.cells #[.int .u64 rh, .int .u64 rl] 79)
  replace R_q := R_q.alloc (.cells #[.int .u64 rh, .int .u64 rl] 79)
  replace R_r := R_r.alloc (.cells #[.int .u64 rh, .int .u64 rl] 79)
  replace R_m := R_m.alloc (.cells #[.int .u64 rh, .int .u64 rl] 79)
  replace R_n := R_n.alloc (.cells #[.int .u64 rh, .int .u64 rl] 79)
  replace R_o := R_o.alloc (.cells #[.int .u64 rh, .int .u64 rl] 79)
  replace HU := HU.alloc (.cells #[.int .u64 rh, .int .u64 rl] 79)
  go_wp2_with fail
  refine Calls.mono (HQ.out _) ?_; rintro e w5 ⟨rfl, hb_w5⟩
  have z_w5 := hb_w5.size
  try simp only [alloc_size, setCell_size] at z_w5
  replace R_a := R_a.mod (Mod.of_below hb_w5 Nil) (fun hf => hf)
  replace R_b := R_b.mod (Mod.of_below hb_w5 Nil) (fun hf => hf)
  replace R_q := R_q.mod (Mod.of_below hb_w5 Nil) (fun hf => hf)
  replace R_r := R_r.mod (Mod.of_below hb_w5 Nil) (fun hf => hf)
  replace R_m := R_m.mod (Mod.of_below hb_w5 Nil) (fun hf => hf)
  replace R_n := R_n.mod (Mod.of_below hb_w5 Nil) (fun hf => hf)
  replace R_o := R_o.mod (Mod.of_below hb_w5 Nil) (fun hf => hf)
  replace R_t := R_t.mod (Mod.of_below hb_w5 Nil) (fun hf => hf)
  replace HU := HU.trans hb_w5
  clear hb_w5
  have c4_0 := R_q.cell 0
  have c4_1 := R_q.cell 1
  have f4_0 := R_q.frozen 0
  have f4_1 := R_q.frozen 1
  replace R_q := R_q.set 0 (.int .i64 oh)
  try simp only [List.setIfInBounds_toArray, List.set_cons_zero, List.set_cons_succ] at R_q
  replace R_a := R_a.far (p := ⟨w.heap.size + 1 + 1, 0, none⟩) (by first | (simp; done) | (simp; omega) | omega) (.int .i64 oh)
  replace R_b := R_b.far (p := ⟨w.heap.size + 1 + 1, 0, none⟩) (by first | (simp; done) | (simp; omega) | omega) (.int .i64 oh)
  replace R_r := R_r.far (p := ⟨w.heap.size + 1 + 1, 0, none⟩) (by first | (simp; done) | (simp; omega) | omega) (.int .i64 oh)
  replace R_m := R_m.far (p := ⟨w.heap.size + 1 + 1, 0, none⟩) (by first | (simp; done) | (simp; omega) | omega) (.int .i64 oh)
  replace R_n := R_n.far (p := ⟨w.heap.size + 1 + 1, 0, none⟩) (by first | (simp; done) | (simp; omega) | omega) (.int .i64 oh)
  replace R_o := R_o.far (p := ⟨w.heap.size + 1 + 1, 0, none⟩) (by first | (simp; done) | (simp; omega) | omega) (.int .i64 oh)
  replace R_t := R_t.far (p := ⟨w.heap.size + 1 + 1, 0, none⟩) (by first | (simp; done) | (simp; omega) | omega) (.int .i64 oh)
  replace HU := HU.setCell (p := w.heap.size + 1 + 1) (i := 0) (by omega) (.int .i64 oh)
  have c5_0 := R_q.cell 0
  have c5_1 := R_q.cell 1
  have f5_0 := R_q.frozen 0
  have f5_1 := R_q.frozen 1
  replace R_q := R_q.set 1 (.int .u64 ol)
  try simp only [List.setIfInBounds_toArray, List.set_cons_zero, List.set_cons_succ] at R_q
  replace R_a := R_a.far (p := ⟨w.heap.size + 1 + 1, 1, none⟩) (by first | (simp; done) | (simp; omega) | omega) (.int .u64 ol)
  replace R_b := R_b.far (p := ⟨w.heap.size + 1 + 1, 1, none⟩) (by first | (simp; done) | (simp; omega) | omega) (.int .u64 ol)
  replace R_r := R_r.far (p := ⟨w.heap.size + 1 + 1, 1, none⟩) (by first | (simp; done) | (simp; omega) | omega) (.int .u64 ol)
  replace R_m := R_m.far (p := ⟨w.heap.size + 1 + 1, 1, none⟩) (by first | (simp; done) | (simp; omega) | omega) (.int .u64 ol)
  replace R_n := R_n.far (p := ⟨w.heap.size + 1 + 1, 1, none⟩) (by first | (simp; done) | (simp; omega) | omega) (.int .u64 ol)
  replace R_o := R_o.far (p := ⟨w.heap.size + 1 + 1, 1, none⟩) (by first | (simp; done) | (simp; omega) | omega) (.int .u64 ol)
  replace R_t := R_t.far (p := ⟨w.heap.size + 1 + 1, 1, none⟩) (by first | (simp; done) | (simp; omega) | omega) (.int .u64 ol)
  replace HU := HU.setCell (p := w.heap.size + 1 + 1) (i := 1) (by omega) (.int .u64 ol)
  have c6_0 := R_q.cell 0
  have c6_1 := R_q.cell 1
  have f6_0 := R_q.frozen 0
  have f6_1 := R_q.frozen 1
  have c7_0 := R_t.cell 0
  have c7_1 := R_t.cell 1
  simp at c4_0 c4_1 f4_0 f4_1 c5_0 c5_1 f5_0 f5_1 c6_0 c6_1 f6_0 f6_1 c7_0 c7_1
  go_wp2_with fail
  clear c4_0 c4_1 f4_0 f4_1 c5_0 c5_1 f5_0 f5_1 c6_0 c6_1 f6_0 f6_1 c7_0 c7_1
  refine Calls.mono (HR.out _) ?_; rintro e w6 ⟨rfl, hb_w6⟩
  have z_w6 := hb_w6.size
  try simp only [alloc_size, setCell_size] at z_w6
  replace R_a := R_a.mod (Mod.of_below hb_w6 Nil) (fun hf => hf)
  replace R_b := R_b.mod (Mod.of_below hb_w6 Nil) (fun hf => hf)
  replace R_q := R_q.mod (Mod.of_below hb_w6 Nil) (fun hf => hf)
  replace R_r := R_r.mod (Mod.of_below hb_w6 Nil) (fun hf => hf)
  replace R_m := R_m.mod (Mod.of_below hb_w6 Nil) (fun hf => hf)
  replace R_n := R_n.mod (Mod.of_below hb_w6 Nil) (fun hf => hf)
  replace R_o := R_o.mod (Mod.of_below hb_w6 Nil) (fun hf => hf)
  replace R_t := R_t.mod (Mod.of_below hb_w6 Nil) (fun hf => hf)
  replace HU := HU.trans hb_w6
  clear hb_w6
  have c8_0 := R_r.cell 0
  have c8_1 := R_r.cell 1
  have f8_0 := R_r.frozen 0
  have f8_1 := R_r.frozen 1
  replace R_r := R_r.set 0 (.int .i64 uh)
  try simp only [List.setIfInBounds_toArray, List.set_cons_zero, List.set_cons_succ] at R_r
  replace R_a := R_a.far (p := ⟨w.heap.size + 1 + 1 + 1, 0, none⟩) (by first | (simp; done) | (simp; omega) | omega) (.int .i64 uh)
  replace R_b := R_b.far (p := ⟨w.heap.size + 1 + 1 + 1, 0, none⟩) (by first | (simp; done) | (simp; omega) | omega) (.int .i64 uh)
  replace R_q := R_q.far (p := ⟨w.heap.size + 1 + 1 + 1, 0, none⟩) (by first | (simp; done) | (simp; omega) | omega) (.int .i64 uh)
  replace R_m := R_m.far (p := ⟨w.heap.size + 1 + 1 + 1, 0, none⟩) (by first | (simp; done) | (simp; omega) | omega) (.int .i64 uh)
  replace R_n := R_n.far (p := ⟨w.heap.size + 1 + 1 + 1, 0, none⟩) (by first | (simp; done) | (simp; omega) | omega) (.int .i64 uh)
  replace R_o := R_o.far (p := ⟨w.heap.size + 1 + 1 + 1, 0, none⟩) (by first | (simp; done) | (simp; omega) | omega) (.int .i64 uh)
  replace R_t := R_t.far (p := ⟨w.heap.size + 1 + 1 + 1, 0, none⟩) (by first | (simp; done) | (simp; omega) | omega) (.int .i64 uh)
  replace HU := HU.setCell (p := w.heap.size + 1 + 1 + 1) (i := 0) (by omega) (.int .i64 uh)
  have c9_0 := R_r.cell 0
  have c9_1 := R_r.cell 1
  have f9_0 := R_r.frozen 0
  have f9_1 := R_r.frozen 1
  replace R_r := R_r.set 1 (.int .u64 ul)
  try simp only [List.setIfInBounds_toArray, List.set_cons_zero, List.set_cons_succ] at R_r
  replace R_a := R_a.far (p := ⟨w.heap.size + 1 + 1 + 1, 1, none⟩) (by first | (simp; done) | (simp; omega) | omega) (.int .u64 ul)
  replace R_b := R_b.far (p := ⟨w.heap.size + 1 + 1 + 1, 1, none⟩) (by first | (simp; done) | (simp; omega) | omega) (.int .u64 ul)
  replace R_q := R_q.far (p := ⟨w.heap.size + 1 + 1 + 1, 1, none⟩) (by first | (simp; done) | (simp; omega) | omega) (.int .u64 ul)
  replace R_m := R_m.far (p := ⟨w.heap.size + 1 + 1 + 1, 1, none⟩) (by first | (simp; done) | (simp; omega) | omega) (.int .u64 ul)
  replace R_n := R_n.far (p := ⟨w.heap.size + 1 + 1 + 1, 1, none⟩) (by first | (simp; done) | (simp; omega) | omega) (.int .u64 ul)
  replace R_o := R_o.far (p := ⟨w.heap.size + 1 + 1 + 1, 1, none⟩) (by first | (simp; done) | (simp; omega) | omega) (.int .u64 ul)
  replace R_t := R_t.far (p := ⟨w.heap.size + 1 + 1 + 1, 1, none⟩) (by first | (simp; done) | (simp; omega) | omega) (.int .u64 ul)
  replace HU := HU.setCell (p := w.heap.size + 1 + 1 + 1) (i := 1) (by omega) (.int .u64 ul)
  have c10_0 := R_r.cell 0
  have c10_1 := R_r.cell 1
  have f10_0 := R_r.frozen 0
  have f10_1 := R_r.frozen 1
  simp at c8_0 c8_1 f8_0 f8_1 c9_0 c9_1 f9_0 f9_1 c10_0 c10_1 f10_0 f10_1
  go_wp2_with fail
  obtain ⟨V, h_V⟩ : ∃ V, V = ((w6).setCell ⟨w.heap.size + 1 + 1 + 1, 0, none⟩ (.int .i64 uh)).setCell ⟨w.heap.size + 1 + 1 + 1, 1, none⟩ (.int .u64 ul) := ⟨_, rfl⟩
  rw [← h_V]
  rw [← h_V] at R_a R_b R_q R_r R_m R_n R_o R_t HU
  have z_V : V.heap.size = _ := congrArg (fun a => a.heap.size) h_V
  try simp only [alloc_size, setCell_size] at z_V
  clear h_V
  clear c8_0 c8_1 f8_0 f8_1 c9_0 c9_1 f9_0 f9_1 c10_0 c10_1 f10_0 f10_1
  have QA : Row (V) (w.heap.size + 1 + 1) 24 #[.int .i64 oh, .int .u64 ol] := R_q
  have SA : Row (V) (w.heap.size + 1 + 1 + 1) 24 #[.int .i64 uh, .int .u64 ul] := R_r
  obtain ⟨yA0, yA1, yA2⟩ := QA.two (.int .i64 oh) (.int .u64 ol)
  have TA := (SA.far (p := ⟨w.heap.size + 1 + 1, 0, none⟩) (by first | (simp; done) | (simp; omega) | omega) (.int .i64 oh)).far (p := ⟨w.heap.size + 1 + 1, 1, none⟩) (by first | (simp; done) | (simp; omega) | omega) (.int .u64 ol)
  obtain ⟨zA0, zA1, zA2⟩ := TA.two (.int .i64 uh) (.int .u64 ul)
  have PA := ((((QA.set 0 (.int .i64 oh)).set 1 (.int .u64 ol)).far (p := ⟨w.heap.size + 1 + 1 + 1, 0, none⟩) (by first | (simp; done) | (simp; omega) | omega) (.int .i64 uh)).far (p := ⟨w.heap.size + 1 + 1 + 1, 1, none⟩) (by first | (simp; done) | (simp; omega) | omega) (.int .u64 ul))
  have aA0 := QA.cell 0
  have bA0 := SA.cell 0
  have cA0 := TA.cell 0
  have dA0 := PA.cell 0
  have faA0 := QA.frozen 0
  have fbA0 := SA.frozen 0
  have fcA0 := TA.frozen 0
  have aA1 := QA.cell 1
  have bA1 := SA.cell 1
  have cA1 := TA.cell 1
  have dA1 := PA.cell 1
  have faA1 := QA.frozen 1
  have fbA1 := SA.frozen 1
  have fcA1 := TA.frozen 1
  have QB : Row (V.drew) (w.heap.size + 1 + 1) 24 #[.int .i64 oh, .int .u64 ol] := R_q.drew
  have SB : Row (V.drew) (w.heap.size + 1 + 1 + 1) 24 #[.int .i64 uh, .int .u64 ul] := R_r.drew
  obtain ⟨yB0, yB1, yB2⟩ := QB.two (.int .i64 oh) (.int .u64 ol)
  have TB := (SB.far (p := ⟨w.heap.size + 1 + 1, 0, none⟩) (by first | (simp; done) | (simp; omega) | omega) (.int .i64 oh)).far (p := ⟨w.heap.size + 1 + 1, 1, none⟩) (by first | (simp; done) | (simp; omega) | omega) (.int .u64 ol)
  obtain ⟨zB0, zB1, zB2⟩ := TB.two (.int .i64 uh) (.int .u64 ul)
  have PB := ((((QB.set 0 (.int .i64 oh)).set 1 (.int .u64 ol)).far (p := ⟨w.heap.size + 1 + 1 + 1, 0, none⟩) (by first | (simp; done) | (simp; omega) | omega) (.int .i64 uh)).far (p := ⟨w.heap.size + 1 + 1 + 1, 1, none⟩) (by first | (simp; done) | (simp; omega) | omega) (.int .u64 ul))
  have aB0 := QB.cell 0
  have bB0 := SB.cell 0
  have cB0 := TB.cell 0
  have dB0 := PB.cell 0
  have faB0 := QB.frozen 0
  have fbB0 := SB.frozen 0
  have fcB0 := TB.frozen 0
  have aB1 := QB.cell 1
  have bB1 := SB.cell 1
  have cB1 := TB.cell 1
  have dB1 := PB.cell 1
  have faB1 := QB.frozen 1
  have fbB1 := SB.frozen 1
  have fcB1 := TB.frozen 1
  simp at aA0 bA0 cA0 dA0 faA0 fbA0 fcA0 aA1 bA1 cA1 dA1 faA1 fbA1 fcA1 aB0 bB0 cB0 dB0 faB0 fbB0 fcB0 aB1 bB1 cB1 dB1 faB1 fbB1 fcB1
  have HyA0 := hid yA0
  have HyA1 := hid yA1
  have HzA0 := hid zA0
  have HzA1 := hid zA1
  have HyB0 := hid yB0
  have HyB1 := hid yB1
  have HzB0 := hid zB0
  have HzB1 := hid zB1
  have HE := (((HU.setCell (p := w.heap.size + 1 + 1) (i := 0) (by omega) (.int .i64 oh)).setCell (p := w.heap.size + 1 + 1) (i := 1) (by omega) (.int .u64 ol)).setCell (p := w.heap.size + 1 + 1 + 1) (i := 0) (by omega) (.int .i64 uh)).setCell (p := w.heap.size + 1 + 1 + 1) (i := 1) (by omega) (.int .u64 ul)
  clear QA SA TA PA QB SB TB PB
  go_region
  all_goals
    go_wp2_with fail
    simp [bodyPost, results, Tryd.results73, go_sem, HyA0.out, HyA1.out, HzA0.out, HzA1.out]
    first | exact HE.below | exact ⟨HE.below.os, HE.below.tape, HE.below.output, HE.below.size, HE.below.block⟩
end Go.Proofs.YtmamedobphlpkaaDoor
