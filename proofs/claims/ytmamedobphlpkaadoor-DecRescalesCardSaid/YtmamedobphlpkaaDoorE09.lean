/-
  DivAny · DivC · Law · Fmt
-/
import Derived.Test.YtmamedobphlpkaaDoorE01
import Derived.Test.YtmamedobphlpkaaDoorE04
import Derived.Test.YtmamedobphlpkaaDoorE05
import Derived.Test.YtmamedobphlpkaaDoorRows
import Derived.ProofKit
import Derived.OpenShut
import Derived.JoinedCond
import Derived.Shelf.Strconv.Itoa1
import Derived.Shelf.Strconv.Itoa2
import Derived.Lib.ItoaMem
set_option linter.unusedSimpArgs false
set_option linter.unusedVariables false

namespace Go.Proofs.YtmamedobphlpkaaDoor
open Go.RowKit

set_option maxRecDepth 100000 in
set_option maxHeartbeats 2000000 in
theorem div_zero (w : World) (x : Int) : Calls Tryd.prog 73 #[WV x, WV 0] w fun e w' => e = .returned (.tuple #[WV 0, WV 0, .int .i64 22]) ∧ Below w.heap.size w w' := by
  have hS := fun w => sign_any w 0 (by decide)
  rw [cmp3_eq] at hS
  have e0 : WV 0 = .agg #[.int .i64 0, .int .u64 0] := by kernel_rfl
  obtain ⟨xh, xl, e1⟩ : ∃ hi lo : Int, WV x = .agg #[.int .i64 hi, .int .u64 lo] := ⟨_, _, rfl⟩
  rw [e0] at hS
  rw [e0, e1]
  have HS := hid hS
  clear hS e0 e1
  have R_a := (((Row.new w 24 #[.int .i64 xh, .int .u64 xl]).alloc (.cells #[.int .i64 0, .int .u64 0] 24)).alloc (.cells #[.int .i64 0, .int .u64 0] 24)).alloc (.cells #[.int .i64 0, .int .u64 0] 24)
  have R_b := ((Row.new (w.alloc (.cells #[.int .i64 xh, .int .u64 xl] 24)) 24 #[.int .i64 0, .int .u64 0]).alloc (.cells #[.int .i64 0, .int .u64 0] 24)).alloc (.cells #[.int .i64 0, .int .u64 0] 24)
  have R_q := (Row.new ((w.alloc (.cells #[.int .i64 xh, .int .u64 xl] 24)).alloc (.cells #[.int .i64 0, .int .u64 0] 24)) 24 #[.int .i64 0, .int .u64 0]).alloc (.cells #[.int .i64 0, .int .u64 0] 24)
  have R_r := Row.new (((w.alloc (.cells #[.int .i64 xh, .int .u64 xl] 24)).alloc (.cells #[.int .i64 0, .int .u64 0] 24)).alloc (.cells #[.int .i64 0, .int .u64 0] 24)) 24 #[.int .i64 0, .int .u64 0]
  have HU := ((((Up.refl w).alloc (.cells #[.int .i64 xh, .int .u64 xl] 24)).alloc (.cells #[.int .i64 0, .int .u64 0] 24)).alloc (.cells #[.int .i64 0, .int .u64 0] 24)).alloc (.cells #[.int .i64 0, .int .u64 0] 24)
  simp only [alloc_size] at R_b R_q R_r
  go_enter Tryd.func73, Tryd.ntmps73
  go_wp2_with fail
  refine Calls.mono (HS.out _) ?_; rintro e w1 ⟨rfl, hb_w1⟩
  have z_w1 := hb_w1.size
  try simp only [alloc_size, setCell_size] at z_w1
  replace R_a := R_a.mod (Mod.of_below hb_w1 Nil) (fun hf => hf)
  replace R_b := R_b.mod (Mod.of_below hb_w1 Nil) (fun hf => hf)
  replace R_q := R_q.mod (Mod.of_below hb_w1 Nil) (fun hf => hf)
  replace R_r := R_r.mod (Mod.of_below hb_w1 Nil) (fun hf => hf)
  replace HU := HU.trans hb_w1
  clear hb_w1
  go_wp2_with fail
  obtain ⟨V, h_V⟩ : ∃ V, V = w1 := ⟨_, rfl⟩
  rw [← h_V]
  rw [← h_V] at R_a R_b R_q R_r HU
  have z_V : V.heap.size = _ := congrArg (fun a => a.heap.size) h_V
  try simp only [alloc_size, setCell_size] at z_V
  clear h_V
  have QA : Row (V) (w.heap.size + 1 + 1) 24 #[.int .i64 0, .int .u64 0] := R_q
  have SA : Row (V) (w.heap.size + 1 + 1 + 1) 24 #[.int .i64 0, .int .u64 0] := R_r
  obtain ⟨yA0, yA1, yA2⟩ := QA.two (.int .i64 0) (.int .u64 0)
  have TA := (SA.far (p := ⟨w.heap.size + 1 + 1, 0, none⟩) (by first | (simp; done) | (simp; omega) | omega) (.int .i64 0)).far (p := ⟨w.heap.size + 1 + 1, 1, none⟩) (by first | (simp; done) | (simp; omega) | omega) (.int .u64 0)
  obtain ⟨zA0, zA1, zA2⟩ := TA.two (.int .i64 0) (.int .u64 0)
  have PA := ((((QA.set 0 (.int .i64 0)).set 1 (.int .u64 0)).far (p := ⟨w.heap.size + 1 + 1 + 1, 0, none⟩) (by first | (simp; done) | (simp; omega) | omega) (.int .i64 0)).far (p := ⟨w.heap.size + 1 + 1 + 1, 1, none⟩) (by first | (simp; done) | (simp; omega) | omega) (.int .u64 0))
  have aA0 := QA.cell 0
  have bA0 := SA.cell 0
  have cA0 := TA.cell 0
  have dA0 := PA.cell 0
  have faA0 := QA.frozen 0
  have fbA0 := SA.frozen 0
  have fcA0 := TA.frozen 0
  have aA1 := QA.cell 1
  have bA1 := SA.cell 1
  have cA1 := TA.cell 1
  have dA1 := PA.cell 1
  have faA1 := QA.frozen 1
  have fbA1 := SA.frozen 1
  have fcA1 := TA.frozen 1
  have QB : Row (V.drew) (w.heap.size + 1 + 1) 24 #[.int .i64 0, .int .u64 0] := R_q.drew
  have SB : Row (V.drew) (w.heap.size + 1 + 1 + 1) 24 #[.int .i64 0, .int .u64 0] := R_r.drew
  obtain ⟨yB0, yB1, yB2⟩ := QB.two (.int .i64 0) (.int .u64 0)
  have TB := (SB.far (p := ⟨w.heap.size + 1 + 1, 0, none⟩) (by first | (simp; done) | (simp; omega) | omega) (.int .i64 0)).far (p := ⟨w.heap.size + 1 + 1, 1, none⟩) (by first | (simp; done) | (simp; omega) | omega) (.int .u64 0)
  obtain ⟨zB0, zB1, zB2⟩ := TB.two (.int .i64 0) (.int .u64 0)
  have PB := ((((QB.set 0 (.int .i64 0)).set 1 (.int .u64 0)).far (p := ⟨w.heap.size + 1 + 1 + 1, 0, none⟩) (by first | (simp; done) | (simp; omega) | omega) (.int .i64 0)).far (p := ⟨w.heap.size + 1 + 1 + 1, 1, none⟩) (by first | (simp; done) | (simp; omega) | omega) (.int .u64 0))
  have aB0 := QB.cell 0
  have bB0 := SB.cell 0
  have cB0 := TB.cell 0
  have dB0 := PB.cell 0
  have faB0 := QB.frozen 0
  have fbB0 := SB.frozen 0
  have fcB0 := TB.frozen 0
  have aB1 := QB.cell 1
  have bB1 := SB.cell 1
  have cB1 := TB.cell 1
  have dB1 := PB.cell 1
  have faB1 := QB.frozen 1
  have fbB1 := SB.frozen 1
  have fcB1 := TB.frozen 1
  simp at aA0 bA0 cA0 dA0 faA0 fbA0 fcA0 aA1 bA1 cA1 dA1 faA1 fbA1 fcA1 aB0 bB0 cB0 dB0 faB0 fbB0 fcB0 aB1 bB1 cB1 dB1 faB1 fbB1 fcB1
  have HyA0 := hid yA0
  have HyA1 := hid yA1
  have HzA0 := hid zA0
  have HzA1 := hid zA1
  have HyB0 := hid yB0
  have HyB1 := hid yB1
  have HzB0 := hid zB0
  have HzB1 := hid zB1
  have HE := (((HU.setCell (p := w.heap.size + 1 + 1) (i := 0) (by omega) (.int .i64 0)).setCell (p := w.heap.size + 1 + 1) (i := 1) (by omega) (.int .u64 0)).setCell (p := w.heap.size + 1 + 1 + 1) (i := 0) (by omega) (.int .i64 0)).setCell (p := w.heap.size + 1 + 1 + 1) (i := 1) (by omega) (.int .u64 0)
  clear QA SA TA PA QB SB TB PB
  go_region
  all_goals
    go_wp2_with fail
    simp [bodyPost, results, Tryd.results73, go_sem, HyA0.out, HyA1.out, HzA0.out, HzA1.out]
    first | exact HE.below | exact ⟨HE.below.os, HE.below.tape, HE.below.output, HE.below.size, HE.below.block⟩

set_option maxRecDepth 100000 in
set_option maxHeartbeats 2000000 in
theorem div_over (w : World) (x y : Int) (hx : Fits x) (hy : Fits y) (h0 : y ≠ 0) (ho : ¬ Fits (if (decide (x < 0) != decide (y < 0)) = true then -(mag x / mag y) else mag x / mag y)) :
    Calls Tryd.prog 73 #[WV x, WV y] w fun e w' => e = .returned (.tuple #[WV 0, WV 0, .int .i64 20]) ∧ Below w.heap.size w w' := by
  have hS := fun w => sign_any w y hy
  have hs0' : ¬ cmp3 y 0 = 0 := by
    rcases cmp3_cases y 0 with ⟨h, e⟩ | ⟨h, e⟩ | ⟨h, e⟩
    · rw [e]; decide
    · rw [e]; decide
    · exact absurd h h0
  obtain ⟨sg, hsg⟩ : ∃ s, s = cmp3 y 0 := ⟨_, rfl⟩
  rw [← hsg] at hS hs0'
  have hA := fun w => sized_any w x hx
  have hB := fun w => sized_any w y hy
  have hn0 : 0 < mag y := by unfold mag; split <;> omega
  have hby := fun w => by_any w (mag x) (mag y) (mag_big hx) (mag_big hy) hn0
  have hqb : Big (mag x / mag y) := by
    have h1 := mag_big hx
    unfold Big at h1 ⊢
    exact ⟨Int.ediv_nonneg h1.1 (by omega), Int.lt_of_le_of_lt (Int.ediv_le_self _ h1.1) h1.2⟩
  have hQ := fun w => signed_any w (mag x / mag y) (decide (x < 0) != decide (y < 0)) hqb
  rw [resV_over ho] at hQ
  obtain ⟨sx, hsx⟩ : ∃ s, s = decide (x < 0) := ⟨_, rfl⟩
  obtain ⟨sy, hsy⟩ : ∃ s, s = decide (y < 0) := ⟨_, rfl⟩
  rw [← hsx] at hA
  rw [← hsy] at hB
  rw [← hsx, ← hsy] at hQ
  have e0 : WV 0 = .agg #[.int .i64 0, .int .u64 0] := by kernel_rfl
  obtain ⟨xh, xl, e1⟩ : ∃ hi lo : Int, WV x = .agg #[.int .i64 hi, .int .u64 lo] := ⟨_, _, rfl⟩
  obtain ⟨yh, yl, e2⟩ : ∃ hi lo : Int, WV y = .agg #[.int .i64 hi, .int .u64 lo] := ⟨_, _, rfl⟩
  obtain ⟨mh, ml, e3⟩ : ∃ hi lo : Int, UV (mag x) = .agg #[.int .u64 hi, .int .u64 lo] := ⟨_, _, rfl⟩
  obtain ⟨nh, nl, e4⟩ : ∃ hi lo : Int, UV (mag y) = .agg #[.int .u64 hi, .int .u64 lo] := ⟨_, _, rfl⟩
  obtain ⟨qh, ql, e5⟩ : ∃ hi lo : Int, UV (mag x / mag y) = .agg #[.int .u64 hi, .int .u64 lo] := ⟨_, _, rfl⟩
  obtain ⟨rh, rl, e6⟩ : ∃ hi lo : Int, UV (mag x % mag y) = .agg #[.int .u64 hi, .int .u64 lo] := ⟨_, _, rfl⟩
  rw [e2] at hS
  rw [e1, e3] at hA
  rw [e2, e4] at hB
  rw [e3, e4, e5, e6] at hby
  rw [e5, e0] at hQ
  rw [e0, e1, e2]
  have HS := hid hS
  have HA := hid hA
  have HB := hid hB
  have HBY := hid hby
  have HQ := hid hQ
  clear hS hA hB hby hQ e0 e1 e2 e3 e4 e5 e6 hsx hsy hsg ho hx hy h0 hn0 hqb
  have R_a := (((Row.new w 24 #[.int .i64 xh, .int .u64 xl]).alloc (.cells #[.int .i64 yh, .int .u64 yl] 24)).alloc (.cells #[.int .i64 0, .int .u64 0] 24)).alloc (.cells #[.int .i64 0, .int .u64 0] 24)
  have R_b := ((Row.new (w.alloc (.cells #[.int .i64 xh, .int .u64 xl] 24)) 24 #[.int .i64 yh, .int .u64 yl]).alloc (.cells #[.int .i64 0, .int .u64 0] 24)).alloc (.cells #[.int .i64 0, .int .u64 0] 24)
  have R_q := (Row.new ((w.alloc (.cells #[.int .i64 xh, .int .u64 xl] 24)).alloc (.cells #[.int .i64 yh, .int .u64 yl] 24)) 24 #[.int .i64 0, .int .u64 0]).alloc (.cells #[.int .i64 0, .int .u64 0] 24)
  have R_r := Row.new (((w.alloc (.cells #[.int .i64 xh, .int .u64 xl] 24)).alloc (.cells #[.int .i64 yh, .int .u64 yl] 24)).alloc (.cells #[.int .i64 0, .int .u64 0] 24)) 24 #[.int .i64 0, .int .u64 0]
  have HU := ((((Up.refl w).alloc (.cells #[.int .i64 xh, .int .u64 xl] 24)).alloc (.cells #[.int .i64 yh, .int .u64 yl] 24)).alloc (.cells #[.int .i64 0, .int .u64 0] 24)).alloc (.cells #[.int .i64 0, .int .u64 0] 24)
  simp only [alloc_size] at R_b R_q R_r
  go_enter Tryd.func73, Tryd.ntmps73
  go_wp2_with fail
  refine Calls.mono (HS.out _) ?_; rintro e w1 ⟨rfl, hb_w1⟩
  have z_w1 := hb_w1.size
  try simp only [alloc_size, setCell_size] at z_w1
  replace R_a := R_a.mod (Mod.of_below hb_w1 Nil) (fun hf => hf)
  replace R_b := R_b.mod (Mod.of_below hb_w1 Nil) (fun hf => hf)
  replace R_q := R_q.mod (Mod.of_below hb_w1 Nil) (fun hf => hf)
  replace R_r := R_r.mod (Mod.of_below hb_w1 Nil) (fun hf => hf)
  replace HU := HU.trans hb_w1
  clear hb_w1
  have c1_0 := R_a.cell 0
  have c1_1 := R_a.cell 1
  simp at c1_0 c1_1
  go_wp2_with fail
  clear c1_0 c1_1
  refine Calls.mono (HA.out _) ?_; rintro e w2 ⟨rfl, hb_w2⟩
  have z_w2 := hb_w2.size
  try simp only [alloc_size, setCell_size] at z_w2
  replace R_a := R_a.mod (Mod.of_below hb_w2 Nil) (fun hf => hf)
  replace R_b := R_b.mod (Mod.of_below hb_w2 Nil) (fun hf => hf)
  replace R_q := R_q.mod (Mod.of_below hb_w2 Nil) (fun hf => hf)
  replace R_r := R_r.mod (Mod.of_below hb_w2 Nil) (fun hf => hf)
  replace HU := HU.trans hb_w2
  clear hb_w2
  have R_m := Row.new (w2) 79 #[.int .u64 mh, .int .u64 ml]
  replace R_a := R_a.alloc (.cells #[.int .u64 mh, .int .u64 ml] 79)
  replace R_b := R_b.alloc (.cells #[.int .u64 mh, .int .u64 ml] 79)
  replace R_q := R_q.alloc (.cells #[.int .u64 mh, .int .u64 ml] 79)
  replace R_r := R_r.alloc (.cells #[.int .u64 mh, .int .u64 ml] 79)
  replace HU := HU.alloc (.cells #[.int .u64 mh, .int .u64 ml] 79)
  have c2_0 := R_b.cell 0
  have c2_1 := R_b.cell 1
  simp at c2_0 c2_1
  go_wp2_with fail
  clear c2_0 c2_1
  refine Calls.mono (HB.out _) ?_; rintro e w3 ⟨rfl, hb_w3⟩
  have z_w3 := hb_w3.size
  try simp only [alloc_size, setCell_size] at z_w3
  replace R_a := R_a.mod (Mod.of_below hb_w3 Nil) (fun hf => hf)
  replace R_b := R_b.mod (Mod.of_below hb_w3 Nil) (fun hf => hf)
  replace R_q := R_q.mod (Mod.of_below hb_w3 Nil) (fun hf => hf)
  replace R_r := R_r.mod (Mod.of_below hb_w3 Nil) (fun hf => hf)
  replace R_m := R_m.mod (Mod.of_below hb_w3 Nil) (fun hf => hf)
  replace HU := HU.trans hb_w3
  clear hb_w3
  have R_n := Row.new (w3) 79 #[.int .u64 nh, .int .u64 nl]
  replace R_a := R_a.alloc (.cells #[.int .u64 nh, .int .u64 nl] 79)
  replace R_b := R_b.alloc (.cells #[.int .u64 nh, .int .u64 nl] 79)
  replace R_q := R_q.alloc (.cells #[.int .u64 nh, .int .u64 nl] 79)
  replace R_r := R_r.alloc (.cells #[.int .u64 nh, .int .u64 nl] 79)
  replace R_m := R_m.alloc (.cells #[.int .u64 nh, .int .u64 nl] 79)
  replace HU := HU.alloc (.cells #[.int .u64 nh, .int .u64 nl] 79)
  have c3_0 := R_m.cell 0
  have c3_1 := R_m.cell 1
  simp at c3_0 c3_1
  go_wp2_with fail
  clear c3_0 c3_1
  refine Calls.mono (HBY.out _) ?_; rintro e w4 ⟨rfl, hb_w4⟩
  have z_w4 := hb_w4.size
  try simp only [alloc_size, setCell_size] at z_w4
  replace R_a := R_a.mod (Mod.of_below hb_w4 Nil) (fun hf => hf)
  replace R_b := R_b.mod (Mod.of_below hb_w4 Nil) (fun hf => hf)
  replace R_q := R_q.mod (Mod.of_below hb_w4 Nil) (fun hf => hf)
  replace R_r := R_r.mod (Mod.of_below hb_w4 Nil) (fun hf => hf)
  replace R_m := R_m.mod (Mod.of_below hb_w4 Nil) (fun hf => hf)
  replace R_n := R_n.mod (Mod.of_below hb_w4 Nil) (fun hf => hf)
  replace HU := HU.trans hb_w4
  clear hb_w4
  have R_o := Row.new (w4) 79 #[.int .u64 qh, .int .u64 ql]
  replace R_a := R_a.alloc (.cells #[.int .u64 qh, .int .u64 ql] 79)
  replace R_b := R_b.alloc (.cells #[.int .u64 qh, .int .u64 ql] 79)
  replace R_q := R_q.alloc (.cells #[.int .u64 qh, .int .u64 ql] 79)
  replace R_r := R_r.alloc (.cells #[.int .u64 qh, .int .u64 ql] 79)
  replace R_m := R_m.alloc (.cells #[.int .u64 qh, .int .u64 ql] 79)
  replace R_n := R_n.alloc (.cells #[.int .u64 qh, .int .u64 ql] 79)
  replace HU := HU.alloc (.cells #[.int .u64 qh, .int .u64 ql] 79)
  have R_t := Row.new ((w4).alloc (.cells #[.int .u64 qh, .int .u64 ql] 79)) 79 #[.int .u64 rh, .int .u64 rl]
  have hz : ((w4).alloc (.cells #[.int .u64 qh, .int .u64 ql] 79)).heap.size = w4.heap.size + 1 := by simp only [alloc_size, setCell_size]
  rw [hz] at R_t
  clear hz
  replace R_a := R_a.alloc (.cells #[.int .u64 rh, .int .u64 rl] 79)
  replace R_b := R_b.alloc (.cells #[.int .u64 rh, .int .u64 rl] 79)
  replace R_q := R_q.alloc (.cells #[.int .u64 rh, .int .u64 rl] 79)
  replace R_r := R_r.alloc (.cells #[.int .u64 rh, .int .u64 rl] 79)
  replace R_m := R_m.alloc (.cells #[.int .u64 rh, .int .u64 rl] 79)
  replace R_n := R_n.alloc (.cells #[.int .u64 rh, .int .u64 rl] 79)
  replace R_o := R_o.alloc (.cells #[.int .u64 rh, .int .u64 rl] 79)
  replace HU := HU.alloc (.cells #[.int .u64 rh, .int .u64 rl] 79)
  go_wp2_with fail
  refine Calls.mono (HQ.out _) ?_; rintro e w5 ⟨rfl, hb_w5⟩
  have z_w5 := hb_w5.size
  try simp only [alloc_size, setCell_size] at z_w5
  replace R_a := R_a.mod (Mod.of_below hb_w5 Nil) (fun hf => hf)
  replace R_b := R_b.mod (Mod.of_below hb_w5 Nil) (fun hf => hf)
  replace R_q := R_q.mod (Mod.of_below hb_w5 Nil) (fun hf => hf)
  replace R_r := R_r.mod (Mod.of_below hb_w5 Nil) (fun hf => hf)
  replace R_m := R_m.mod (Mod.of_below hb_w5 Nil) (fun hf => hf)
  replace R_n := R_n.mod (Mod.of_below hb_w5 Nil) (fun hf => hf)
  replace R_o := R_o.mod (Mod.of_below hb_w5 Nil) (fun hf => hf)
  replace R_t := R_t.mod (Mod.of_below hb_w5 Nil) (fun hf => hf)
  replace HU := HU.trans hb_w5
  clear hb_w5
  have c4_0 := R_q.cell 0
  have c4_1 := R_q.cell 1
  have f4_0 := R_q.frozen 0
  have f4_1 := R_q.frozen 1
  replace R_q := R_q.set 0 (.int .i64 0)
  try simp only [List.setIfInBounds_toArray, List.set_cons_zero, List.set_cons_succ] at R_q
  replace R_a := R_a.far (p := ⟨w.heap.size + 1 + 1, 0, none⟩) (by first | (simp; done) | (simp; omega) | omega) (.int .i64 0)
  replace R_b := R_b.far (p := ⟨w.heap.size + 1 + 1, 0, none⟩) (by first | (simp; done) | (simp; omega) | omega) (.int .i64 0)
  replace R_r := R_r.far (p := ⟨w.heap.size + 1 + 1, 0, none⟩) (by first | (simp; done) | (simp; omega) | omega) (.int .i64 0)
  replace R_m := R_m.far (p := ⟨w.heap.size + 1 + 1, 0, none⟩) (by first | (simp; done) | (simp; omega) | omega) (.int .i64 0)
  replace R_n := R_n.far (p := ⟨w.heap.size + 1 + 1, 0, none⟩) (by first | (simp; done) | (simp; omega) | omega) (.int .i64 0)
  replace R_o := R_o.far (p := ⟨w.heap.size + 1 + 1, 0, none⟩) (by first | (simp; done) | (simp; omega) | omega) (.int .i64 0)
  replace R_t := R_t.far (p := ⟨w.heap.size + 1 + 1, 0, none⟩) (by first | (simp; done) | (simp; omega) | omega) (.int .i64 0)
  replace HU := HU.setCell (p := w.heap.size + 1 + 1) (i := 0) (by omega) (.int .i64 0)
  have c5_0 := R_q.cell 0
  have c5_1 := R_q.cell 1
  have f5_0 := R_q.frozen 0
  have f5_1 := R_q.frozen 1
  replace R_q := R_q.set 1 (.int .u64 0)
  try simp only [List.setIfInBounds_toArray, List.set_cons_zero, List.set_cons_succ] at R_q
  replace R_a := R_a.far (p := ⟨w.heap.size + 1 + 1, 1, none⟩) (by first | (simp; done) | (simp; omega) | omega) (.int .u64 0)
  replace R_b := R_b.far (p := ⟨w.heap.size + 1 + 1, 1, none⟩) (by first | (simp; done) | (simp; omega) | omega) (.int .u64 0)
  replace R_r := R_r.far (p := ⟨w.heap.size + 1 + 1, 1, none⟩) (by first | (simp; done) | (simp; omega) | omega) (.int .u64 0)
  replace R_m := R_m.far (p := ⟨w.heap.size + 1 + 1, 1, none⟩) (by first | (simp; done) | (simp; omega) | omega) (.int .u64 0)
  replace R_n := R_n.far (p := ⟨w.heap.size + 1 + 1, 1, none⟩) (by first | (simp; done) | (simp; omega) | omega) (.int .u64 0)
  replace R_o := R_o.far (p := ⟨w.heap.size + 1 + 1, 1, none⟩) (by first | (simp; done) | (simp; omega) | omega) (.int .u64 0)
  replace R_t := R_t.far (p := ⟨w.heap.size + 1 + 1, 1, none⟩) (by first | (simp; done) | (simp; omega) | omega) (.int .u64 0)
  replace HU := HU.setCell (p := w.heap.size + 1 + 1) (i := 1) (by omega) (.int .u64 0)
  have c6_0 := R_q.cell 0
  have c6_1 := R_q.cell 1
  have f6_0 := R_q.frozen 0
  have f6_1 := R_q.frozen 1
  simp at c4_0 c4_1 f4_0 f4_1 c5_0 c5_1 f5_0 f5_1 c6_0 c6_1 f6_0 f6_1
  go_wp2_with fail
  obtain ⟨V, h_V⟩ : ∃ V, V = ((w5).setCell ⟨w.heap.size + 1 + 1, 0, none⟩ (.int .i64 0)).setCell ⟨w.heap.size + 1 + 1, 1, none⟩ (.int .u64 0) := ⟨_, rfl⟩
  rw [← h_V]
  rw [← h_V] at R_a R_b R_q R_r R_m R_n R_o R_t HU
  have z_V : V.heap.size = _ := congrArg (fun a => a.heap.size) h_V
  try simp only [alloc_size, setCell_size] at z_V
  clear h_V
  clear c4_0 c4_1 f4_0 f4_1 c5_0 c5_1 f5_0 f5_1 c6_0 c6_1 f6_0 f6_1
  have QA : Row (V) (w.heap.size + 1 + 1) 24 #[.int .i64 0, .int .u64 0] := R_q
  have SA : Row (V) (w.heap.size + 1 + 1 + 1) 24 #[.int .i64 0, .int .u64 0] := R_r
  obtain ⟨yA0, yA1, yA2⟩ := QA.two (.int .i64 0) (.int .u64 0)
  have TA := (SA.far (p := ⟨w.heap.size + 1 + 1, 0, none⟩) (by first | (simp; done) | (simp; omega) | omega) (.int .i64 0)).far (p := ⟨w.heap.size + 1 + 1, 1, none⟩) (by first | (simp; done) | (simp; omega) | omega) (.int .u64 0)
  obtain ⟨zA0, zA1, zA2⟩ := TA.two (.int .i64 0) (.int .u64 0)
  have PA := ((((QA.set 0 (.int .i64 0)).set 1 (.int .u64 0)).far (p := ⟨w.heap.size + 1 + 1 + 1, 0, none⟩) (by first | (simp; done) | (simp; omega) | omega) (.int .i64 0)).far (p := ⟨w.heap.size + 1 + 1 + 1, 1, none⟩) (by first | (simp; done) | (simp; omega) | omega) (.int .u64 0))
  have aA0 := QA.cell 0
  have bA0 := SA.cell 0
  have cA0 := TA.cell 0
  have dA0 := PA.cell 0
  have faA0 := QA.frozen 0
  have fbA0 := SA.frozen 0
  have fcA0 := TA.frozen 0
  have aA1 := QA.cell 1
  have bA1 := SA.cell 1
  have cA1 := TA.cell 1
  have dA1 := PA.cell 1
  have faA1 := QA.frozen 1
  have fbA1 := SA.frozen 1
  have fcA1 := TA.frozen 1
  have QB : Row (V.drew) (w.heap.size + 1 + 1) 24 #[.int .i64 0, .int .u64 0] := R_q.drew
  have SB : Row (V.drew) (w.heap.size + 1 + 1 + 1) 24 #[.int .i64 0, .int .u64 0] := R_r.drew
  obtain ⟨yB0, yB1, yB2⟩ := QB.two (.int .i64 0) (.int .u64 0)
  have TB := (SB.far (p := ⟨w.heap.size + 1 + 1, 0, none⟩) (by first | (simp; done) | (simp; omega) | omega) (.int .i64 0)).far (p := ⟨w.heap.size + 1 + 1, 1, none⟩) (by first | (simp; done) | (simp; omega) | omega) (.int .u64 0)
  obtain ⟨zB0, zB1, zB2⟩ := TB.two (.int .i64 0) (.int .u64 0)
  have PB := ((((QB.set 0 (.int .i64 0)).set 1 (.int .u64 0)).far (p := ⟨w.heap.size + 1 + 1 + 1, 0, none⟩) (by first | (simp; done) | (simp; omega) | omega) (.int .i64 0)).far (p := ⟨w.heap.size + 1 + 1 + 1, 1, none⟩) (by first | (simp; done) | (simp; omega) | omega) (.int .u64 0))
  have aB0 := QB.cell 0
  have bB0 := SB.cell 0
  have cB0 := TB.cell 0
  have dB0 := PB.cell 0
  have faB0 := QB.frozen 0
  have fbB0 := SB.frozen 0
  have fcB0 := TB.frozen 0
  have aB1 := QB.cell 1
  have bB1 := SB.cell 1
  have cB1 := TB.cell 1
  have dB1 := PB.cell 1
  have faB1 := QB.frozen 1
  have fbB1 := SB.frozen 1
  have fcB1 := TB.frozen 1
  simp at aA0 bA0 cA0 dA0 faA0 fbA0 fcA0 aA1 bA1 cA1 dA1 faA1 fbA1 fcA1 aB0 bB0 cB0 dB0 faB0 fbB0 fcB0 aB1 bB1 cB1 dB1 faB1 fbB1 fcB1
  have HyA0 := hid yA0
  have HyA1 := hid yA1
  have HzA0 := hid zA0
  have HzA1 := hid zA1
  have HyB0 := hid yB0
  have HyB1 := hid yB1
  have HzB0 := hid zB0
  have HzB1 := hid zB1
  have HE := (((HU.setCell (p := w.heap.size + 1 + 1) (i := 0) (by omega) (.int .i64 0)).setCell (p := w.heap.size + 1 + 1) (i := 1) (by omega) (.int .u64 0)).setCell (p := w.heap.size + 1 + 1 + 1) (i := 0) (by omega) (.int .i64 0)).setCell (p := w.heap.size + 1 + 1 + 1) (i := 1) (by omega) (.int .u64 0)
  clear QA SA TA PA QB SB TB PB
  go_region
  all_goals
    go_wp2_with fail
    simp [bodyPost, results, Tryd.results73, go_sem, HyA0.out, HyA1.out, HzA0.out, HzA1.out]
    first | exact HE.below | exact ⟨HE.below.os, HE.below.tape, HE.below.output, HE.below.size, HE.below.block⟩
end Go.Proofs.YtmamedobphlpkaaDoor

namespace Go.Proofs.YtmamedobphlpkaaDoor
open Go.RowKit

/-- a quotient, towards 0; what is left -/
def dq (x y : Int) : Int := if (decide (x < 0) != decide (y < 0)) = true then -(mag x / mag y) else mag x / mag y
def dr (x y : Int) : Int := if decide (x < 0) = true then -(mag x % mag y) else mag x % mag y
/-- what Div answers -/
def divV (x y : Int) : Value :=
  if y = 0 then .tuple #[.agg #[.int .i64 0, .int .u64 0], .agg #[.int .i64 0, .int .u64 0], .int .i64 22]
  else if Fits (dq x y) then .tuple #[WV (dq x y), WV (dr x y), .int .i64 0]
  else .tuple #[.agg #[.int .i64 0, .int .u64 0], .agg #[.int .i64 0, .int .u64 0], .int .i64 20]
theorem mag_pos {y : Int} (h : y ≠ 0) : 0 < mag y := by unfold mag; split <;> omega
theorem dr_fits {x y : Int} (hx : Fits x) (h0 : y ≠ 0) (hy : Fits y) : Fits (dr x y) := by
  have h1 := Int.emod_nonneg (mag x) (show mag y ≠ 0 by have := mag_pos h0; omega)
  have h2 := Int.emod_lt_of_pos (mag x) (mag_pos h0)
  have h3 : mag y ≤ 170141183460469231731687303715884105728 := by unfold Fits at hy; unfold mag; split <;> omega
  have h4 : mag x % mag y ≤ mag x := by
    have h5 := Int.emod_add_mul_ediv (mag x) (mag y)
    have h6 : 0 ≤ mag y * (mag x / mag y) := Int.mul_nonneg (by omega) (Int.ediv_nonneg (by unfold mag; split <;> omega) (by omega))
    omega
  unfold dr
  unfold Fits at hx ⊢
  rcases mag_cases x with ⟨hs, hm⟩ | ⟨hs, hm⟩
  · rw [if_pos (by simpa using hs)]
    omega
  · rw [if_neg (by simpa using hs)]
    omega
theorem divc_any (w : World) (x y : Int) (hx : Fits x) (hy : Fits y) : Calls Tryd.prog 73 #[WV x, WV y] w fun e w' => e = .returned (divV x y) ∧ Below w.heap.size w w' := by
  unfold divV
  by_cases h0 : y = 0
  · rw [if_pos h0]
    subst h0
    exact div_zero w x
  · rw [if_neg h0]
    by_cases hf : Fits (dq x y)
    · rw [if_pos hf]
      have hp := mag_pos h0
      have h1 := mag_big hx
      have h2 := mag_big hy
      have hq : Big (mag x / mag y) := by
        unfold Big at h1 ⊢
        exact ⟨Int.ediv_nonneg h1.1 (by omega), Int.lt_of_le_of_lt (Int.ediv_le_self _ h1.1) h1.2⟩
      have hr : Big (mag x % mag y) := by
        have h3 := Int.emod_nonneg (mag x) (show mag y ≠ 0 by omega)
        have h4 := Int.emod_lt_of_pos (mag x) hp
        unfold Big at h2 ⊢
        omega
      exact div_by w x y _ _ hx hy h0 hq hr (fun w => by_any w (mag x) (mag y) h1 h2 hp) hf (dr_fits hx h0 hy)
    · rw [if_neg hf]
      exact div_over w x y hx hy h0 hf
end Go.Proofs.YtmamedobphlpkaaDoor

namespace Go.Proofs.YtmamedobphlpkaaDoor
open Go.ChangeShapes Go.WideShapes Go.ChangeAt Go.RowKit

theorem own : ownKnob Tryd.prog.godebug = none := by kernel_rfl
theorem laidOut : laidOutB Tryd.prog = true := by kernel_rfl

section
variable {H : Type} {enc : TypeId × Value → H} {P : Program}

/-- what the arguments read as stays, where nothing that was there has changed -/
theorem trodAll_stays (hl : laidOutB P = true) {W W' : World} (hb : Below W.heap.size W W') :
    ∀ {ts : List TypeId} {vs : List Value} {ds : List (DataW H)} {ps : List MemPlace}, (∀ t ∈ ts, P.readableRec t = true ∧ t < P.types.size) → (∀ x ∈ ps, x.block < W.heap.size) →
      DataW.TrodAll enc P W 0 (fun _ => true) true ts vs ds ps → DataW.TrodAll enc P W' 0 (fun b => decide (b < W.heap.size)) true ts vs ds ps
  | [], vs, ds, ps, _, _, h => by
    obtain ⟨rfl, rfl, rfl⟩ := trodAll_nil h
    rfl
  | t :: ts, vs, ds, ps, ht, hp, h => by
    obtain ⟨v, vs1, d, ds1, a, b, rfl, rfl, rfl, h1, h2⟩ := trodAll_cons h
    obtain ⟨hr, hrow⟩ := ht t List.mem_cons_self
    exact ⟨a, b, Below.trod hl hr hrow h1 hb (fun x hx => hp x (List.mem_append_left _ hx)), trodAll_stays hl hb (fun t h => ht t (List.mem_cons_of_mem _ h)) (fun x hx => hp x (List.mem_append_right _ hx)) h2, rfl⟩

theorem law_post {f : Func} {s : ChangeSpec} {tb : TypeId} {W W' : World} {args : Array Value} {ds gs : List (DataW H)} {before : List MemPlace}
    (hl : laidOutB P = true) (hr : f.resultTypes = #[tb]) (htb : P.underlying tb = some .bool) (hread : ∀ t ∈ f.params.toList, P.readableRec t = true ∧ t < P.types.size)
    (hvars : s.vars = []) (hs : s.fn H ds = { results := [.lit (.bool true)], args := ds })
    (hW : DataW.Whole enc P f.params.toList s.vars false W args.toList ds gs before) (hb : Below W.heap.size W W') :
    s.post enc P f false true false false W args (.bool true) W' := by
  have hW' := hW
  obtain ⟨p, q, hA, hV, rfl, hfz, hnd⟩ := hW
  rw [hvars] at hV
  obtain ⟨rfl, rfl⟩ := trodVars_none hV
  have hlt : ∀ x ∈ p, x.block < W.heap.size := fun x hx => hW'.lt x (by simpa using hx)
  refine ⟨ds, [], p ++ [], [], p, [], hW', ?_, ?_, ?_, ?_, fun h => by cases h⟩
  · rw [List.append_nil, hs, hr]
    exact trodAll_cons_mk (shut_bool htb true) trodAll_mk0
  · rw [List.append_nil, hs]
    exact trodAll_stays hl hb hread hlt hA
  · rw [List.append_nil, hs, hvars]
    rfl
  · exact World.keptBut_mono (fun x hx => ⟨hx, .inr (.inl (by simpa using hx))⟩) (hb.frame (· ∈ p ++ []))
end

/-! ## Arguments, opened -/
section
variable {H : Type} {enc : TypeId × Value → H} {P : Program}

end


theorem wf_i64 {x : Int} (h : (Lit.int .i64 x).wf = true) : -9223372036854775808 ≤ x ∧ x ≤ 9223372036854775807 := by
  simpa [Lit.wf, IntKind.min, IntKind.max, IntKind.signed, IntKind.bits] using h
theorem wf_u64 {x : Int} (h : (Lit.int .u64 x).wf = true) : 0 ≤ x ∧ x ≤ 18446744073709551615 := by
  simpa [Lit.wf, IntKind.min, IntKind.max, IntKind.signed, IntKind.bits] using h
theorem readable_of {P : Program} {l : List TypeId} (h : l.all (fun t => P.readableRec t && decide (t < P.types.size)) = true) : ∀ t ∈ l, P.readableRec t = true ∧ t < P.types.size := by
  intro t ht
  have := List.all_eq_true.1 h t ht
  simpa using this
/-! ## The bound of the second form -/
theorem bound {H : Type} {l : List (DataW H)} (hk : Rows.uptoSmall H l = true) : Rows.uptoBulkAll l ≤ 1048576 := of_decide_eq_true hk
end Go.Proofs.YtmamedobphlpkaaDoor

namespace Go.Proofs.YtmamedobphlpkaaDoor
open Go.RowKit Go.Shelf Go.Sort

def renFmt : Ren := ⟨fun x => if x = 129 then 100 else if x = 284 then 102 else if x = 285 then 103 else if x = 317 then 107 else if x = 318 then 108 else x,
  fun x => if x = 0 then 0 else if x = 3 then 3 else if x = 4 then 4 else if x = 5 then 5 else if x = 9 then 9 else if x = 37 then 115 else if x = 46 then 89 else if x = 51 then 133 else if x = 53 then 22 else if x = 212 then 147 else x,
  fun x => if x = 17 then 2 else x⟩
theorem laysDigits : LaysM.n284 Tryd.prog renFmt := {
  mixed := by kernel_rfl
  f129 := by kernel_rfl
  f284 := by kernel_rfl
  f317 := by kernel_rfl
  f318 := by kernel_rfl
  t0 := Tryd.underlying0
  a0 := Tryd.isAgg0
  z0 := Tryd.sizeOf0
  v0 := Tryd.zeroValue0
  t3 := Tryd.underlying3
  a3 := Tryd.isAgg3
  z3 := Tryd.sizeOf3
  v3 := Tryd.zeroValue3
  t4 := Tryd.underlying4
  a4 := Tryd.isAgg4
  z4 := Tryd.sizeOf4
  v4 := Tryd.zeroValue4
  t5 := Tryd.underlying5
  a5 := Tryd.isAgg5
  z5 := Tryd.sizeOf5
  v5 := Tryd.zeroValue5
  t9 := Tryd.underlying9
  a9 := Tryd.isAgg9
  z9 := Tryd.sizeOf9
  v9 := Tryd.zeroValue9
  t46 := Tryd.underlying89
  a46 := Tryd.isAgg89
  z46 := Tryd.sizeOf89
  v46 := Tryd.zeroValue89
  t53 := Tryd.underlying22
  a53 := Tryd.isAgg22
  z53 := Tryd.sizeOf22
  v53 := Tryd.zeroValue22
  t212 := Tryd.underlying147
  a212 := Tryd.isAgg147
  z212 := Tryd.sizeOf147
  v212 := Tryd.zeroValue147
  g17 := by kernel_rfl
  i0 := by kernel_rfl
  i3 := by kernel_rfl
  i4 := by kernel_rfl
  i5 := by kernel_rfl
  i9 := by kernel_rfl
  i46 := by kernel_rfl
  i53 := by kernel_rfl
  i212 := by kernel_rfl
  m17 := by kernel_rfl }
theorem laysFormat : Lays.n285 Tryd.prog renFmt := {
  mixed := by kernel_rfl
  f285 := by kernel_rfl
  t0 := Tryd.underlying0
  a0 := Tryd.isAgg0
  z0 := Tryd.sizeOf0
  v0 := Tryd.zeroValue0
  t3 := Tryd.underlying3
  a3 := Tryd.isAgg3
  z3 := Tryd.sizeOf3
  v3 := Tryd.zeroValue3
  t4 := Tryd.underlying4
  a4 := Tryd.isAgg4
  z4 := Tryd.sizeOf4
  v4 := Tryd.zeroValue4
  t5 := Tryd.underlying5
  a5 := Tryd.isAgg5
  z5 := Tryd.sizeOf5
  v5 := Tryd.zeroValue5
  t9 := Tryd.underlying9
  a9 := Tryd.isAgg9
  z9 := Tryd.sizeOf9
  v9 := Tryd.zeroValue9
  t37 := Tryd.underlying115
  a37 := Tryd.isAgg115
  z37 := Tryd.sizeOf115
  v37 := Tryd.zeroValue115
  t51 := Tryd.underlying133
  a51 := Tryd.isAgg133
  z51 := Tryd.sizeOf133
  v51 := Tryd.zeroValue133
  t53 := Tryd.underlying22
  a53 := Tryd.isAgg22
  z53 := Tryd.sizeOf22
  v53 := Tryd.zeroValue22 }

abbrev byteV : UInt8 → Value := fun b => .int .u8 (b.toNat : Int)
theorem holds_zeros (w : World) (T : TypeId) (nd : Nat) (hs : nd ≤ 24) : Holds byteV (w.alloc (.cells Lib.zeros24 T)) w.heap.size 0 (Array.replicate nd (0 : UInt8)) := fun j hj => by
  have hj' : j < nd := by simpa using hj
  refine ⟨?_, World.frozen?_alloc_new _ _ _ _⟩
  rw [World.cell?_alloc_new, Lib.zeros24_at _ (by omega), getElem!_pos _ j hj]
  simp [byteV]
theorem below_putRow (w : World) (o : Obj) (dk : Array UInt8) (k : Nat) : Below w.heap.size w ((putRow byteV (w.alloc o) w.heap.size 0 dk).drewN k) := by
  refine ⟨rfl, rfl, rfl, ?_, fun j hj => ?_⟩
  · show w.heap.size ≤ ((w.alloc o).heap.modify w.heap.size _).size
    rw [Array.size_modify]
    simp
  · show ((w.alloc o).heap.modify w.heap.size _)[j]? = w.heap[j]?
    rw [Array.getElem?_modify, if_neg (by omega)]
    exact Below.heap_alloc w o j hj

set_option maxHeartbeats 1000000 in
theorem fmtUint_any (w : World) (u : Nat) (h1 : 100 ≤ u) (h64 : u < 18446744073709551616) (htab : Lib.TabIs Tryd.prog w "internal/strconv.uint64pow10" .u64 Lib.pow10Tab) :
    Calls Tryd.prog 95 #[.int .u64 (u : Int), .int .i64 10] w fun e w' => e = .returned (.string ⟨(Lib.decDigits u).toArray⟩) ∧ Below w.heap.size w w' := by
  have hnd : Lib.nDigits u ≤ 20 := by have := Lib.numDigits_eq u (by omega) h64; split at this <;> omega
  have hH0 := holds_zeros w 138 (Lib.nDigits u) (by omega)
  have hN := fun W (hT : Lib.TabIs Tryd.prog W "internal/strconv.uint64pow10" .u64 Lib.pow10Tab) => Any.internal_strconv_numDigits laysDigits u (by omega) h64 W hT
  have hF := Any.internal_strconv_formatBase10 laysFormat w.heap.size 0 24 u (Array.replicate (Lib.nDigits u) 0) (w.alloc (.cells Lib.zeros24 138)) hH0 (by rw [Array.size_replicate]; exact Lib.lt_pow_nDigits u) h64 (by rw [Array.size_replicate]; omega)
  rw [Array.size_replicate] at hF
  have HN := hid hN
  have HF := hid hF
  have HT := hid htab
  have HH := hid hH0
  clear hN hF htab hH0
  go_enter Tryd.func95, Tryd.ntmps95
  have hsl : ∀ W, (Instr.sliceAt 138 (.pointer (some ⟨w.heap.size, 0, none⟩)) none (some (.int .i64 (Lib.nDigits u : Int))) none).run Tryd.prog W = .ok (.slice (some ⟨w.heap.size, 0, none⟩) (Lib.nDigits u) 24) W := fun W => by
    rw [run_sliceAt_array_h W 138 ⟨w.heap.size, 0, none⟩ (by simp [Program.arrayLen, Program.elem, Tryd.underlying138]) .i64 (Lib.nDigits u : Int) (by omega) (by rw [show Tryd.prog.arrayLen 138 = 24 by simp [Program.arrayLen, Tryd.underlying138]]; omega)]
    go_simp
  obtain ⟨D, hD⟩ : ∃ D, D = Lib.nDigits u := ⟨_, rfl⟩
  have HD := hid hD
  rw [← hD] at hnd hsl HN HF HH
  have HD20 := hid hnd
  clear hD hnd
  go_wp2_with fail
  refine (HN.out _ (Lib.tabIs_alloc HT.out _)).mono ?_; rintro e w' ⟨rfl, rfl⟩
  go_wp2_with fail
  refine Calls.mono HF.out ?_; rintro e w' ⟨rfl, n, v', dk, rfl, hf⟩
  have hcv : (convert 115 9 (.slice (some ⟨w.heap.size, 0, none⟩) D 24)).run Tryd.prog ((putRow byteV (w.alloc (.cells Lib.zeros24 138)) w.heap.size 0 dk).drewN n) = .ok (.string ⟨(Lib.decDigits u).toArray⟩) ((putRow byteV (w.alloc (.cells Lib.zeros24 138)) w.heap.size 0 dk).drewN n) := by
    rw [HD.out] at hf ⊢
    have h := run_convert_bytes_back (P := Tryd.prog) ((putRow byteV (w.alloc (.cells Lib.zeros24 138)) w.heap.size 0 dk).drewN n) 115 9 5 ⟨w.heap.size, 0, none⟩ 24 (Lib.decDigits u) Tryd.underlying115 Tryd.underlying5 Tryd.underlying9 (fun j hj => by
      have hj' : j < Lib.nDigits u := by rw [Lib.decDigits_length] at hj; exact hj
      rw [Lib.row_is_numeral hf j hj, Lib.add_plain, World.cell?_drewN]
      have hh := HH.out
      rw [HD.out] at hh
      exact cell?_putRow byteV _ w.heap.size 0 _ dk hh (by rw [hf.size, Array.size_replicate]) j (by rw [hf.size]; exact hj'))
    rw [Lib.decDigits_length] at h
    exact h
  have hbel := below_putRow w (.cells Lib.zeros24 138) dk n
  clear hf
  have HBEL := hid hbel
  clear hbel
  go_wp2_with fail
  go_ret
  exact ⟨rfl, HBEL.out⟩

/-- what the table holds stays, where nothing that was there has changed -/
theorem tab_below {w w' : World} {B : Nat} (h : Lib.TabIs Tryd.prog w "internal/strconv.uint64pow10" .u64 Lib.pow10Tab) (hb : Below B w w') (hB : 2 < B) : Lib.TabIs Tryd.prog w' "internal/strconv.uint64pow10" .u64 Lib.pow10Tab := by
  have hg : Tryd.prog.globalNamed "internal/strconv.uint64pow10" = some 2 := by kernel_rfl
  unfold Lib.TabIs World.var? at h ⊢
  rw [hg] at h ⊢
  simp only [Option.bind_some] at h ⊢
  rw [hb.block _ hB]
  exact h

end Go.Proofs.YtmamedobphlpkaaDoor
