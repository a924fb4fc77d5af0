/-
  Scaled · Known2 · RefA · RefB
-/
import Derived.Test.YtfalllekhcocgaaDoorA08
import Derived.Test.YtfalllekhcocgaaDoorA09
import Derived.Test.YtfalllekhcocgaaDoorA10
import Derived.Test.YtfalllekhcocgaaDoorRows
import Derived.Deep.QuietTactic
import Derived.BigQuiet
import Derived.ChangeKeysEq
import Derived.LoopTactic
import Derived.Outline
set_option linter.unusedSimpArgs false
set_option linter.unusedVariables false

namespace Go.Proofs.YtfalllekhcocgaaDoor
open Go.RowKit

theorem scale_35 (w : World) (g : Nat) (hR : Row w g 49 #[.int .u64 35, .int .u64 0, .int .u64 0, .int .u64 0]) :
    Calls Tryd.prog 44 #[.pointer (some ⟨g, 0, none⟩), .int .i64 1] w fun e w' =>
      e = .returned (.tuple #[]) ∧ Row w' g 49 #[.int .u64 4, .int .u64 0, .int .u64 0, .int .u64 0] ∧ Mod (One g) w w' := by
  have T1 := hid (fun w => show Calls Tryd.prog 49 #[.int .i64 1] w fun e w' => e = .returned (.int .u64 10) ∧ Below w.heap.size w w' from ten_any w 1 (by decide))
  have T0 := hid (fun w => show Calls Tryd.prog 49 #[.int .i64 0] w fun e w' => e = .returned (.int .u64 1) ∧ Below w.heap.size w w' from ten_any w 0 (by decide))
  have C1 := hid (fun w (h : Row w g 49 #[.int .u64 35, .int .u64 0, .int .u64 0, .int .u64 0]) => show Calls Tryd.prog 73 #[.pointer (some ⟨g, 0, none⟩), .int .u64 10] w fun e w' => e = .returned (.int .u64 5) ∧ Row w' g 49 #[.int .u64 3, .int .u64 0, .int .u64 0, .int .u64 0] ∧ Mod (One g) w w' from cut_small w g 35 10 (by decide) (by decide) h)
  have C2 := hid (fun w (h : Row w g 49 #[.int .u64 3, .int .u64 0, .int .u64 0, .int .u64 0]) => show Calls Tryd.prog 73 #[.pointer (some ⟨g, 0, none⟩), .int .u64 1] w fun e w' => e = .returned (.int .u64 0) ∧ Row w' g 49 #[.int .u64 3, .int .u64 0, .int .u64 0, .int .u64 0] ∧ Mod (One g) w w' from cut_small w g 3 1 (by decide) (by decide) h)
  have M1 := hid (fun w => show Calls Tryd.prog 48 #[.int .u64 0, .int .u64 10] w fun e w' => e = .returned (.tuple #[.int .u64 0, .int .u64 0]) ∧ w = w' from mul64 0 10 (by decide) (by decide) w)
  have M2 := hid (fun w => show Calls Tryd.prog 48 #[.int .u64 10, .int .u64 1] w fun e w' => e = .returned (.tuple #[.int .u64 0, .int .u64 10]) ∧ w = w' from mul64 10 1 (by decide) (by decide) w)
  have A1 : ∀ w, (callFunc 50 #[.int .u64 0, .int .u64 5, .int .u64 0]).run Tryd.prog w = .ok (.value (.tuple #[.int .u64 5, .int .u64 0])) w := fun w => add64 0 5 0 (by decide) (by decide) (by decide) (by decide) w
  have K := hid (fun w => show Calls Tryd.prog 74 #[.agg #[.int .u64 0, .int .u64 10], .agg #[.int .u64 0, .int .u64 10]] w fun e w' => e = .returned (.int .i64 0) ∧ Below w.heap.size w w' from compare_any w 10 10 (by unfold Big; omega) (by unfold Big; omega))
  have A2 := hid (fun w (h : Row w g 49 #[.int .u64 3, .int .u64 0, .int .u64 0, .int .u64 0]) => show Calls Tryd.prog 75 #[.pointer (some ⟨g, 0, none⟩), .int .u64 1] w fun e w' => e = .returned (.tuple #[]) ∧ Row w' g 49 #[.int .u64 4, .int .u64 0, .int .u64 0, .int .u64 0] ∧ Mod (One g) w w' from add_small w g 3 1 (by decide) (by decide) (by decide) h)
  have o0 : bits .or .u64 0 0 = 0 := by decide
  have n1 : bits .and .u64 3 1 = 1 := by decide
  have hg := hR.lt
  go_enter Tryd.func44, Tryd.ntmps44
  go_wp2_with fail
  refine Calls.mono (T1.out _) ?_; rintro e w1 ⟨rfl, hb1⟩
  go_wp2_with fail
  refine Calls.mono (T0.out _) ?_; rintro e w2 ⟨rfl, hb2⟩
  go_wp2_with fail
  have hR2 := (hR.below hb1 hR.lt).below hb2 (hR.below hb1 hR.lt).lt
  have hM2 := (Mod.of_below hb1 (One g)).same (Mod.of_below hb2 (One g))
  refine Calls.mono (C1.out _ hR2) ?_; rintro e w3 ⟨rfl, hR3, hm3⟩
  go_wp2_with fail
  refine Calls.mono (C2.out _ hR3) ?_; rintro e w4 ⟨rfl, hR4, hm4⟩
  have hM4 := (hM2.same hm3).same hm4
  clear hR hR2 hR3 hm3 hm4 hb1 hb2 hM2 hg
  go_wp2_with fail
  refine Calls.mono (M1.out _) ?_; rintro e w5 ⟨rfl, rfl⟩
  go_wp2_with fail
  refine Calls.mono (M2.out _) ?_; rintro e w5 ⟨rfl, rfl⟩
  go_wp2_with fail
  refine Calls.mono (K.out _) ?_; rintro e w6 ⟨rfl, hb6⟩
  have hR5 := hR4.alloc (.cells #[.int .u64 0, .int .u64 10] 54)
  have hM5 := hM4.alloc (.cells #[.int .u64 0, .int .u64 10] 54)
  have hR6 := hR5.below hb6 hR5.lt
  have hM6 := hM5.same (Mod.of_below hb6 (One g))
  have q0 := hR6.cell 0
  simp at q0
  clear hR4 hR5 hM4 hM5 hb6
  go_wp2_with fail
  refine Calls.mono (A2.out _ hR6) ?_; rintro e w7 ⟨rfl, hR7, hm7⟩
  go_wp2_with fail
  go_end0
  exact ⟨rfl, hR7, hM6.same hm7⟩

theorem scaled_35 (w : World) : Calls Tryd.prog 18 #[WV 35, WV 1, .int .i64 1] w fun e w' => e = .returned (.tuple #[WV 4, .int .i64 0]) ∧ Below w.heap.size w w' := by
  have P := hid (fun w => show Calls Tryd.prog 39 #[.agg #[.int .i64 0, .int .u64 35], .agg #[.int .i64 0, .int .u64 1]] w fun e w' =>
    ∃ (a b c d : Int) (s : Bool), e = .returned (.tuple #[.agg #[.int .u64 a, .int .u64 b, .int .u64 c, .int .u64 d], .bool s]) ∧ Word a ∧ Word b ∧ Word c ∧ Word d ∧ P4 a b c d = mag 35 * mag 1 ∧ s = (decide ((35 : Int) < 0) != decide ((1 : Int) < 0)) ∧ Below w.heap.size w w' from product_any w 35 1 (by unfold Fits; omega) (by unfold Fits; omega))
  have Sg := hid (fun w => show Calls Tryd.prog 40 #[.agg #[.int .u64 4, .int .u64 0, .int .u64 0, .int .u64 0], .bool false] w fun e w' => e = .returned (.tuple #[.agg #[.int .i64 0, .int .u64 4], .int .i64 0]) ∧ Below w.heap.size w w' from wsigned_any w 4 0 0 0 false (by unfold Word; omega) (by unfold Word; omega) (by unfold Word; omega) (by unfold Word; omega))
  show Calls Tryd.prog 18 #[.agg #[.int .i64 0, .int .u64 35], .agg #[.int .i64 0, .int .u64 1], .int .i64 1] w fun e w' => e = .returned (.tuple #[.agg #[.int .i64 0, .int .u64 4], .int .i64 0]) ∧ Below w.heap.size w w'
  have hE := (Row.new ((w.alloc (.cells #[.int .i64 0, .int .u64 35] 24)).alloc (.cells #[.int .i64 0, .int .u64 1] 24)) 24 #[.int .i64 0, .int .u64 0])
  have hU := (((Up.refl w).alloc (.cells #[.int .i64 0, .int .u64 35] 24)).alloc (.cells #[.int .i64 0, .int .u64 1] 24)).alloc (.cells #[.int .i64 0, .int .u64 0] 24)
  simp only [alloc_size] at hE
  go_enter Tryd.func18, Tryd.ntmps18
  go_wp2_with fail
  refine Calls.mono (P.out _) ?_; rintro e w1 ⟨a, b, c, d, s, rfl, ha, hb, hc, hd, hv, hs, hb1⟩
  have e1 : a = 35 ∧ b = 0 ∧ c = 0 ∧ d = 0 := by
    have : mag 35 * mag 1 = 35 := by decide
    rw [this] at hv
    unfold P4 at hv
    unfold Word at ha hb hc hd
    omega
  obtain ⟨rfl, rfl, rfl, rfl⟩ := e1
  obtain rfl : s = false := by rw [hs]; decide
  clear ha hb hc hd hv hs
  have hE1 := hE.below hb1 hE.lt
  have hU1 := hU.trans hb1
  have hl1 := hE1.lt
  go_wp2_with fail
  refine Calls.mono (scale_35 _ w1.heap.size (Row.new w1 49 #[.int .u64 35, .int .u64 0, .int .u64 0, .int .u64 0])) ?_; rintro e w2 ⟨rfl, hP2, hm2⟩
  have hE2 := (hE1.alloc (.cells #[.int .u64 35, .int .u64 0, .int .u64 0, .int .u64 0] 49)).mod hm2 (fun e => by unfold One at e; omega)
  have hU2 := (hU1.alloc (.cells #[.int .u64 35, .int .u64 0, .int .u64 0, .int .u64 0] 49)).one hm2 hU1.size
  have q0 := hP2.cell 0
  have q1 := hP2.cell 1
  have q2 := hP2.cell 2
  have q3 := hP2.cell 3
  simp at q0 q1 q2 q3
  clear hE hU hb1 hE1 hU1 hl1
  go_wp2_with fail
  refine Calls.mono (Sg.out _) ?_; rintro e w3 ⟨rfl, hb3⟩
  have hE3 := hE2.below hb3 hE2.lt
  have hU3 := hU2.trans hb3
  have c0 := hE3.cell 0
  have c1 := hE3.cell 1
  have f0 := hE3.frozen 0
  have f1 := hE3.frozen 1
  obtain ⟨d0, d1, _⟩ := hE3.two (.int .i64 0) (.int .u64 4)
  simp at c0 c1 f0 f1 d0 d1
  clear hE2 hU2 hb3 hP2 hm2 q0 q1 q2 q3
  go_wp2_with fail
  simp [bodyPost, results, Tryd.results18, go_sem, d0, d1]
  exact ((hU3.setCell (by omega) _).setCell (by omega) _).below
end Go.Proofs.YtfalllekhcocgaaDoor

namespace Go.Proofs.YtfalllekhcocgaaDoor
open Go.RowKit

theorem wv_m7 : WV (-7) = .agg #[.int .i64 (-1), .int .u64 18446744073709551609] := by
  unfold WV
  rw [show (-7 : Int) / 18446744073709551616 = -1 by decide, show (-7 : Int) % 18446744073709551616 = 18446744073709551609 by decide]
theorem wv_m3 : WV (-3) = .agg #[.int .i64 (-1), .int .u64 18446744073709551613] := by
  unfold WV
  rw [show (-3 : Int) / 18446744073709551616 = -1 by decide, show (-3 : Int) % 18446744073709551616 = 18446744073709551613 by decide]
theorem wv_m1 : WV (-1) = .agg #[.int .i64 (-1), .int .u64 18446744073709551615] := by
  unfold WV
  rw [show (-1 : Int) / 18446744073709551616 = -1 by decide, show (-1 : Int) % 18446744073709551616 = 18446744073709551615 by decide]
theorem wv_m120 : WV (-120) = .agg #[.int .i64 (-1), .int .u64 18446744073709551496] := by
  unfold WV
  rw [show (-120 : Int) / 18446744073709551616 = -1 by decide, show (-120 : Int) % 18446744073709551616 = 18446744073709551496 by decide]
theorem wv_small (n : Int) (h : 0 ≤ n ∧ n < 18446744073709551616) : WV n = .agg #[.int .i64 0, .int .u64 n] := by
  unfold WV
  rw [show n / 18446744073709551616 = 0 by omega, show n % 18446744073709551616 = n by omega]

set_option maxRecDepth 100000 in
set_option maxHeartbeats 4000000 in
theorem known_any (w : World) (htab : Lib.TabIs Tryd.prog w "internal/strconv.uint64pow10" .u64 Lib.pow10Tab) (hg : 2 < w.heap.size) :
    Calls Tryd.prog 20 #[] w fun e w' => e = .returned (.bool true) ∧ Below w.heap.size w w' := by
  have O35 := fun w => of_any w 35 (by decide)
  have O1 := fun w => of_any w 1 (by decide)
  have Om7 := fun w => of_any w (-7) (by decide)
  have O2 := fun w => of_any w 2 (by decide)
  have Om1 := fun w => of_any w (-1) (by decide)
  have O4 := fun w => of_any w 4 (by decide)
  have Om3 := fun w => of_any w (-3) (by decide)
  have Om120 := fun w => of_any w (-120) (by decide)
  have SC := scaled_35
  have DV := div_72
  have TX := text_120
  rw [wv_small 35 (by decide)] at O35
  rw [wv_small 1 (by decide)] at O1
  rw [wv_m7] at Om7
  rw [wv_small 2 (by decide)] at O2
  rw [wv_m1] at Om1
  rw [wv_small 4 (by decide)] at O4
  rw [wv_m3] at Om3
  rw [wv_m120] at Om120
  rw [wv_small 35 (by decide), wv_small 1 (by decide), wv_small 4 (by decide)] at SC
  rw [wv_m7, wv_small 2 (by decide), wv_m3, wv_m1] at DV
  rw [wv_m120] at TX
  have O35 := hid O35
  have O1 := hid O1
  have Om7 := hid Om7
  have O2 := hid O2
  have Om1 := hid Om1
  have O4 := hid O4
  have Om3 := hid Om3
  have Om120 := hid Om120
  have SC := hid SC
  have DV := hid DV
  have TX := hid TX
  have HT := hid htab
  clear htab
  go_enter Tryd.func20, Tryd.ntmps20
  go_wp2_with fail
  refine Calls.mono (O35.out _) ?_; rintro e w1 ⟨rfl, hb1⟩
  go_wp2_with fail
  refine Calls.mono (O1.out _) ?_; rintro e w2 ⟨rfl, hb2⟩
  go_wp2_with fail
  refine Calls.mono (SC.out _) ?_; rintro e w3 ⟨rfl, hb3⟩
  have HU := (((Up.refl w).trans hb1).trans hb2).trans hb3
  clear hb1 hb2 hb3
  go_wp2_with fail
  refine Calls.mono (Om7.out _) ?_; rintro e w4 ⟨rfl, hb4⟩
  have Ra := (Row.new w3 24 #[.int .i64 0, .int .u64 4]).mod (Mod.of_below hb4 Nil) (fun hf => hf)
  replace HU := (HU.alloc (.cells #[.int .i64 0, .int .u64 4] 24)).trans hb4
  clear hb4
  go_wp2_with fail
  refine Calls.mono (O2.out _) ?_; rintro e w5 ⟨rfl, hb5⟩
  replace Ra := Ra.below hb5 Ra.lt
  replace HU := HU.trans hb5
  clear hb5
  go_wp2_with fail
  refine Calls.mono (DV.out _) ?_; rintro e w6 ⟨rfl, hb6⟩
  replace Ra := Ra.below hb6 Ra.lt
  replace HU := HU.trans hb6
  clear hb6
  have Rq := (Row.new w6 24 #[.int .i64 (-1), .int .u64 18446744073709551613]).alloc (.cells #[.int .i64 (-1), .int .u64 18446744073709551615] 24)
  have Rr := Row.new (w6.alloc (.cells #[.int .i64 (-1), .int .u64 18446744073709551613] 24)) 24 #[.int .i64 (-1), .int .u64 18446744073709551615]
  replace Ra := (Ra.alloc (.cells #[.int .i64 (-1), .int .u64 18446744073709551613] 24)).alloc (.cells #[.int .i64 (-1), .int .u64 18446744073709551615] 24)
  replace HU := (HU.alloc (.cells #[.int .i64 (-1), .int .u64 18446744073709551613] 24)).alloc (.cells #[.int .i64 (-1), .int .u64 18446744073709551615] 24)
  simp only [alloc_size] at Rr
  go_wp2_with fail
  obtain ⟨V, hV⟩ : ∃ V, V = ((w6.alloc (.cells #[.int .i64 (-1), .int .u64 18446744073709551613] 24)).alloc (.cells #[.int .i64 (-1), .int .u64 18446744073709551615] 24)) := ⟨_, rfl⟩
  rw [← hV] at Ra Rq Rr HU ⊢
  clear hV
  have MK : ∀ W, Up V.heap.size V W → Up V.heap.size V W ∧ W.cell? ⟨w3.heap.size, 0, none⟩ = some (.int .i64 0) ∧ W.cell? ⟨w3.heap.size, 1, none⟩ = some (.int .u64 4) ∧ W.cell? ⟨w6.heap.size, 0, none⟩ = some (.int .i64 (-1)) ∧ W.cell? ⟨w6.heap.size, 1, none⟩ = some (.int .u64 18446744073709551613) ∧ W.cell? ⟨w6.heap.size + 1, 0, none⟩ = some (.int .i64 (-1)) ∧ W.cell? ⟨w6.heap.size + 1, 1, none⟩ = some (.int .u64 18446744073709551615) := fun W hW => by
    have h1 := Ra.below hW.below Ra.lt
    have h2 := Rq.below hW.below Rq.lt
    have h3 := Rr.below hW.below Rr.lt
    exact ⟨hW, by simpa using h1.cell 0, by simpa using h1.cell 1, by simpa using h2.cell 0, by simpa using h2.cell 1, by simpa using h3.cell 0, by simpa using h3.cell 1⟩
  have MK := hid MK
  have HUV := hid HU
  clear Ra Rq Rr HU
  refine wp_region_noPanic ?_
  refine wp_region_held_drew (S := fun W => Up V.heap.size V W ∧ W.cell? ⟨w3.heap.size, 0, none⟩ = some (.int .i64 0) ∧ W.cell? ⟨w3.heap.size, 1, none⟩ = some (.int .u64 4) ∧ W.cell? ⟨w6.heap.size, 0, none⟩ = some (.int .i64 (-1)) ∧ W.cell? ⟨w6.heap.size, 1, none⟩ = some (.int .u64 18446744073709551613) ∧ W.cell? ⟨w6.heap.size + 1, 0, none⟩ = some (.int .i64 (-1)) ∧ W.cell? ⟨w6.heap.size + 1, 1, none⟩ = some (.int .u64 18446744073709551615)) (by kernel_rfl) (MK.out _ (Up.refl V).drew) (fun hHeld => ?_)
  refine wpAnyH_take (i := 1) (oi := { dst := some 20, op := Op.build 24 #[(0, Operand.const (Value.int IntKind.i64 (-1))), (1, Operand.const (Value.int IntKind.u64 18446744073709551615))], type := 24, pos := "law.go:15", after := #[], guard := none }) (v := ?_) rfl (by kernel_rfl) (by kernel_rfl) (by kernel_rfl) (fun _ _ _ h => h) (Or.inl ⟨by rfl, ?_⟩) hHeld ?_
  rotate_left
  · intro w' hSw; (try dsimp only at hSw); go_simp <;> with_reducible rfl
  try simp only [Act.put, List.setIfInBounds_toArray, List.set_cons_zero, List.set_cons_succ]
  refine wpAnyH_ready (rs := [0]) (by kernel_rfl) (by simp) ?_
  refine AllReadyH.cons (o := { dst := some 19, op := Op.call { callee := Callee.value (Operand.func 17), args := #[Operand.const (Value.int IntKind.i64 (-1))], argTypes := #[2] }, type := 24, pos := "law.go:15", after := #[], guard := none }) rfl (fun K hK => ?_) AllReadyH.nil
  go_simp
  refine Calls.mono (Om1.out _) ?_; rintro e wk ⟨rfl, hbk⟩
  refine hK.out _ _ (MK.out _ (hHeld.1.trans hbk)) (fun hHeld => ?_)
  clear hK K
  try simp only [Act.put, List.setIfInBounds_toArray, List.set_cons_zero, List.set_cons_succ]
  refine wpAnyH_take (i := 2) (oi := { dst := some 21, op := Op.binOp BinOp.eql 24 (Operand.tmp 19) (Operand.tmp 20) 24, type := 4, pos := "law.go:15", after := #[{ on := 0, ground := Ground.data }, { on := 1, ground := Ground.data }], guard := none }) (v := ?_) rfl (by kernel_rfl) (by kernel_rfl) (by kernel_rfl) (fun _ _ _ h => h) (Or.inl ⟨by rfl, ?_⟩) hHeld ?_
  rotate_left
  · intro w' hSw; (try dsimp only at hSw); go_simp <;> with_reducible rfl
  try simp only [Act.put, List.setIfInBounds_toArray, List.set_cons_zero, List.set_cons_succ]
  refine wpAnyH_take (i := 3) (oi := { dst := some 22, op := Op.move (Operand.tmp 21), type := 4, pos := "law.go:15", after := #[{ on := 2, ground := Ground.data }, { on := 0, ground := Ground.chain }], guard := none }) (v := ?_) rfl (by kernel_rfl) (by kernel_rfl) (by kernel_rfl) (fun _ _ _ h => h) (Or.inl ⟨by rfl, ?_⟩) hHeld ?_
  rotate_left
  · intro w' hSw; (try dsimp only at hSw); go_simp <;> with_reducible rfl
  try simp only [Act.put, List.setIfInBounds_toArray, List.set_cons_zero, List.set_cons_succ]
  refine wpAnyH_take (i := 4) (oi := { dst := some 23, op := Op.move (Operand.tmp 2), type := 25, pos := "law.go:15", after := #[{ on := 3, ground := Ground.guard }], guard := some (3, true) }) (v := ?_) rfl (by kernel_rfl) (by kernel_rfl) (by kernel_rfl) (fun _ _ _ h => h) (Or.inl ⟨by rfl, ?_⟩) hHeld ?_
  rotate_left
  · intro w' hSw; (try dsimp only at hSw); go_simp <;> with_reducible rfl
  try simp only [Act.put, List.setIfInBounds_toArray, List.set_cons_zero, List.set_cons_succ]
  refine wpAnyH_take (i := 5) (oi := { dst := some 24, op := Op.binOp BinOp.eql 25 (Operand.tmp 23) (Operand.const (Value.int IntKind.i64 0)) 25, type := 4, pos := "law.go:15", after := #[{ on := 4, ground := Ground.data }, { on := 3, ground := Ground.guard }], guard := some (3, true) }) (v := ?_) rfl (by kernel_rfl) (by kernel_rfl) (by kernel_rfl) (fun _ _ _ h => h) (Or.inl ⟨by rfl, ?_⟩) hHeld ?_
  rotate_left
  · intro w' hSw; (try dsimp only at hSw); go_simp <;> with_reducible rfl
  try simp only [Act.put, List.setIfInBounds_toArray, List.set_cons_zero, List.set_cons_succ]
  refine wpAnyH_take (i := 6) (oi := { dst := some 25, op := Op.pick (Operand.tmp 22) (Operand.tmp 24) (Operand.const (Value.bool false)), type := 4, pos := "law.go:15", after := #[{ on := 3, ground := Ground.data }, { on := 5, ground := Ground.data }], guard := none }) (v := ?_) rfl (by kernel_rfl) (by kernel_rfl) (by kernel_rfl) (fun _ _ _ h => h) (Or.inl ⟨by rfl, ?_⟩) hHeld ?_
  rotate_left
  · intro w' hSw; (try dsimp only at hSw); go_simp <;> with_reducible rfl
  try simp only [Act.put, List.setIfInBounds_toArray, List.set_cons_zero, List.set_cons_succ]
  refine wpAnyH_take (i := 7) (oi := { dst := some 26, op := Op.move (Operand.tmp 25), type := 4, pos := "law.go:15", after := #[{ on := 6, ground := Ground.data }, { on := 3, ground := Ground.chain }], guard := none }) (v := ?_) rfl (by kernel_rfl) (by kernel_rfl) (by kernel_rfl) (fun _ _ _ h => h) (Or.inl ⟨by rfl, ?_⟩) hHeld ?_
  rotate_left
  · intro w' hSw; (try dsimp only at hSw); go_simp <;> with_reducible rfl
  try simp only [Act.put, List.setIfInBounds_toArray, List.set_cons_zero, List.set_cons_succ]
  refine wpAnyH_take (i := 8) (oi := { dst := some 27, op := Op.load 24 (Operand.tmp 1), type := 24, pos := "law.go:15", after := #[{ on := 7, ground := Ground.guard }], guard := some (7, true) }) (v := ?_) rfl (by kernel_rfl) (by kernel_rfl) (by kernel_rfl) (fun _ _ _ h => h) (Or.inl ⟨by rfl, ?_⟩) hHeld ?_
  rotate_left
  · intro w' hSw; (try dsimp only at hSw); go_simp <;> with_reducible rfl
  try simp only [Act.put, List.setIfInBounds_toArray, List.set_cons_zero, List.set_cons_succ]
  refine wpAnyH_ready (rs := [9]) (by kernel_rfl) (by simp) ?_
  refine AllReadyH.cons (o := { dst := some 28, op := Op.call { callee := Callee.value (Operand.func 17), args := #[Operand.const (Value.int IntKind.i64 4)], argTypes := #[2] }, type := 24, pos := "law.go:15", after := #[{ on := 7, ground := Ground.chain }, { on := 7, ground := Ground.guard }], guard := some (7, true) }) rfl (fun K hK => ?_) AllReadyH.nil
  go_simp
  refine Calls.mono (O4.out _) ?_; rintro e wk ⟨rfl, hbk⟩
  refine hK.out _ _ (MK.out _ (hHeld.1.trans hbk)) (fun hHeld => ?_)
  clear hK K
  try simp only [Act.put, List.setIfInBounds_toArray, List.set_cons_zero, List.set_cons_succ]
  refine wpAnyH_take (i := 10) (oi := { dst := some 29, op := Op.binOp BinOp.eql 24 (Operand.tmp 27) (Operand.tmp 28) 24, type := 4, pos := "law.go:15", after := #[{ on := 8, ground := Ground.data }, { on := 9, ground := Ground.data }, { on := 7, ground := Ground.guard }], guard := some (7, true) }) (v := ?_) rfl (by kernel_rfl) (by kernel_rfl) (by kernel_rfl) (fun _ _ _ h => h) (Or.inl ⟨by rfl, ?_⟩) hHeld ?_
  rotate_left
  · intro w' hSw; (try dsimp only at hSw); go_simp <;> with_reducible rfl
  try simp only [Act.put, List.setIfInBounds_toArray, List.set_cons_zero, List.set_cons_succ]
  refine wpAnyH_take (i := 11) (oi := { dst := some 30, op := Op.pick (Operand.tmp 26) (Operand.tmp 29) (Operand.const (Value.bool false)), type := 4, pos := "law.go:15", after := #[{ on := 7, ground := Ground.data }, { on := 10, ground := Ground.data }], guard := none }) (v := ?_) rfl (by kernel_rfl) (by kernel_rfl) (by kernel_rfl) (fun _ _ _ h => h) (Or.inl ⟨by rfl, ?_⟩) hHeld ?_
  rotate_left
  · intro w' hSw; (try dsimp only at hSw); go_simp <;> with_reducible rfl
  try simp only [Act.put, List.setIfInBounds_toArray, List.set_cons_zero, List.set_cons_succ]
  refine wpAnyH_take (i := 12) (oi := { dst := some 31, op := Op.move (Operand.tmp 30), type := 4, pos := "law.go:15", after := #[{ on := 11, ground := Ground.data }, { on := 9, ground := Ground.chain }], guard := none }) (v := ?_) rfl (by kernel_rfl) (by kernel_rfl) (by kernel_rfl) (fun _ _ _ h => h) (Or.inl ⟨by rfl, ?_⟩) hHeld ?_
  rotate_left
  · intro w' hSw; (try dsimp only at hSw); go_simp <;> with_reducible rfl
  try simp only [Act.put, List.setIfInBounds_toArray, List.set_cons_zero, List.set_cons_succ]
  refine wpAnyH_take (i := 13) (oi := { dst := some 32, op := Op.move (Operand.tmp 5), type := 25, pos := "law.go:15", after := #[{ on := 12, ground := Ground.guard }], guard := some (12, true) }) (v := ?_) rfl (by kernel_rfl) (by kernel_rfl) (by kernel_rfl) (fun _ _ _ h => h) (Or.inl ⟨by rfl, ?_⟩) hHeld ?_
  rotate_left
  · intro w' hSw; (try dsimp only at hSw); go_simp <;> with_reducible rfl
  try simp only [Act.put, List.setIfInBounds_toArray, List.set_cons_zero, List.set_cons_succ]
  refine wpAnyH_take (i := 14) (oi := { dst := some 33, op := Op.binOp BinOp.eql 25 (Operand.tmp 32) (Operand.const (Value.int IntKind.i64 0)) 25, type := 4, pos := "law.go:15", after := #[{ on := 13, ground := Ground.data }, { on := 12, ground := Ground.guard }], guard := some (12, true) }) (v := ?_) rfl (by kernel_rfl) (by kernel_rfl) (by kernel_rfl) (fun _ _ _ h => h) (Or.inl ⟨by rfl, ?_⟩) hHeld ?_
  rotate_left
  · intro w' hSw; (try dsimp only at hSw); go_simp <;> with_reducible rfl
  try simp only [Act.put, List.setIfInBounds_toArray, List.set_cons_zero, List.set_cons_succ]
  refine wpAnyH_take (i := 15) (oi := { dst := some 34, op := Op.pick (Operand.tmp 31) (Operand.tmp 33) (Operand.const (Value.bool false)), type := 4, pos := "law.go:15", after := #[{ on := 12, ground := Ground.data }, { on := 14, ground := Ground.data }], guard := none }) (v := ?_) rfl (by kernel_rfl) (by kernel_rfl) (by kernel_rfl) (fun _ _ _ h => h) (Or.inl ⟨by rfl, ?_⟩) hHeld ?_
  rotate_left
  · intro w' hSw; (try dsimp only at hSw); go_simp <;> with_reducible rfl
  try simp only [Act.put, List.setIfInBounds_toArray, List.set_cons_zero, List.set_cons_succ]
  refine wpAnyH_take (i := 16) (oi := { dst := some 35, op := Op.move (Operand.tmp 34), type := 4, pos := "law.go:15", after := #[{ on := 15, ground := Ground.data }, { on := 12, ground := Ground.chain }], guard := none }) (v := ?_) rfl (by kernel_rfl) (by kernel_rfl) (by kernel_rfl) (fun _ _ _ h => h) (Or.inl ⟨by rfl, ?_⟩) hHeld ?_
  rotate_left
  · intro w' hSw; (try dsimp only at hSw); go_simp <;> with_reducible rfl
  try simp only [Act.put, List.setIfInBounds_toArray, List.set_cons_zero, List.set_cons_succ]
  refine wpAnyH_take (i := 17) (oi := { dst := some 36, op := Op.load 24 (Operand.tmp 3), type := 24, pos := "law.go:15", after := #[{ on := 16, ground := Ground.guard }], guard := some (16, true) }) (v := ?_) rfl (by kernel_rfl) (by kernel_rfl) (by kernel_rfl) (fun _ _ _ h => h) (Or.inl ⟨by rfl, ?_⟩) hHeld ?_
  rotate_left
  · intro w' hSw; (try dsimp only at hSw); go_simp <;> with_reducible rfl
  try simp only [Act.put, List.setIfInBounds_toArray, List.set_cons_zero, List.set_cons_succ]
  refine wpAnyH_ready (rs := [18]) (by kernel_rfl) (by simp) ?_
  refine AllReadyH.cons (o := { dst := some 37, op := Op.call { callee := Callee.value (Operand.func 17), args := #[Operand.const (Value.int IntKind.i64 (-3))], argTypes := #[2] }, type := 24, pos := "law.go:15", after := #[{ on := 16, ground := Ground.chain }, { on := 16, ground := Ground.guard }], guard := some (16, true) }) rfl (fun K hK => ?_) AllReadyH.nil
  go_simp
  refine Calls.mono (Om3.out _) ?_; rintro e wk ⟨rfl, hbk⟩
  refine hK.out _ _ (MK.out _ (hHeld.1.trans hbk)) (fun hHeld => ?_)
  clear hK K
  try simp only [Act.put, List.setIfInBounds_toArray, List.set_cons_zero, List.set_cons_succ]
  refine wpAnyH_take (i := 19) (oi := { dst := some 38, op := Op.binOp BinOp.eql 24 (Operand.tmp 36) (Operand.tmp 37) 24, type := 4, pos := "law.go:15", after := #[{ on := 17, ground := Ground.data }, { on := 18, ground := Ground.data }, { on := 16, ground := Ground.guard }], guard := some (16, true) }) (v := ?_) rfl (by kernel_rfl) (by kernel_rfl) (by kernel_rfl) (fun _ _ _ h => h) (Or.inl ⟨by rfl, ?_⟩) hHeld ?_
  rotate_left
  · intro w' hSw; (try dsimp only at hSw); go_simp <;> with_reducible rfl
  try simp only [Act.put, List.setIfInBounds_toArray, List.set_cons_zero, List.set_cons_succ]
  refine wpAnyH_take (i := 20) (oi := { dst := some 39, op := Op.pick (Operand.tmp 35) (Operand.tmp 38) (Operand.const (Value.bool false)), type := 4, pos := "law.go:15", after := #[{ on := 16, ground := Ground.data }, { on := 19, ground := Ground.data }], guard := none }) (v := ?_) rfl (by kernel_rfl) (by kernel_rfl) (by kernel_rfl) (fun _ _ _ h => h) (Or.inl ⟨by rfl, ?_⟩) hHeld ?_
  rotate_left
  · intro w' hSw; (try dsimp only at hSw); go_simp <;> with_reducible rfl
  try simp only [Act.put, List.setIfInBounds_toArray, List.set_cons_zero, List.set_cons_succ]
  refine wpAnyH_take (i := 21) (oi := { dst := some 40, op := Op.move (Operand.tmp 39), type := 4, pos := "law.go:15", after := #[{ on := 20, ground := Ground.data }, { on := 18, ground := Ground.chain }], guard := none }) (v := ?_) rfl (by kernel_rfl) (by kernel_rfl) (by kernel_rfl) (fun _ _ _ h => h) (Or.inl ⟨by rfl, ?_⟩) hHeld ?_
  rotate_left
  · intro w' hSw; (try dsimp only at hSw); go_simp <;> with_reducible rfl
  try simp only [Act.put, List.setIfInBounds_toArray, List.set_cons_zero, List.set_cons_succ]
  refine wpAnyH_take (i := 22) (oi := { dst := some 41, op := Op.load 24 (Operand.tmp 4), type := 24, pos := "law.go:15", after := #[{ on := 21, ground := Ground.guard }], guard := some (21, true) }) (v := ?_) rfl (by kernel_rfl) (by kernel_rfl) (by kernel_rfl) (fun _ _ _ h => h) (Or.inl ⟨by rfl, ?_⟩) hHeld ?_
  rotate_left
  · intro w' hSw; (try dsimp only at hSw); go_simp <;> with_reducible rfl
  try simp only [Act.put, List.setIfInBounds_toArray, List.set_cons_zero, List.set_cons_succ]
  refine wpAnyH_ready (rs := [23]) (by kernel_rfl) (by simp) ?_
  refine AllReadyH.cons (o := { dst := some 42, op := Op.call { callee := Callee.value (Operand.func 17), args := #[Operand.const (Value.int IntKind.i64 (-1))], argTypes := #[2] }, type := 24, pos := "law.go:15", after := #[{ on := 21, ground := Ground.chain }, { on := 21, ground := Ground.guard }], guard := some (21, true) }) rfl (fun K hK => ?_) AllReadyH.nil
  go_simp
  refine Calls.mono (Om1.out _) ?_; rintro e wk ⟨rfl, hbk⟩
  refine hK.out _ _ (MK.out _ (hHeld.1.trans hbk)) (fun hHeld => ?_)
  clear hK K
  try simp only [Act.put, List.setIfInBounds_toArray, List.set_cons_zero, List.set_cons_succ]
  refine wpAnyH_take (i := 24) (oi := { dst := some 43, op := Op.binOp BinOp.eql 24 (Operand.tmp 41) (Operand.tmp 42) 24, type := 4, pos := "law.go:15", after := #[{ on := 22, ground := Ground.data }, { on := 23, ground := Ground.data }, { on := 21, ground := Ground.guard }], guard := some (21, true) }) (v := ?_) rfl (by kernel_rfl) (by kernel_rfl) (by kernel_rfl) (fun _ _ _ h => h) (Or.inl ⟨by rfl, ?_⟩) hHeld ?_
  rotate_left
  · intro w' hSw; (try dsimp only at hSw); go_simp <;> with_reducible rfl
  try simp only [Act.put, List.setIfInBounds_toArray, List.set_cons_zero, List.set_cons_succ]
  refine wpAnyH_take (i := 25) (oi := { dst := some 44, op := Op.pick (Operand.tmp 40) (Operand.tmp 43) (Operand.const (Value.bool false)), type := 4, pos := "law.go:15", after := #[{ on := 21, ground := Ground.data }, { on := 24, ground := Ground.data }], guard := none }) (v := ?_) rfl (by kernel_rfl) (by kernel_rfl) (by kernel_rfl) (fun _ _ _ h => h) (Or.inl ⟨by rfl, ?_⟩) hHeld ?_
  rotate_left
  · intro w' hSw; (try dsimp only at hSw); go_simp <;> with_reducible rfl
  try simp only [Act.put, List.setIfInBounds_toArray, List.set_cons_zero, List.set_cons_succ]
  refine wpAnyH_take (i := 26) (oi := { dst := some 45, op := Op.move (Operand.tmp 44), type := 4, pos := "law.go:15", after := #[{ on := 25, ground := Ground.data }, { on := 23, ground := Ground.chain }], guard := none }) (v := ?_) rfl (by kernel_rfl) (by kernel_rfl) (by kernel_rfl) (fun _ _ _ h => h) (Or.inl ⟨by rfl, ?_⟩) hHeld ?_
  rotate_left
  · intro w' hSw; (try dsimp only at hSw); go_simp <;> with_reducible rfl
  try simp only [Act.put, List.setIfInBounds_toArray, List.set_cons_zero, List.set_cons_succ]
  refine wpAnyH_ready (rs := [27]) (by kernel_rfl) (by simp) ?_
  refine AllReadyH.cons (o := { dst := some 46, op := Op.call { callee := Callee.value (Operand.func 17), args := #[Operand.const (Value.int IntKind.i64 (-120))], argTypes := #[2] }, type := 24, pos := "law.go:15", after := #[{ on := 26, ground := Ground.chain }, { on := 26, ground := Ground.guard }], guard := some (26, true) }) rfl (fun K hK => ?_) AllReadyH.nil
  go_simp
  refine Calls.mono (Om120.out _) ?_; rintro e wk ⟨rfl, hbk⟩
  refine hK.out _ _ (MK.out _ (hHeld.1.trans hbk)) (fun hHeld => ?_)
  clear hK K
  try simp only [Act.put, List.setIfInBounds_toArray, List.set_cons_zero, List.set_cons_succ]
  refine wpAnyH_ready (rs := [28]) (by kernel_rfl) (by simp) ?_
  refine AllReadyH.cons (o := { dst := some 47, op := Op.call { callee := Callee.value (Operand.func 21), args := #[Operand.tmp 46], argTypes := #[24] }, type := 9, pos := "law.go:15", after := #[{ on := 27, ground := Ground.data }, { on := 27, ground := Ground.chain }, { on := 26, ground := Ground.guard }], guard := some (26, true) }) rfl (fun K hK => ?_) AllReadyH.nil
  go_simp
  refine Calls.mono (TX.out _ (tab_below HT.out (HUV.out.trans hHeld.1.below).below hg) (by have h1 := hHeld.1.size; have h2 := HUV.out.size; omega)) ?_; rintro e wk ⟨rfl, hbk⟩
  refine hK.out _ _ (MK.out _ (hHeld.1.trans hbk)) (fun hHeld => ?_)
  clear hK K
  try simp only [Act.put, List.setIfInBounds_toArray, List.set_cons_zero, List.set_cons_succ]
  refine wpAnyH_take (i := 29) (oi := { dst := some 48, op := Op.binOp BinOp.eql 9 (Operand.tmp 47) (Operand.const (Value.string { data := #[45, 49, 50, 48] })) 9, type := 4, pos := "law.go:15", after := #[{ on := 28, ground := Ground.data }, { on := 26, ground := Ground.guard }], guard := some (26, true) }) (v := ?_) rfl (by kernel_rfl) (by kernel_rfl) (by kernel_rfl) (fun _ _ _ h => h) (Or.inl ⟨by rfl, ?_⟩) hHeld ?_
  rotate_left
  · intro w' hSw; (try dsimp only at hSw); go_simp <;> with_reducible rfl
  try simp only [Act.put, List.setIfInBounds_toArray, List.set_cons_zero, List.set_cons_succ]
  refine wpAnyH_take (i := 30) (oi := { dst := some 49, op := Op.pick (Operand.tmp 45) (Operand.tmp 48) (Operand.const (Value.bool false)), type := 4, pos := "law.go:15", after := #[{ on := 26, ground := Ground.data }, { on := 29, ground := Ground.data }], guard := none }) (v := ?_) rfl (by kernel_rfl) (by kernel_rfl) (by kernel_rfl) (fun _ _ _ h => h) (Or.inl ⟨by rfl, ?_⟩) hHeld ?_
  rotate_left
  · intro w' hSw; (try dsimp only at hSw); go_simp <;> with_reducible rfl
  try simp only [Act.put, List.setIfInBounds_toArray, List.set_cons_zero, List.set_cons_succ]
  refine wpAnyH_take (i := 31) (oi := { dst := some 0, op := Op.assign (Operand.tmp 49), type := 4, pos := "law.go:15", after := #[{ on := 30, ground := Ground.data }, { on := 28, ground := Ground.chain }, { on := 0, ground := Ground.phase }, { on := 1, ground := Ground.phase }, { on := 2, ground := Ground.phase }, { on := 3, ground := Ground.phase }, { on := 4, ground := Ground.phase }, { on := 5, ground := Ground.phase }, { on := 6, ground := Ground.phase }, { on := 7, ground := Ground.phase }, { on := 8, ground := Ground.phase }, { on := 9, ground := Ground.phase }, { on := 10, ground := Ground.phase }, { on := 11, ground := Ground.phase }, { on := 12, ground := Ground.phase }, { on := 13, ground := Ground.phase }, { on := 14, ground := Ground.phase }, { on := 15, ground := Ground.phase }, { on := 16, ground := Ground.phase }, { on := 17, ground := Ground.phase }, { on := 18, ground := Ground.phase }, { on := 19, ground := Ground.phase }, { on := 20, ground := Ground.phase }, { on := 21, ground := Ground.phase }, { on := 22, ground := Ground.phase }, { on := 23, ground := Ground.phase }, { on := 24, ground := Ground.phase }, { on := 25, ground := Ground.phase }, { on := 26, ground := Ground.phase }, { on := 27, ground := Ground.phase }, { on := 28, ground := Ground.phase }, { on := 29, ground := Ground.phase }, { on := 30, ground := Ground.phase }], guard := none }) (v := ?_) rfl (by kernel_rfl) (by kernel_rfl) (by kernel_rfl) (fun _ _ _ h => h) (Or.inl ⟨by rfl, ?_⟩) hHeld ?_
  rotate_left
  · intro w' hSw; (try dsimp only at hSw); go_simp <;> with_reducible rfl
  try simp only [Act.put, List.setIfInBounds_toArray, List.set_cons_zero, List.set_cons_succ]
  refine wpAnyH_done (by kernel_rfl) ?_ _
  refine NoPanic.normal ?_
  go_wp2_with fail
  go_ret
  exact ⟨rfl, (HUV.out.trans hHeld.1.below).below⟩
end Go.Proofs.YtfalllekhcocgaaDoor

namespace Go.Proofs.YtfalllekhcocgaaDoor
open Go.RowKit

theorem alloc_sz (w : World) (o : Obj) : (w.alloc o).heap.size = w.heap.size + 1 := by simp
theorem size_D : (Tryd.prog.info? 74).map (·.size) = some 16 := by kernel_rfl
theorem size_Dn (n : Nat) : (Tryd.prog.info? 74).map (·.size) = some (digs n).size := by rw [digs_size]; exact size_D

section
variable {B : Nat} {w a : World} {g g' : Nat} {t : TypeId} {cs : Array Value}
theorem Row.putRow (h : Row w g t cs) (cs' : Array Value) : Row (w.setRow g cs') g t cs' := setRow_heap w g cs cs' t _ h
theorem Row.farRow (h : Row w g t cs) (hne : g ≠ g') (cs' : Array Value) : Row (w.setRow g' cs') g t cs := (setRow_other w g' g cs' hne).trans h
theorem Up.setRow (h : Up B w a) {p : Nat} (hp : B ≤ p) (cs : Array Value) : Up B w (a.setRow p cs) :=
  ⟨h.below.trans ⟨rfl, rfl, rfl, by simp, fun k hk => setRow_other a p k cs (by omega)⟩, by rw [setRow_size]; exact h.size⟩
end
theorem digs_one (n : Nat) : (digs n).all (·.oneCell') = true := by
  rw [Array.all_eq_true]
  intro i hi
  rw [digs_size] at hi
  have h := digs_get n hi
  rw [Array.getElem?_eq_some_iff] at h
  obtain ⟨_, h⟩ := h
  rw [h]
  rfl
theorem cells_u64 : Tryd.prog.cellsOf 22 = 1 := by kernel_rfl
theorem info_u64 : (Tryd.prog.info? 22).map (fun i => (i.zero, i.size, i.bytes)) = some (some (.int .u64 0), 1, 8) := by kernel_rfl
theorem part_D (n i : Nat) (h : i < 16) (W : World) : (part 22 (digs n) i).run Tryd.prog W = .ok (.int .u64 (dg n i : Int)) W := by
  unfold part
  have hg := digs_get n h
  simp [isAgg, Sem.run_bind, run_underlying Tryd.underlying22, hg]
theorem items_D (n : Nat) (W : World) : ∀ is : List Nat, (∀ i ∈ is, i < 16) → (Op.eqItems 9999 22 1 (digs n) (digs 0) is).run Tryd.prog W = .ok (is.all fun i => decide (dg n i = 0)) W
  | [], _ => by simp [Op.eqItems]
  | i :: is, h => by
    have h1 := part_D n i (h i List.mem_cons_self) W
    have h2 := part_D 0 i (h i List.mem_cons_self) W
    have ih := items_D n W is (fun j hj => h j (List.mem_cons_of_mem _ hj))
    have he := run_equalIn_int (P := Tryd.prog) W 9998 22 .u64 .u64 (dg n i : Int) (dg 0 i : Int) Tryd.underlying22
    rw [dg_zero] at he h2
    simp only [Op.eqItems, Sem.run_bind, Nat.mul_one, h1, h2, he, Result.andThen_ok]
    by_cases h0 : dg n i = 0
    · simp [h0, ih]
    · simp [h0]
theorem all_zero {n : Nat} (hn : n < BP 16) : ((List.range 16).all fun i => decide (dg n i = 0)) = decide (n = 0) := by
  rw [Bool.eq_iff_iff]
  simp only [List.all_eq_true, List.mem_range, decide_eq_true_eq]
  constructor
  · intro h
    exact dg_ext hn (BP_pos 16) (fun i hi => by rw [h i hi, dg_zero])
  · rintro rfl i _
    exact dg_zero i
theorem digs_0 : digs 0 = #[.int .u64 0, .int .u64 0, .int .u64 0, .int .u64 0, .int .u64 0, .int .u64 0, .int .u64 0, .int .u64 0, .int .u64 0, .int .u64 0, .int .u64 0, .int .u64 0, .int .u64 0, .int .u64 0, .int .u64 0, .int .u64 0] := by kernel_rfl
theorem eql_D (n : Nat) (hn : n < BP 16) (W : World) : (Op.equalIn 10000 74 (.agg (digs n)) (.agg #[.int .u64 0, .int .u64 0, .int .u64 0, .int .u64 0, .int .u64 0, .int .u64 0, .int .u64 0, .int .u64 0, .int .u64 0, .int .u64 0, .int .u64 0, .int .u64 0, .int .u64 0, .int .u64 0, .int .u64 0, .int .u64 0])).run Tryd.prog W = .ok (decide (n = 0)) W := by
  obtain ⟨i, hi⟩ : ∃ i, Tryd.prog.info? 74 = some i := by
    have := size_D
    cases h : Tryd.prog.info? 74 with
    | none => rw [h] at this; cases this
    | some i => exact ⟨i, rfl⟩
  obtain ⟨j, hj, _⟩ := info_parts info_u64
  rw [← digs_0, run_equalIn_array W 9999 (digs n) (digs 0) Tryd.underlying74 hj, cells_u64, items_D n W _ (fun i hi => by simpa using hi), all_zero hn]

set_option maxRecDepth 100000 in
theorem rzero_any (w : World) (n : Nat) (hn : n < BP 16) : Calls Tryd.prog 64 #[DV n] w fun e w' => e = .returned (.bool (decide (n = 0))) ∧ Below w.heap.size w w' := by
  have hR := Row.new w 74 (digs n)
  have hU := ((Up.refl w).alloc (.cells (digs n) 74))
  have ke := eql_D n hn
  obtain ⟨b, hb⟩ : ∃ b, b = decide (n = 0) := ⟨_, rfl⟩
  rw [← hb] at ke ⊢
  clear hb hn
  unfold DV
  go_enter Tryd.func64, Tryd.ntmps64
  go_wp2_with (refine wpList_load_row rfl 74 _ rfl (w.heap.size) rfl 74 (digs n) (0, 0) _ hR Tryd.underlying74 rfl (size_Dn n) ?_)
  go_ret
  exact ⟨rfl, hU.below⟩

/-- a comparison's answer -/
def cmpN (m n : Nat) : Int := if m < n then -1 else if n < m then 1 else 0

set_option maxRecDepth 100000 in
set_option maxHeartbeats 1000000 in
theorem rcmp_any (w : World) (m n : Nat) (hm : m < BP 16) (hn : n < BP 16) : Calls Tryd.prog 88 #[DV m, DV n] w fun e w' => e = .returned (.int .i64 (cmpN m n)) ∧ Below w.heap.size w w' := by
  have hA := (Row.new w 74 (digs m)).alloc (.cells (digs n) 74)
  have hB := Row.new (w.alloc (.cells (digs m) 74)) 74 (digs n)
  have hU := ((Up.refl w).alloc (.cells (digs m) 74)).alloc (.cells (digs n) 74)
  simp only [alloc_sz] at hB
  have H0 := hid (show m / BP 16 = n / BP 16 by rw [Nat.div_eq_of_lt hm, Nat.div_eq_of_lt hn])
  clear hm hn
  unfold DV
  go_enter Tryd.func88, Tryd.ntmps88
  go_wp2_with fail
  obtain ⟨V, hV⟩ : ∃ V, V = (w.alloc (.cells (digs m) 74)).alloc (.cells (digs n) 74) := ⟨_, rfl⟩
  rw [← hV] at hA hB hU ⊢
  clear hV
  go_loopw [5] (fun i wr => ∃ k : Nat, k ≤ 16 ∧ i = .int .i64 ((k : Int) - 1) ∧ m / BP k = n / BP k ∧ Row wr w.heap.size 74 (digs m) ∧ Row wr (w.heap.size + 1) 74 (digs n) ∧ Up w.heap.size w wr) (fun i _ => (intOf i + 1).toNat)
  case atStart => exact ⟨16, by omega, rfl, H0.out, hA, hB, hU⟩
  case round =>
    clear hA hB hU H0
    obtain ⟨k, hk, rfl, hv, hA, hB, hU⟩ := hrel
    rcases k with _ | j
    · have hmn : m = n := by simpa [BP_zero] using hv
      subst hmn
      go_wp2
      go_ret
      exact ⟨by unfold cmpN; simp, hU.below⟩
    · have ca := hA.cell j
      have cb := hB.cell j
      rw [digs_get _ (by omega)] at ca cb
      have hj : ((j + 1 : Nat) : Int) - 1 = (j : Int) := by omega
      rw [hj]
      have hc := cmp_step hv
      obtain ⟨x, hx⟩ : ∃ x, x = dg m j := ⟨_, rfl⟩
      obtain ⟨y, hy⟩ : ∃ y, y = dg n j := ⟨_, rfl⟩
      rw [← hx] at ca hc
      rw [← hy] at cb hc
      have HC := hid hc
      clear hv hc hj hx hy
      rcases Nat.lt_trichotomy x y with hxy | hxy | hxy
      · have b1 : ((x : Int) != (y : Int)) = true := by simp; omega
        have hres : cmpN m n = -1 := by unfold cmpN; rw [if_pos (HC.out.2.1 hxy)]
        have HR := hid hres
        clear hres
        go_wp2
        go_quiet (fail)
        go_wp2
        clear b1
        go_quiet (fail)
        go_wp2
        go_ret
        exact ⟨by rw [HR.out]; rfl, ((hU.drewN _).drewN _).below⟩
      · subst hxy
        go_wp2
        go_quiet (fail)
        go_wp2
        go_roundw
        case rel => exact ⟨j, by omega, by simp, HC.out.1 (by first | rfl | trivial), hA, hB, hU.drewN _⟩
        case measure => simp [intOf]
      · have b1 : ((x : Int) != (y : Int)) = true := by simp; omega
        have b2 : decide ((x : Int) < (y : Int)) = false := by simp; omega
        have hres : cmpN m n = 1 := by unfold cmpN; have := HC.out.2.2 hxy; rw [if_neg (by omega), if_pos this]
        have HR := hid hres
        clear hres
        go_wp2
        go_quiet (fail)
        go_wp2
        clear b1
        go_quiet (fail)
        go_wp2
        go_ret
        exact ⟨by rw [HR.out]; rfl, ((hU.drewN _).drewN _).below⟩

set_option maxRecDepth 100000 in
set_option maxHeartbeats 1000000 in
theorem radd_any (w : World) (m n : Nat) (hm : m + n < BP 16) : Calls Tryd.prog 87 #[DV m, DV n] w fun e w' => e = .returned (DV (m + n)) ∧ Below w.heap.size w w' := by
  have hA := (((Row.new w 74 (digs m)).alloc (.cells (digs n) 74)).alloc (.cells (digs 0) 74)).alloc (.cells (digs 0) 74)
  have hB := ((Row.new (w.alloc (.cells (digs m) 74)) 74 (digs n)).alloc (.cells (digs 0) 74)).alloc (.cells (digs 0) 74)
  have hO := (Row.new ((w.alloc (.cells (digs m) 74)).alloc (.cells (digs n) 74)) 74 (digs 0)).alloc (.cells (digs 0) 74)
  have hC := Row.new (((w.alloc (.cells (digs m) 74)).alloc (.cells (digs n) 74)).alloc (.cells (digs 0) 74)) 74 (digs 0)
  have hU := ((((Up.refl w).alloc (.cells (digs m) 74)).alloc (.cells (digs n) 74)).alloc (.cells (digs 0) 74)).alloc (.cells (digs 0) 74)
  simp only [alloc_sz] at hB hO hC
  have HM := hid hm
  clear hm
  unfold DV
  go_enter Tryd.func87, Tryd.ntmps87
  go_wp2_with fail
  obtain ⟨V, hV⟩ : ∃ V, V = (((w.alloc (.cells (digs m) 74)).alloc (.cells (digs n) 74)).alloc (.cells (digs 0) 74)).alloc (.cells (digs 0) 74) := ⟨_, rfl⟩
  rw [digs_0] at hV
  rw [← hV]
  rw [← digs_0] at hV
  rw [← hV] at hA hB hO hC hU
  clear hV
  go_loopw [6, 7] (fun c i wr => ∃ k t : Nat, k ≤ 16 ∧ i = .int .i64 (k : Int) ∧ c = .int .u64 (carry m n k : Int) ∧ (∀ j, dg t j = if j < k then dg (m + n) j else 0) ∧ t < BP 16 ∧ Row wr w.heap.size 74 (digs m) ∧ Row wr (w.heap.size + 1) 74 (digs n) ∧ Row wr (w.heap.size + 1 + 1) 74 (digs 0) ∧ Row wr (w.heap.size + 1 + 1 + 1) 74 (digs t) ∧ Up w.heap.size w wr) (fun _ i _ => 16 - (intOf i).toNat)
  case atStart => exact ⟨0, 0, by omega, rfl, by rw [carry_zero]; rfl, fun j => by rw [dg_zero]; simp, BP_pos 16, hA, hB, hO, hC, hU⟩
  case round =>
    clear hA hB hO hC hU
    obtain ⟨k, t, hk, rfl, rfl, ht, htl, hA, hB, hO, hC, hU⟩ := hrel
    by_cases hlt : k < 16
    · have ca := hA.cell k
      have cb := hB.cell k
      have cf := hC.frozen k
      have cc := hC.cell k
      rw [digs_get _ hlt] at ca cb cc
      have hs := add_dg m n k
      have l1 := dg_lt m k
      have l2 := dg_lt n k
      have l3 := carry_le m n k
      have l5 := dg_lt (m + n) k
      obtain ⟨x, hx⟩ : ∃ x, x = dg m k := ⟨_, rfl⟩
      obtain ⟨y, hy⟩ : ∃ y, y = dg n k := ⟨_, rfl⟩
      obtain ⟨c, hc⟩ : ∃ c, c = carry m n k := ⟨_, rfl⟩
      obtain ⟨s, hs1⟩ : ∃ s, s = dg (m + n) k := ⟨_, rfl⟩
      obtain ⟨c', hc'⟩ : ∃ c', c' = carry m n (k + 1) := ⟨_, rfl⟩
      rw [← hx] at ca hs l1
      rw [← hy] at cb hs l2
      rw [← hc] at hs l3 ⊢
      rw [← hs1, ← hc'] at hs
      rw [← hs1] at l5
      have HS := hid hs1
      have HC := hid hc'
      have w1 : IntKind.u64.wrap ((x : Int) + y) = (x : Int) + y := by rw [IntKind.wrap_u64]; omega
      have w2 : IntKind.u64.wrap ((x : Int) + y + c) = (x : Int) + y + c := by rw [IntKind.wrap_u64]; omega
      have w3 : ((x : Int) + y + c) % 4294967296 = (s : Int) := by omega
      have w4 : ((x : Int) + y + c) / 4294967296 = (c' : Int) := by omega
      have HT := hid ht
      have HA := hA.far (p := ⟨w.heap.size + 1 + 1 + 1, k, none⟩) (by first | (simp; done) | (simp; omega)) (.int .u64 (s : Int))
      have HB := hB.far (p := ⟨w.heap.size + 1 + 1 + 1, k, none⟩) (by first | (simp; done) | (simp; omega)) (.int .u64 (s : Int))
      have HO := hO.far (p := ⟨w.heap.size + 1 + 1 + 1, k, none⟩) (by simp) (.int .u64 (s : Int))
      have HR := hC.set k (.int .u64 (s : Int))
      rw [digs_set t l5] at HR
      have HU := hU.setCell (p := w.heap.size + 1 + 1 + 1) (i := k) (by omega) (.int .u64 (s : Int))
      clear hs hx hy hc hs1 hc' ht
      go_wp2
      go_quiet (fail)
      go_wp2
      go_roundw
      case rel =>
        refine ⟨k + 1, put t k s, by omega, by go_num, by rw [w4, HC.out], fun j => ?_, put_lt htl hlt l5, HA, HB, HO, HR, (hU.drewN _).setCell (by omega) _⟩
        rw [dg_put l5, HT.out j, HS.out]
        by_cases hj : j = k
        · subst hj
          rw [if_pos rfl, if_pos (by omega)]
        · rw [if_neg hj]
          by_cases hj' : j < k
          · rw [if_pos hj', if_pos (by omega)]
          · rw [if_neg hj', if_neg (by omega)]
      case measure => simp [intOf]; omega
    · obtain rfl : k = 16 := by omega
      have hts : t = m + n := dg_ext htl HM.out (fun i hi => by rw [ht i, if_pos hi])
      subst hts
      clear ht htl
      go_wp2_with (first | (refine wpList_load_row rfl 74 _ rfl (w.heap.size + 1 + 1 + 1) rfl 74 (digs (m + n)) (0, 0) _ hC Tryd.underlying74 rfl (size_Dn (m + n)) ?_) | (refine wpList_store_row rfl 74 _ _ rfl (w.heap.size + 1 + 1) (digs (m + n)) rfl rfl 74 (digs 0) hO (size_Dn (m + n)) (by rw [digs_size, digs_size]) (digs_one (m + n)) ?_))
      exact bodyPost_ret (v := DV (m + n)) (results_cell_row Tryd.results87 _ _ (w.heap.size + 1 + 1) 74 (digs (m + n)) (0, 0) _ rfl (hO.putRow _) Tryd.underlying74 rfl (size_Dn (m + n))) rfl ⟨rfl, (hU.setRow (by omega) _).below⟩

set_option maxRecDepth 100000 in
set_option maxHeartbeats 1000000 in
theorem rsub_any (w : World) (m n : Nat) (hm : m < BP 16) (hnm : n ≤ m) : Calls Tryd.prog 89 #[DV m, DV n] w fun e w' => e = .returned (DV (m - n)) ∧ Below w.heap.size w w' := by
  have hA := (((Row.new w 74 (digs m)).alloc (.cells (digs n) 74)).alloc (.cells (digs 0) 74)).alloc (.cells (digs 0) 74)
  have hB := ((Row.new (w.alloc (.cells (digs m) 74)) 74 (digs n)).alloc (.cells (digs 0) 74)).alloc (.cells (digs 0) 74)
  have hO := (Row.new ((w.alloc (.cells (digs m) 74)).alloc (.cells (digs n) 74)) 74 (digs 0)).alloc (.cells (digs 0) 74)
  have hC := Row.new (((w.alloc (.cells (digs m) 74)).alloc (.cells (digs n) 74)).alloc (.cells (digs 0) 74)) 74 (digs 0)
  have hU := ((((Up.refl w).alloc (.cells (digs m) 74)).alloc (.cells (digs n) 74)).alloc (.cells (digs 0) 74)).alloc (.cells (digs 0) 74)
  simp only [alloc_sz] at hB hO hC
  have HM := hid hm
  have HN := hid hnm
  clear hm hnm
  unfold DV
  go_enter Tryd.func89, Tryd.ntmps89
  go_wp2_with fail
  obtain ⟨V, hV⟩ : ∃ V, V = (((w.alloc (.cells (digs m) 74)).alloc (.cells (digs n) 74)).alloc (.cells (digs 0) 74)).alloc (.cells (digs 0) 74) := ⟨_, rfl⟩
  rw [digs_0] at hV
  rw [← hV]
  rw [← digs_0] at hV
  rw [← hV] at hA hB hO hC hU
  clear hV
  go_loopw [6, 7] (fun c i wr => ∃ k t : Nat, k ≤ 16 ∧ i = .int .i64 (k : Int) ∧ c = .int .u64 (borrow m n k : Int) ∧ (∀ j, dg t j = if j < k then dg (m - n) j else 0) ∧ t < BP 16 ∧ Row wr w.heap.size 74 (digs m) ∧ Row wr (w.heap.size + 1) 74 (digs n) ∧ Row wr (w.heap.size + 1 + 1) 74 (digs 0) ∧ Row wr (w.heap.size + 1 + 1 + 1) 74 (digs t) ∧ Up w.heap.size w wr) (fun _ i _ => 16 - (intOf i).toNat)
  case atStart => exact ⟨0, 0, by omega, rfl, by rw [borrow_zero]; rfl, fun j => by rw [dg_zero]; simp, BP_pos 16, hA, hB, hO, hC, hU⟩
  case round =>
    clear hA hB hO hC hU
    obtain ⟨k, t, hk, rfl, rfl, ht, htl, hA, hB, hO, hC, hU⟩ := hrel
    by_cases hlt : k < 16
    · have ca := hA.cell k
      have cb := hB.cell k
      have cf := hC.frozen k
      have cc := hC.cell k
      rw [digs_get _ hlt] at ca cb cc
      have hs := sub_dg HN.out k
      have l1 := dg_lt m k
      have l2 := dg_lt n k
      have l3 := borrow_le m n k
      have l5 := dg_lt (m - n) k
      obtain ⟨x, hx⟩ : ∃ x, x = dg m k := ⟨_, rfl⟩
      obtain ⟨y, hy⟩ : ∃ y, y = dg n k := ⟨_, rfl⟩
      obtain ⟨c, hc⟩ : ∃ c, c = borrow m n k := ⟨_, rfl⟩
      obtain ⟨s, hs1⟩ : ∃ s, s = dg (m - n) k := ⟨_, rfl⟩
      obtain ⟨c', hc'⟩ : ∃ c', c' = borrow m n (k + 1) := ⟨_, rfl⟩
      rw [← hx] at ca hs l1
      rw [← hy] at cb hs l2
      rw [← hc] at hs l3 ⊢
      rw [← hs1, ← hc'] at hs
      rw [← hs1] at l5
      have HS := hid hs1
      have HC := hid hc'
      have w1 : IntKind.u64.wrap ((x : Int) + 4294967296) = (x : Int) + 4294967296 := by rw [IntKind.wrap_u64]; omega
      have w2 : IntKind.u64.wrap ((x : Int) + 4294967296 - y) = (x : Int) + 4294967296 - y := by rw [IntKind.wrap_u64]; omega
      have w5 : IntKind.u64.wrap ((x : Int) + 4294967296 - y - c) = (x : Int) + 4294967296 - y - c := by rw [IntKind.wrap_u64]; omega
      have w3 : ((x : Int) + 4294967296 - y - c) % 4294967296 = (s : Int) := by omega
      have w4 : IntKind.u64.wrap (1 - ((x : Int) + 4294967296 - y - c) / 4294967296) = (c' : Int) := by rw [IntKind.wrap_u64]; omega
      have HT := hid ht
      have HA := hA.far (p := ⟨w.heap.size + 1 + 1 + 1, k, none⟩) (by first | (simp; done) | (simp; omega)) (.int .u64 (s : Int))
      have HB := hB.far (p := ⟨w.heap.size + 1 + 1 + 1, k, none⟩) (by first | (simp; done) | (simp; omega)) (.int .u64 (s : Int))
      have HO := hO.far (p := ⟨w.heap.size + 1 + 1 + 1, k, none⟩) (by simp) (.int .u64 (s : Int))
      have HR := hC.set k (.int .u64 (s : Int))
      rw [digs_set t l5] at HR
      have HU := hU.setCell (p := w.heap.size + 1 + 1 + 1) (i := k) (by omega) (.int .u64 (s : Int))
      clear hs hx hy hc hs1 hc' ht
      go_wp2
      go_quiet (fail)
      go_wp2
      go_roundw
      case rel =>
        refine ⟨k + 1, put t k s, by omega, by go_num, by rw [HC.out], fun j => ?_, put_lt htl hlt l5, HA, HB, HO, HR, (hU.drewN _).setCell (by omega) _⟩
        rw [dg_put l5, HT.out j, HS.out]
        by_cases hj : j = k
        · subst hj
          rw [if_pos rfl, if_pos (by omega)]
        · rw [if_neg hj]
          by_cases hj' : j < k
          · rw [if_pos hj', if_pos (by omega)]
          · rw [if_neg hj', if_neg (by omega)]
      case measure => simp [intOf]; omega
    · obtain rfl : k = 16 := by omega
      have hts : t = m - n := dg_ext htl (Nat.lt_of_le_of_lt (Nat.sub_le _ _) HM.out) (fun i hi => by rw [ht i, if_pos hi])
      subst hts
      clear ht htl
      go_wp2_with (first | (refine wpList_load_row rfl 74 _ rfl (w.heap.size + 1 + 1 + 1) rfl 74 (digs (m - n)) (0, 0) _ hC Tryd.underlying74 rfl (size_Dn (m - n)) ?_) | (refine wpList_store_row rfl 74 _ _ rfl (w.heap.size + 1 + 1) (digs (m - n)) rfl rfl 74 (digs 0) hO (size_Dn (m - n)) (by rw [digs_size, digs_size]) (digs_one (m - n)) ?_))
      exact bodyPost_ret (v := DV (m - n)) (results_cell_row Tryd.results89 _ _ (w.heap.size + 1 + 1) 74 (digs (m - n)) (0, 0) _ rfl (hO.putRow _) Tryd.underlying74 rfl (size_Dn (m - n))) rfl ⟨rfl, (hU.setRow (by omega) _).below⟩
end Go.Proofs.YtfalllekhcocgaaDoor

namespace Go.Proofs.YtfalllekhcocgaaDoor
open Go.RowKit

/-- a row of a product, done -/
theorem mul_row {m n t c i : Nat} (hn : n < BP 7) (h : t + c * BP (i + 8) = m % BP i * n + dg m i * BP i * (n % BP 8)) : t = m % BP (i + 1) * n := by
  have h8 : n % BP 8 = n := Nat.mod_eq_of_lt (Nat.lt_of_lt_of_le hn (BP_le (by omega)))
  rw [h8, Nat.mul_comm (dg m i), ← Nat.add_mul, ← mod_succ] at h
  have hlt : m % BP (i + 1) * n < BP (i + 8) := by
    have h1 := Nat.mod_lt m (BP_pos (i + 1))
    have h2 : m % BP (i + 1) * n ≤ m % BP (i + 1) * BP 7 := Nat.mul_le_mul_left _ (Nat.le_of_lt hn)
    have h3 : m % BP (i + 1) * BP 7 < BP (i + 1) * BP 7 := Nat.mul_lt_mul_of_pos_right h1 (BP_pos 7)
    rw [← BP_add] at h3
    have : i + 1 + 7 = i + 8 := by omega
    rw [this] at h3
    omega
  have hc : c = 0 := by
    rcases Nat.eq_zero_or_pos c with h1 | h1
    · exact h1
    · have := Nat.mul_le_mul_right (BP (i + 8)) h1
      omega
  rw [hc] at h
  omega

set_option maxRecDepth 100000 in
set_option maxHeartbeats 2000000 in
theorem rmul_any (w : World) (m n : Nat) (hm : m < BP 8) (hn : n < BP 7) : Calls Tryd.prog 92 #[DV m, DV n] w fun e w' => e = .returned (DV (m * n)) ∧ Below w.heap.size w w' := by
  have hA := (((Row.new w 74 (digs m)).alloc (.cells (digs n) 74)).alloc (.cells (digs 0) 74)).alloc (.cells (digs 0) 74)
  have hB := ((Row.new (w.alloc (.cells (digs m) 74)) 74 (digs n)).alloc (.cells (digs 0) 74)).alloc (.cells (digs 0) 74)
  have hO := (Row.new ((w.alloc (.cells (digs m) 74)).alloc (.cells (digs n) 74)) 74 (digs 0)).alloc (.cells (digs 0) 74)
  have hC := Row.new (((w.alloc (.cells (digs m) 74)).alloc (.cells (digs n) 74)).alloc (.cells (digs 0) 74)) 74 (digs 0)
  have hU := ((((Up.refl w).alloc (.cells (digs m) 74)).alloc (.cells (digs n) 74)).alloc (.cells (digs 0) 74)).alloc (.cells (digs 0) 74)
  simp only [alloc_sz] at hB hO hC
  have HM := hid hm
  have HN := hid hn
  clear hm hn
  unfold DV
  go_enter Tryd.func92, Tryd.ntmps92
  go_wp2_with fail
  obtain ⟨V, hV⟩ : ∃ V, V = (((w.alloc (.cells (digs m) 74)).alloc (.cells (digs n) 74)).alloc (.cells (digs 0) 74)).alloc (.cells (digs 0) 74) := ⟨_, rfl⟩
  rw [digs_0] at hV
  rw [← hV]
  rw [← digs_0] at hV
  rw [← hV] at hA hB hO hC hU
  clear hV
  go_loopw [6] (fun i wr => ∃ k t : Nat, k ≤ 8 ∧ i = .int .i64 (k : Int) ∧ t = m % BP k * n ∧ t < BP 16 ∧ Row wr w.heap.size 74 (digs m) ∧ Row wr (w.heap.size + 1) 74 (digs n) ∧ Row wr (w.heap.size + 1 + 1) 74 (digs 0) ∧ Row wr (w.heap.size + 1 + 1 + 1) 74 (digs t) ∧ Up w.heap.size w wr) (fun i _ => 8 - (intOf i).toNat)
  case atStart => exact ⟨0, 0, by omega, rfl, by simp [BP_zero, Nat.mod_one], BP_pos 16, hA, hB, hO, hC, hU⟩
  case round =>
    clear hA hB hO hC hU
    obtain ⟨i, t, hk, rfl, ht, htl, hA, hB, hO, hC, hU⟩ := hrel
    by_cases hlt : i < 8
    · obtain ⟨x, hx⟩ : ∃ x, x = dg m i := ⟨_, rfl⟩
      obtain ⟨b0, hb0⟩ : ∃ b0, b0 = m % BP i * n := ⟨_, rfl⟩
      rw [← hb0] at ht
      have lx := dg_lt m i
      rw [← hx] at lx
      have HX := hid hx
      have HB0 := hid hb0
      have HT := hid ht
      clear ht hx hb0
      obtain ⟨wo, hwo⟩ : ∃ wo : World, wo = wr := ⟨_, rfl⟩
      go_wp2
      go_loopw [7, 8] (fun c j wi => ∃ k t c' : Nat, k ≤ 8 ∧ j = .int .i64 (k : Int) ∧ c = .int .u64 (c' : Int) ∧ c' < 4294967296 ∧ t + c' * BP (i + k) = b0 + x * BP i * (n % BP k) ∧ t < BP 16 ∧ Row wi w.heap.size 74 (digs m) ∧ Row wi (w.heap.size + 1) 74 (digs n) ∧ Row wi (w.heap.size + 1 + 1) 74 (digs 0) ∧ Row wi (w.heap.size + 1 + 1 + 1) 74 (digs t) ∧ Up w.heap.size w wi) (fun _ j _ => 8 - (intOf j).toNat)
      case atStart => exact ⟨0, t, 0, by omega, rfl, rfl, by decide, by rw [HT.out, BP_zero, Nat.mod_one]; omega, htl, hA, hB, hO, hC, hU⟩
      case round =>
        clear hA hB hO hC hU HT htl hwo
        obtain ⟨k, t, c, hk, rfl, rfl, lc, ht, htl, hA, hB, hO, hC, hU⟩ := hrel
        by_cases hlk : k < 8
        · have ca := hA.cell i
          have cb := hB.cell k
          have cf := hC.frozen (i + k)
          have cc := hC.cell (i + k)
          rw [digs_get _ (by omega)] at ca cb cc
          rw [← HX.out] at ca
          have l2 := dg_lt n k
          have l4 := dg_lt t (i + k)
          obtain ⟨y, hy⟩ : ∃ y, y = dg n k := ⟨_, rfl⟩
          obtain ⟨d, hd⟩ : ∃ d, d = dg t (i + k) := ⟨_, rfl⟩
          have hs := mul_step (n := t) (b := n) (i := i) (k := k) (x := x) (c := c) (s := d + x * y + c) (by rw [hy, hd])
          have hmod := mod_succ n k
          have hge : n % BP k ≤ n % BP (k + 1) := by omega
          have hge2 : x * BP i * (n % BP k) ≤ x * BP i * (n % BP (k + 1)) := Nat.mul_le_mul_left _ hge
          rw [← hy] at cb l2
          rw [← hd] at cc l4
          have room := digit_room lx l2 l4 lc
          obtain ⟨p, hp⟩ : ∃ p, p = x * y := ⟨_, rfl⟩
          rw [← hp] at hs room
          have hpi : ((x : Int) * (y : Int)) = (p : Int) := by rw [hp]; simp
          have ls := Nat.mod_lt (d + p + c) (show 0 < 4294967296 by decide)
          have lc2 : (d + p + c) / 4294967296 < 4294967296 := by omega
          obtain ⟨s, hs1⟩ : ∃ s, s = (d + p + c) % 4294967296 := ⟨_, rfl⟩
          obtain ⟨c', hc'⟩ : ∃ c', c' = (d + p + c) / 4294967296 := ⟨_, rfl⟩
          rw [← hs1] at hs ls
          rw [← hc'] at hs lc2
          have HV := hid (show put t (i + k) s + c' * BP (i + (k + 1)) = b0 + x * BP i * (n % BP (k + 1)) by omega)
          clear hs hmod hge hge2 ht
          have w1 : IntKind.u64.wrap ((x : Int) * (y : Int)) = (p : Int) := by rw [hpi, IntKind.wrap_u64]; omega
          have w2 : IntKind.u64.wrap ((d : Int) + p) = (d : Int) + p := by rw [IntKind.wrap_u64]; omega
          have w3 : IntKind.u64.wrap ((d : Int) + p + c) = (d : Int) + p + c := by rw [IntKind.wrap_u64]; omega
          have w4 : ((d : Int) + p + c) % 4294967296 = (s : Int) := by omega
          have w5 : ((d : Int) + p + c) / 4294967296 = (c' : Int) := by omega
          have w6 : IntKind.i64.wrap ((i : Int) + k) = (i : Int) + k := by rw [IntKind.wrap_i64]; omega
          have w7 : ((i : Int) + (k : Int)).toNat = i + k := by omega
          have w8 : (0 : Int) ≤ (i : Int) + (k : Int) := by omega
          have w9 : (i : Int) + (k : Int) < 16 := by omega
          have HA := hA.far (p := ⟨w.heap.size + 1 + 1 + 1, i + k, none⟩) (by first | (simp; done) | (simp; omega)) (.int .u64 (s : Int))
          have HB := hB.far (p := ⟨w.heap.size + 1 + 1 + 1, i + k, none⟩) (by first | (simp; done) | (simp; omega)) (.int .u64 (s : Int))
          have HO := hO.far (p := ⟨w.heap.size + 1 + 1 + 1, i + k, none⟩) (by first | (simp; done) | (simp; omega)) (.int .u64 (s : Int))
          have HR := hC.set (i + k) (.int .u64 (s : Int))
          rw [digs_set t ls] at HR
          have HTL := hid (put_lt (j := i + k) (v := s) htl (by omega) ls)
          clear hy hd hp hpi hs1 hc' htl room
          go_wp2
          go_quiet (fail)
          go_wp2
          go_roundw
          case rel => exact ⟨k + 1, put t (i + k) s, c', by omega, by go_num, by first | rfl | rw [w5], lc2, HV.out, HTL.out, HA, HB, HO, HR, (hU.drewN _).setCell (by omega) _⟩
          case measure => simp [intOf]; omega
        · obtain rfl : k = 8 := by omega
          have hrow := mul_row HN.out (by rw [← HX.out, ← HB0.out]; exact ht)
          have HT := hid hrow
          clear ht hrow
          go_wp2
          go_roundw
          case rel => exact ⟨i + 1, t, by omega, by go_num, HT.out, htl, hA, hB, hO, hC, hU⟩
          case measure => simp [intOf]; omega
    · obtain rfl : i = 8 := by omega
      have hts : t = m * n := by rw [ht, Nat.mod_eq_of_lt HM.out]
      clear ht htl
      subst hts
      go_wp2_with (first | (refine wpList_load_row rfl 74 _ rfl (w.heap.size + 1 + 1 + 1) rfl 74 (digs (m * n)) (0, 0) _ hC Tryd.underlying74 rfl (size_Dn (m * n)) ?_) | (refine wpList_store_row rfl 74 _ _ rfl (w.heap.size + 1 + 1) (digs (m * n)) rfl rfl 74 (digs 0) hO (size_Dn (m * n)) (by rw [digs_size, digs_size]) (digs_one (m * n)) ?_))
      exact bodyPost_ret (v := DV (m * n)) (results_cell_row Tryd.results92 _ _ (w.heap.size + 1 + 1) 74 (digs (m * n)) (0, 0) _ rfl (hO.putRow _) Tryd.underlying74 rfl (size_Dn (m * n))) rfl ⟨rfl, (hU.setRow (by omega) _).below⟩
end Go.Proofs.YtfalllekhcocgaaDoor
