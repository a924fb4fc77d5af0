/-
  'known', which every statement of chapter 2 asks: it answers true.
-/
import Derived.Test.YtfalllekhcocgaaDoorText
namespace Go.Proofs.YtfalllekhcocgaaDoor
open Go.RowKit

theorem wv_m7 : WV (-7) = .agg #[.int .i64 (-1), .int .u64 18446744073709551609] := by
  unfold WV
  rw [show (-7 : Int) / 18446744073709551616 = -1 by decide, show (-7 : Int) % 18446744073709551616 = 18446744073709551609 by decide]
theorem wv_m3 : WV (-3) = .agg #[.int .i64 (-1), .int .u64 18446744073709551613] := by
  unfold WV
  rw [show (-3 : Int) / 18446744073709551616 = -1 by decide, show (-3 : Int) % 18446744073709551616 = 18446744073709551613 by decide]
theorem wv_m1 : WV (-1) = .agg #[.int .i64 (-1), .int .u64 18446744073709551615] := by
  unfold WV
  rw [show (-1 : Int) / 18446744073709551616 = -1 by decide, show (-1 : Int) % 18446744073709551616 = 18446744073709551615 by decide]
theorem wv_m120 : WV (-120) = .agg #[.int .i64 (-1), .int .u64 18446744073709551496] := by
  unfold WV
  rw [show (-120 : Int) / 18446744073709551616 = -1 by decide, show (-120 : Int) % 18446744073709551616 = 18446744073709551496 by decide]
theorem wv_small (n : Int) (h : 0 ≤ n ∧ n < 18446744073709551616) : WV n = .agg #[.int .i64 0, .int .u64 n] := by
  unfold WV
  rw [show n / 18446744073709551616 = 0 by omega, show n % 18446744073709551616 = n by omega]

set_option maxRecDepth 100000 in
set_option maxHeartbeats 4000000 in
theorem known_any (w : World) (htab : Lib.TabIs Tryd.prog w "internal/strconv.uint64pow10" .u64 Lib.pow10Tab) (hg : 2 < w.heap.size) :
    Calls Tryd.prog 20 #[] w fun e w' => e = .returned (.bool true) ∧ Below w.heap.size w w' := by
  have O35 := fun w => of_any w 35 (by decide)
  have O1 := fun w => of_any w 1 (by decide)
  have Om7 := fun w => of_any w (-7) (by decide)
  have O2 := fun w => of_any w 2 (by decide)
  have Om1 := fun w => of_any w (-1) (by decide)
  have O4 := fun w => of_any w 4 (by decide)
  have Om3 := fun w => of_any w (-3) (by decide)
  have Om120 := fun w => of_any w (-120) (by decide)
  have SC := scaled_35
  have DV := div_72
  have TX := text_120
  rw [wv_small 35 (by decide)] at O35
  rw [wv_small 1 (by decide)] at O1
  rw [wv_m7] at Om7
  rw [wv_small 2 (by decide)] at O2
  rw [wv_m1] at Om1
  rw [wv_small 4 (by decide)] at O4
  rw [wv_m3] at Om3
  rw [wv_m120] at Om120
  rw [wv_small 35 (by decide), wv_small 1 (by decide), wv_small 4 (by decide)] at SC
  rw [wv_m7, wv_small 2 (by decide), wv_m3, wv_m1] at DV
  rw [wv_m120] at TX
  have O35 := hid O35
  have O1 := hid O1
  have Om7 := hid Om7
  have O2 := hid O2
  have Om1 := hid Om1
  have O4 := hid O4
  have Om3 := hid Om3
  have Om120 := hid Om120
  have SC := hid SC
  have DV := hid DV
  have TX := hid TX
  have HT := hid htab
  clear htab
  go_enter Tryd.func20, Tryd.ntmps20
  go_wp2_with fail
  refine Calls.mono (O35.out _) ?_; rintro e w1 ⟨rfl, hb1⟩
  go_wp2_with fail
  refine Calls.mono (O1.out _) ?_; rintro e w2 ⟨rfl, hb2⟩
  go_wp2_with fail
  refine Calls.mono (SC.out _) ?_; rintro e w3 ⟨rfl, hb3⟩
  have HU := (((Up.refl w).trans hb1).trans hb2).trans hb3
  clear hb1 hb2 hb3
  go_wp2_with fail
  refine Calls.mono (Om7.out _) ?_; rintro e w4 ⟨rfl, hb4⟩
  have Ra := (Row.new w3 24 #[.int .i64 0, .int .u64 4]).mod (Mod.of_below hb4 Nil) (fun hf => hf)
  replace HU := (HU.alloc (.cells #[.int .i64 0, .int .u64 4] 24)).trans hb4
  clear hb4
  go_wp2_with fail
  refine Calls.mono (O2.out _) ?_; rintro e w5 ⟨rfl, hb5⟩
  replace Ra := Ra.below hb5 Ra.lt
  replace HU := HU.trans hb5
  clear hb5
  go_wp2_with fail
  refine Calls.mono (DV.out _) ?_; rintro e w6 ⟨rfl, hb6⟩
  replace Ra := Ra.below hb6 Ra.lt
  replace HU := HU.trans hb6
  clear hb6
  have Rq := (Row.new w6 24 #[.int .i64 (-1), .int .u64 18446744073709551613]).alloc (.cells #[.int .i64 (-1), .int .u64 18446744073709551615] 24)
  have Rr := Row.new (w6.alloc (.cells #[.int .i64 (-1), .int .u64 18446744073709551613] 24)) 24 #[.int .i64 (-1), .int .u64 18446744073709551615]
  replace Ra := (Ra.alloc (.cells #[.int .i64 (-1), .int .u64 18446744073709551613] 24)).alloc (.cells #[.int .i64 (-1), .int .u64 18446744073709551615] 24)
  replace HU := (HU.alloc (.cells #[.int .i64 (-1), .int .u64 18446744073709551613] 24)).alloc (.cells #[.int .i64 (-1), .int .u64 18446744073709551615] 24)
  simp only [alloc_size] at Rr
  go_wp2_with fail
  obtain ⟨V, hV⟩ : ∃ V, V = ((w6.alloc (.cells #[.int .i64 (-1), .int .u64 18446744073709551613] 24)).alloc (.cells #[.int .i64 (-1), .int .u64 18446744073709551615] 24)) := ⟨_, rfl⟩
  rw [← hV] at Ra Rq Rr HU ⊢
  clear hV
  have MK : ∀ W, Up V.heap.size V W → Up V.heap.size V W ∧ W.cell? ⟨w3.heap.size, 0, none⟩ = some (.int .i64 0) ∧ W.cell? ⟨w3.heap.size, 1, none⟩ = some (.int .u64 4) ∧ W.cell? ⟨w6.heap.size, 0, none⟩ = some (.int .i64 (-1)) ∧ W.cell? ⟨w6.heap.size, 1, none⟩ = some (.int .u64 18446744073709551613) ∧ W.cell? ⟨w6.heap.size + 1, 0, none⟩ = some (.int .i64 (-1)) ∧ W.cell? ⟨w6.heap.size + 1, 1, none⟩ = some (.int .u64 18446744073709551615) := fun W hW => by
    have h1 := Ra.below hW.below Ra.lt
    have h2 := Rq.below hW.below Rq.lt
    have h3 := Rr.below hW.below Rr.lt
    exact ⟨hW, by simpa using h1.cell 0, by simpa using h1.cell 1, by simpa using h2.cell 0, by simpa using h2.cell 1, by simpa using h3.cell 0, by simpa using h3.cell 1⟩
  have MK := hid MK
  have HUV := hid HU
  clear Ra Rq Rr HU
  refine wp_region_noPanic ?_
  refine wp_region_held_drew (S := fun W => Up V.heap.size V W ∧ W.cell? ⟨w3.heap.size, 0, none⟩ = some (.int .i64 0) ∧ W.cell? ⟨w3.heap.size, 1, none⟩ = some (.int .u64 4) ∧ W.cell? ⟨w6.heap.size, 0, none⟩ = some (.int .i64 (-1)) ∧ W.cell? ⟨w6.heap.size, 1, none⟩ = some (.int .u64 18446744073709551613) ∧ W.cell? ⟨w6.heap.size + 1, 0, none⟩ = some (.int .i64 (-1)) ∧ W.cell? ⟨w6.heap.size + 1, 1, none⟩ = some (.int .u64 18446744073709551615)) (by kernel_rfl) (MK.out _ (Up.refl V).drew) (fun hHeld => ?_)
  refine wpAnyH_take (i := 1) (oi := { dst := some 20, op := Op.build 24 #[(0, Operand.const (Value.int IntKind.i64 (-1))), (1, Operand.const (Value.int IntKind.u64 18446744073709551615))], type := 24, pos := "law.go:15", after := #[], guard := none }) (v := ?_) rfl (by kernel_rfl) (by kernel_rfl) (by kernel_rfl) (fun _ _ _ h => h) (Or.inl ⟨by rfl, ?_⟩) hHeld ?_
  rotate_left
  · intro w' hSw; (try dsimp only at hSw); go_simp <;> with_reducible rfl
  try simp only [Act.put, List.setIfInBounds_toArray, List.set_cons_zero, List.set_cons_succ]
  refine wpAnyH_ready (rs := [0]) (by kernel_rfl) (by simp) ?_
  refine AllReadyH.cons (o := { dst := some 19, op := Op.call { callee := Callee.value (Operand.func 17), args := #[Operand.const (Value.int IntKind.i64 (-1))], argTypes := #[2] }, type := 24, pos := "law.go:15", after := #[], guard := none }) rfl (fun K hK => ?_) AllReadyH.nil
  go_simp
  refine Calls.mono (Om1.out _) ?_; rintro e wk ⟨rfl, hbk⟩
  refine hK.out _ _ (MK.out _ (hHeld.1.trans hbk)) (fun hHeld => ?_)
  clear hK K
  try simp only [Act.put, List.setIfInBounds_toArray, List.set_cons_zero, List.set_cons_succ]
  refine wpAnyH_take (i := 2) (oi := { dst := some 21, op := Op.binOp BinOp.eql 24 (Operand.tmp 19) (Operand.tmp 20) 24, type := 4, pos := "law.go:15", after := #[{ on := 0, ground := Ground.data }, { on := 1, ground := Ground.data }], guard := none }) (v := ?_) rfl (by kernel_rfl) (by kernel_rfl) (by kernel_rfl) (fun _ _ _ h => h) (Or.inl ⟨by rfl, ?_⟩) hHeld ?_
  rotate_left
  · intro w' hSw; (try dsimp only at hSw); go_simp <;> with_reducible rfl
  try simp only [Act.put, List.setIfInBounds_toArray, List.set_cons_zero, List.set_cons_succ]
  refine wpAnyH_take (i := 3) (oi := { dst := some 22, op := Op.move (Operand.tmp 21), type := 4, pos := "law.go:15", after := #[{ on := 2, ground := Ground.data }, { on := 0, ground := Ground.chain }], guard := none }) (v := ?_) rfl (by kernel_rfl) (by kernel_rfl) (by kernel_rfl) (fun _ _ _ h => h) (Or.inl ⟨by rfl, ?_⟩) hHeld ?_
  rotate_left
  · intro w' hSw; (try dsimp only at hSw); go_simp <;> with_reducible rfl
  try simp only [Act.put, List.setIfInBounds_toArray, List.set_cons_zero, List.set_cons_succ]
  refine wpAnyH_take (i := 4) (oi := { dst := some 23, op := Op.move (Operand.tmp 2), type := 25, pos := "law.go:15", after := #[{ on := 3, ground := Ground.guard }], guard := some (3, true) }) (v := ?_) rfl (by kernel_rfl) (by kernel_rfl) (by kernel_rfl) (fun _ _ _ h => h) (Or.inl ⟨by rfl, ?_⟩) hHeld ?_
  rotate_left
  · intro w' hSw; (try dsimp only at hSw); go_simp <;> with_reducible rfl
  try simp only [Act.put, List.setIfInBounds_toArray, List.set_cons_zero, List.set_cons_succ]
  refine wpAnyH_take (i := 5) (oi := { dst := some 24, op := Op.binOp BinOp.eql 25 (Operand.tmp 23) (Operand.const (Value.int IntKind.i64 0)) 25, type := 4, pos := "law.go:15", after := #[{ on := 4, ground := Ground.data }, { on := 3, ground := Ground.guard }], guard := some (3, true) }) (v := ?_) rfl (by kernel_rfl) (by kernel_rfl) (by kernel_rfl) (fun _ _ _ h => h) (Or.inl ⟨by rfl, ?_⟩) hHeld ?_
  rotate_left
  · intro w' hSw; (try dsimp only at hSw); go_simp <;> with_reducible rfl
  try simp only [Act.put, List.setIfInBounds_toArray, List.set_cons_zero, List.set_cons_succ]
  refine wpAnyH_take (i := 6) (oi := { dst := some 25, op := Op.pick (Operand.tmp 22) (Operand.tmp 24) (Operand.const (Value.bool false)), type := 4, pos := "law.go:15", after := #[{ on := 3, ground := Ground.data }, { on := 5, ground := Ground.data }], guard := none }) (v := ?_) rfl (by kernel_rfl) (by kernel_rfl) (by kernel_rfl) (fun _ _ _ h => h) (Or.inl ⟨by rfl, ?_⟩) hHeld ?_
  rotate_left
  · intro w' hSw; (try dsimp only at hSw); go_simp <;> with_reducible rfl
  try simp only [Act.put, List.setIfInBounds_toArray, List.set_cons_zero, List.set_cons_succ]
  refine wpAnyH_take (i := 7) (oi := { dst := some 26, op := Op.move (Operand.tmp 25), type := 4, pos := "law.go:15", after := #[{ on := 6, ground := Ground.data }, { on := 3, ground := Ground.chain }], guard := none }) (v := ?_) rfl (by kernel_rfl) (by kernel_rfl) (by kernel_rfl) (fun _ _ _ h => h) (Or.inl ⟨by rfl, ?_⟩) hHeld ?_
  rotate_left
  · intro w' hSw; (try dsimp only at hSw); go_simp <;> with_reducible rfl
  try simp only [Act.put, List.setIfInBounds_toArray, List.set_cons_zero, List.set_cons_succ]
  refine wpAnyH_take (i := 8) (oi := { dst := some 27, op := Op.load 24 (Operand.tmp 1), type := 24, pos := "law.go:15", after := #[{ on := 7, ground := Ground.guard }], guard := some (7, true) }) (v := ?_) rfl (by kernel_rfl) (by kernel_rfl) (by kernel_rfl) (fun _ _ _ h => h) (Or.inl ⟨by rfl, ?_⟩) hHeld ?_
  rotate_left
  · intro w' hSw; (try dsimp only at hSw); go_simp <;> with_reducible rfl
  try simp only [Act.put, List.setIfInBounds_toArray, List.set_cons_zero, List.set_cons_succ]
  refine wpAnyH_ready (rs := [9]) (by kernel_rfl) (by simp) ?_
  refine AllReadyH.cons (o := { dst := some 28, op := Op.call { callee := Callee.value (Operand.func 17), args := #[Operand.const (Value.int IntKind.i64 4)], argTypes := #[2] }, type := 24, pos := "law.go:15", after := #[{ on := 7, ground := Ground.chain }, { on := 7, ground := Ground.guard }], guard := some (7, true) }) rfl (fun K hK => ?_) AllReadyH.nil
  go_simp
  refine Calls.mono (O4.out _) ?_; rintro e wk ⟨rfl, hbk⟩
  refine hK.out _ _ (MK.out _ (hHeld.1.trans hbk)) (fun hHeld => ?_)
  clear hK K
  try simp only [Act.put, List.setIfInBounds_toArray, List.set_cons_zero, List.set_cons_succ]
  refine wpAnyH_take (i := 10) (oi := { dst := some 29, op := Op.binOp BinOp.eql 24 (Operand.tmp 27) (Operand.tmp 28) 24, type := 4, pos := "law.go:15", after := #[{ on := 8, ground := Ground.data }, { on := 9, ground := Ground.data }, { on := 7, ground := Ground.guard }], guard := some (7, true) }) (v := ?_) rfl (by kernel_rfl) (by kernel_rfl) (by kernel_rfl) (fun _ _ _ h => h) (Or.inl ⟨by rfl, ?_⟩) hHeld ?_
  rotate_left
  · intro w' hSw; (try dsimp only at hSw); go_simp <;> with_reducible rfl
  try simp only [Act.put, List.setIfInBounds_toArray, List.set_cons_zero, List.set_cons_succ]
  refine wpAnyH_take (i := 11) (oi := { dst := some 30, op := Op.pick (Operand.tmp 26) (Operand.tmp 29) (Operand.const (Value.bool false)), type := 4, pos := "law.go:15", after := #[{ on := 7, ground := Ground.data }, { on := 10, ground := Ground.data }], guard := none }) (v := ?_) rfl (by kernel_rfl) (by kernel_rfl) (by kernel_rfl) (fun _ _ _ h => h) (Or.inl ⟨by rfl, ?_⟩) hHeld ?_
  rotate_left
  · intro w' hSw; (try dsimp only at hSw); go_simp <;> with_reducible rfl
  try simp only [Act.put, List.setIfInBounds_toArray, List.set_cons_zero, List.set_cons_succ]
  refine wpAnyH_take (i := 12) (oi := { dst := some 31, op := Op.move (Operand.tmp 30), type := 4, pos := "law.go:15", after := #[{ on := 11, ground := Ground.data }, { on := 9, ground := Ground.chain }], guard := none }) (v := ?_) rfl (by kernel_rfl) (by kernel_rfl) (by kernel_rfl) (fun _ _ _ h => h) (Or.inl ⟨by rfl, ?_⟩) hHeld ?_
  rotate_left
  · intro w' hSw; (try dsimp only at hSw); go_simp <;> with_reducible rfl
  try simp only [Act.put, List.setIfInBounds_toArray, List.set_cons_zero, List.set_cons_succ]
  refine wpAnyH_take (i := 13) (oi := { dst := some 32, op := Op.move (Operand.tmp 5), type := 25, pos := "law.go:15", after := #[{ on := 12, ground := Ground.guard }], guard := some (12, true) }) (v := ?_) rfl (by kernel_rfl) (by kernel_rfl) (by kernel_rfl) (fun _ _ _ h => h) (Or.inl ⟨by rfl, ?_⟩) hHeld ?_
  rotate_left
  · intro w' hSw; (try dsimp only at hSw); go_simp <;> with_reducible rfl
  try simp only [Act.put, List.setIfInBounds_toArray, List.set_cons_zero, List.set_cons_succ]
  refine wpAnyH_take (i := 14) (oi := { dst := some 33, op := Op.binOp BinOp.eql 25 (Operand.tmp 32) (Operand.const (Value.int IntKind.i64 0)) 25, type := 4, pos := "law.go:15", after := #[{ on := 13, ground := Ground.data }, { on := 12, ground := Ground.guard }], guard := some (12, true) }) (v := ?_) rfl (by kernel_rfl) (by kernel_rfl) (by kernel_rfl) (fun _ _ _ h => h) (Or.inl ⟨by rfl, ?_⟩) hHeld ?_
  rotate_left
  · intro w' hSw; (try dsimp only at hSw); go_simp <;> with_reducible rfl
  try simp only [Act.put, List.setIfInBounds_toArray, List.set_cons_zero, List.set_cons_succ]
  refine wpAnyH_take (i := 15) (oi := { dst := some 34, op := Op.pick (Operand.tmp 31) (Operand.tmp 33) (Operand.const (Value.bool false)), type := 4, pos := "law.go:15", after := #[{ on := 12, ground := Ground.data }, { on := 14, ground := Ground.data }], guard := none }) (v := ?_) rfl (by kernel_rfl) (by kernel_rfl) (by kernel_rfl) (fun _ _ _ h => h) (Or.inl ⟨by rfl, ?_⟩) hHeld ?_
  rotate_left
  · intro w' hSw; (try dsimp only at hSw); go_simp <;> with_reducible rfl
  try simp only [Act.put, List.setIfInBounds_toArray, List.set_cons_zero, List.set_cons_succ]
  refine wpAnyH_take (i := 16) (oi := { dst := some 35, op := Op.move (Operand.tmp 34), type := 4, pos := "law.go:15", after := #[{ on := 15, ground := Ground.data }, { on := 12, ground := Ground.chain }], guard := none }) (v := ?_) rfl (by kernel_rfl) (by kernel_rfl) (by kernel_rfl) (fun _ _ _ h => h) (Or.inl ⟨by rfl, ?_⟩) hHeld ?_
  rotate_left
  · intro w' hSw; (try dsimp only at hSw); go_simp <;> with_reducible rfl
  try simp only [Act.put, List.setIfInBounds_toArray, List.set_cons_zero, List.set_cons_succ]
  refine wpAnyH_take (i := 17) (oi := { dst := some 36, op := Op.load 24 (Operand.tmp 3), type := 24, pos := "law.go:15", after := #[{ on := 16, ground := Ground.guard }], guard := some (16, true) }) (v := ?_) rfl (by kernel_rfl) (by kernel_rfl) (by kernel_rfl) (fun _ _ _ h => h) (Or.inl ⟨by rfl, ?_⟩) hHeld ?_
  rotate_left
  · intro w' hSw; (try dsimp only at hSw); go_simp <;> with_reducible rfl
  try simp only [Act.put, List.setIfInBounds_toArray, List.set_cons_zero, List.set_cons_succ]
  refine wpAnyH_ready (rs := [18]) (by kernel_rfl) (by simp) ?_
  refine AllReadyH.cons (o := { dst := some 37, op := Op.call { callee := Callee.value (Operand.func 17), args := #[Operand.const (Value.int IntKind.i64 (-3))], argTypes := #[2] }, type := 24, pos := "law.go:15", after := #[{ on := 16, ground := Ground.chain }, { on := 16, ground := Ground.guard }], guard := some (16, true) }) rfl (fun K hK => ?_) AllReadyH.nil
  go_simp
  refine Calls.mono (Om3.out _) ?_; rintro e wk ⟨rfl, hbk⟩
  refine hK.out _ _ (MK.out _ (hHeld.1.trans hbk)) (fun hHeld => ?_)
  clear hK K
  try simp only [Act.put, List.setIfInBounds_toArray, List.set_cons_zero, List.set_cons_succ]
  refine wpAnyH_take (i := 19) (oi := { dst := some 38, op := Op.binOp BinOp.eql 24 (Operand.tmp 36) (Operand.tmp 37) 24, type := 4, pos := "law.go:15", after := #[{ on := 17, ground := Ground.data }, { on := 18, ground := Ground.data }, { on := 16, ground := Ground.guard }], guard := some (16, true) }) (v := ?_) rfl (by kernel_rfl) (by kernel_rfl) (by kernel_rfl) (fun _ _ _ h => h) (Or.inl ⟨by rfl, ?_⟩) hHeld ?_
  rotate_left
  · intro w' hSw; (try dsimp only at hSw); go_simp <;> with_reducible rfl
  try simp only [Act.put, List.setIfInBounds_toArray, List.set_cons_zero, List.set_cons_succ]
  refine wpAnyH_take (i := 20) (oi := { dst := some 39, op := Op.pick (Operand.tmp 35) (Operand.tmp 38) (Operand.const (Value.bool false)), type := 4, pos := "law.go:15", after := #[{ on := 16, ground := Ground.data }, { on := 19, ground := Ground.data }], guard := none }) (v := ?_) rfl (by kernel_rfl) (by kernel_rfl) (by kernel_rfl) (fun _ _ _ h => h) (Or.inl ⟨by rfl, ?_⟩) hHeld ?_
  rotate_left
  · intro w' hSw; (try dsimp only at hSw); go_simp <;> with_reducible rfl
  try simp only [Act.put, List.setIfInBounds_toArray, List.set_cons_zero, List.set_cons_succ]
  refine wpAnyH_take (i := 21) (oi := { dst := some 40, op := Op.move (Operand.tmp 39), type := 4, pos := "law.go:15", after := #[{ on := 20, ground := Ground.data }, { on := 18, ground := Ground.chain }], guard := none }) (v := ?_) rfl (by kernel_rfl) (by kernel_rfl) (by kernel_rfl) (fun _ _ _ h => h) (Or.inl ⟨by rfl, ?_⟩) hHeld ?_
  rotate_left
  · intro w' hSw; (try dsimp only at hSw); go_simp <;> with_reducible rfl
  try simp only [Act.put, List.setIfInBounds_toArray, List.set_cons_zero, List.set_cons_succ]
  refine wpAnyH_take (i := 22) (oi := { dst := some 41, op := Op.load 24 (Operand.tmp 4), type := 24, pos := "law.go:15", after := #[{ on := 21, ground := Ground.guard }], guard := some (21, true) }) (v := ?_) rfl (by kernel_rfl) (by kernel_rfl) (by kernel_rfl) (fun _ _ _ h => h) (Or.inl ⟨by rfl, ?_⟩) hHeld ?_
  rotate_left
  · intro w' hSw; (try dsimp only at hSw); go_simp <;> with_reducible rfl
  try simp only [Act.put, List.setIfInBounds_toArray, List.set_cons_zero, List.set_cons_succ]
  refine wpAnyH_ready (rs := [23]) (by kernel_rfl) (by simp) ?_
  refine AllReadyH.cons (o := { dst := some 42, op := Op.call { callee := Callee.value (Operand.func 17), args := #[Operand.const (Value.int IntKind.i64 (-1))], argTypes := #[2] }, type := 24, pos := "law.go:15", after := #[{ on := 21, ground := Ground.chain }, { on := 21, ground := Ground.guard }], guard := some (21, true) }) rfl (fun K hK => ?_) AllReadyH.nil
  go_simp
  refine Calls.mono (Om1.out _) ?_; rintro e wk ⟨rfl, hbk⟩
  refine hK.out _ _ (MK.out _ (hHeld.1.trans hbk)) (fun hHeld => ?_)
  clear hK K
  try simp only [Act.put, List.setIfInBounds_toArray, List.set_cons_zero, List.set_cons_succ]
  refine wpAnyH_take (i := 24) (oi := { dst := some 43, op := Op.binOp BinOp.eql 24 (Operand.tmp 41) (Operand.tmp 42) 24, type := 4, pos := "law.go:15", after := #[{ on := 22, ground := Ground.data }, { on := 23, ground := Ground.data }, { on := 21, ground := Ground.guard }], guard := some (21, true) }) (v := ?_) rfl (by kernel_rfl) (by kernel_rfl) (by kernel_rfl) (fun _ _ _ h => h) (Or.inl ⟨by rfl, ?_⟩) hHeld ?_
  rotate_left
  · intro w' hSw; (try dsimp only at hSw); go_simp <;> with_reducible rfl
  try simp only [Act.put, List.setIfInBounds_toArray, List.set_cons_zero, List.set_cons_succ]
  refine wpAnyH_take (i := 25) (oi := { dst := some 44, op := Op.pick (Operand.tmp 40) (Operand.tmp 43) (Operand.const (Value.bool false)), type := 4, pos := "law.go:15", after := #[{ on := 21, ground := Ground.data }, { on := 24, ground := Ground.data }], guard := none }) (v := ?_) rfl (by kernel_rfl) (by kernel_rfl) (by kernel_rfl) (fun _ _ _ h => h) (Or.inl ⟨by rfl, ?_⟩) hHeld ?_
  rotate_left
  · intro w' hSw; (try dsimp only at hSw); go_simp <;> with_reducible rfl
  try simp only [Act.put, List.setIfInBounds_toArray, List.set_cons_zero, List.set_cons_succ]
  refine wpAnyH_take (i := 26) (oi := { dst := some 45, op := Op.move (Operand.tmp 44), type := 4, pos := "law.go:15", after := #[{ on := 25, ground := Ground.data }, { on := 23, ground := Ground.chain }], guard := none }) (v := ?_) rfl (by kernel_rfl) (by kernel_rfl) (by kernel_rfl) (fun _ _ _ h => h) (Or.inl ⟨by rfl, ?_⟩) hHeld ?_
  rotate_left
  · intro w' hSw; (try dsimp only at hSw); go_simp <;> with_reducible rfl
  try simp only [Act.put, List.setIfInBounds_toArray, List.set_cons_zero, List.set_cons_succ]
  refine wpAnyH_ready (rs := [27]) (by kernel_rfl) (by simp) ?_
  refine AllReadyH.cons (o := { dst := some 46, op := Op.call { callee := Callee.value (Operand.func 17), args := #[Operand.const (Value.int IntKind.i64 (-120))], argTypes := #[2] }, type := 24, pos := "law.go:15", after := #[{ on := 26, ground := Ground.chain }, { on := 26, ground := Ground.guard }], guard := some (26, true) }) rfl (fun K hK => ?_) AllReadyH.nil
  go_simp
  refine Calls.mono (Om120.out _) ?_; rintro e wk ⟨rfl, hbk⟩
  refine hK.out _ _ (MK.out _ (hHeld.1.trans hbk)) (fun hHeld => ?_)
  clear hK K
  try simp only [Act.put, List.setIfInBounds_toArray, List.set_cons_zero, List.set_cons_succ]
  refine wpAnyH_ready (rs := [28]) (by kernel_rfl) (by simp) ?_
  refine AllReadyH.cons (o := { dst := some 47, op := Op.call { callee := Callee.value (Operand.func 21), args := #[Operand.tmp 46], argTypes := #[24] }, type := 9, pos := "law.go:15", after := #[{ on := 27, ground := Ground.data }, { on := 27, ground := Ground.chain }, { on := 26, ground := Ground.guard }], guard := some (26, true) }) rfl (fun K hK => ?_) AllReadyH.nil
  go_simp
  refine Calls.mono (TX.out _ (tab_below HT.out (HUV.out.trans hHeld.1.below).below hg) (by have h1 := hHeld.1.size; have h2 := HUV.out.size; omega)) ?_; rintro e wk ⟨rfl, hbk⟩
  refine hK.out _ _ (MK.out _ (hHeld.1.trans hbk)) (fun hHeld => ?_)
  clear hK K
  try simp only [Act.put, List.setIfInBounds_toArray, List.set_cons_zero, List.set_cons_succ]
  refine wpAnyH_take (i := 29) (oi := { dst := some 48, op := Op.binOp BinOp.eql 9 (Operand.tmp 47) (Operand.const (Value.string { data := #[45, 49, 50, 48] })) 9, type := 4, pos := "law.go:15", after := #[{ on := 28, ground := Ground.data }, { on := 26, ground := Ground.guard }], guard := some (26, true) }) (v := ?_) rfl (by kernel_rfl) (by kernel_rfl) (by kernel_rfl) (fun _ _ _ h => h) (Or.inl ⟨by rfl, ?_⟩) hHeld ?_
  rotate_left
  · intro w' hSw; (try dsimp only at hSw); go_simp <;> with_reducible rfl
  try simp only [Act.put, List.setIfInBounds_toArray, List.set_cons_zero, List.set_cons_succ]
  refine wpAnyH_take (i := 30) (oi := { dst := some 49, op := Op.pick (Operand.tmp 45) (Operand.tmp 48) (Operand.const (Value.bool false)), type := 4, pos := "law.go:15", after := #[{ on := 26, ground := Ground.data }, { on := 29, ground := Ground.data }], guard := none }) (v := ?_) rfl (by kernel_rfl) (by kernel_rfl) (by kernel_rfl) (fun _ _ _ h => h) (Or.inl ⟨by rfl, ?_⟩) hHeld ?_
  rotate_left
  · intro w' hSw; (try dsimp only at hSw); go_simp <;> with_reducible rfl
  try simp only [Act.put, List.setIfInBounds_toArray, List.set_cons_zero, List.set_cons_succ]
  refine wpAnyH_take (i := 31) (oi := { dst := some 0, op := Op.assign (Operand.tmp 49), type := 4, pos := "law.go:15", after := #[{ on := 30, ground := Ground.data }, { on := 28, ground := Ground.chain }, { on := 0, ground := Ground.phase }, { on := 1, ground := Ground.phase }, { on := 2, ground := Ground.phase }, { on := 3, ground := Ground.phase }, { on := 4, ground := Ground.phase }, { on := 5, ground := Ground.phase }, { on := 6, ground := Ground.phase }, { on := 7, ground := Ground.phase }, { on := 8, ground := Ground.phase }, { on := 9, ground := Ground.phase }, { on := 10, ground := Ground.phase }, { on := 11, ground := Ground.phase }, { on := 12, ground := Ground.phase }, { on := 13, ground := Ground.phase }, { on := 14, ground := Ground.phase }, { on := 15, ground := Ground.phase }, { on := 16, ground := Ground.phase }, { on := 17, ground := Ground.phase }, { on := 18, ground := Ground.phase }, { on := 19, ground := Ground.phase }, { on := 20, ground := Ground.phase }, { on := 21, ground := Ground.phase }, { on := 22, ground := Ground.phase }, { on := 23, ground := Ground.phase }, { on := 24, ground := Ground.phase }, { on := 25, ground := Ground.phase }, { on := 26, ground := Ground.phase }, { on := 27, ground := Ground.phase }, { on := 28, ground := Ground.phase }, { on := 29, ground := Ground.phase }, { on := 30, ground := Ground.phase }], guard := none }) (v := ?_) rfl (by kernel_rfl) (by kernel_rfl) (by kernel_rfl) (fun _ _ _ h => h) (Or.inl ⟨by rfl, ?_⟩) hHeld ?_
  rotate_left
  · intro w' hSw; (try dsimp only at hSw); go_simp <;> with_reducible rfl
  try simp only [Act.put, List.setIfInBounds_toArray, List.set_cons_zero, List.set_cons_succ]
  refine wpAnyH_done (by kernel_rfl) ?_ _
  refine NoPanic.normal ?_
  go_wp2_with fail
  go_ret
  exact ⟨rfl, (HUV.out.trans hHeld.1.below).below⟩
end Go.Proofs.YtfalllekhcocgaaDoor
