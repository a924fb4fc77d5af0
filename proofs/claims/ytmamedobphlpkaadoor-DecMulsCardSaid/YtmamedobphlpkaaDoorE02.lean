/-
  Wide4 · Mul64 · Wide5 · Times · Mul · Small
-/
import Derived.Test.YtmamedobphlpkaaDoorE01
import Derived.Test.YtmamedobphlpkaaDoorRows
import Derived.Shelf.Bits.Mul64
import Derived.BigQuiet
set_option linter.unusedSimpArgs false
set_option linter.unusedVariables false

namespace Go.Proofs.YtmamedobphlpkaaDoor
open Go.RowKit

set_option maxRecDepth 100000 in
set_option maxHeartbeats 2000000 in
theorem compare_words (w : World) (mh ml nh nl : Int) :
    Calls Tryd.prog 89 #[.agg #[.int .u64 mh, .int .u64 ml], .agg #[.int .u64 nh, .int .u64 nl]] w fun e w' =>
      e = .returned (.int .i64 (if cmp3 mh nh = 0 then cmp3 ml nl else cmp3 mh nh)) ∧ Below w.heap.size w w' := by
  obtain ⟨z, hz⟩ : ∃ z, z = if cmp3 mh nh = 0 then cmp3 ml nl else cmp3 mh nh := ⟨_, rfl⟩
  rw [← hz]
  have HZ := hid hz
  clear hz
  have hA := (Row.new w 79 #[.int .u64 mh, .int .u64 ml]).alloc (.cells #[.int .u64 nh, .int .u64 nl] 79)
  have hB := Row.new (w.alloc (.cells #[.int .u64 mh, .int .u64 ml] 79)) 79 #[.int .u64 nh, .int .u64 nl]
  have hU := ((Up.refl w).alloc (.cells #[.int .u64 mh, .int .u64 ml] 79)).alloc (.cells #[.int .u64 nh, .int .u64 nl] 79)
  simp only [alloc_size] at hB
  obtain ⟨V, hV⟩ : ∃ V, V = (w.alloc (.cells #[.int .u64 mh, .int .u64 ml] 79)).alloc (.cells #[.int .u64 nh, .int .u64 nl] 79) := ⟨_, rfl⟩
  have hVs : V.heap.size = w.heap.size + 2 := by rw [hV]; simp
  rw [← hV] at hA hB hU
  have mk : ∀ W, Up V.heap.size V W → (fun W => Up w.heap.size w W ∧ w.heap.size + 2 ≤ W.heap.size ∧ W.cell? ⟨w.heap.size, 0, none⟩ = some (.int .u64 mh) ∧ W.cell? ⟨w.heap.size, 1, none⟩ = some (.int .u64 ml) ∧ W.cell? ⟨w.heap.size + 1, 0, none⟩ = some (.int .u64 nh) ∧ W.cell? ⟨w.heap.size + 1, 1, none⟩ = some (.int .u64 nl)) W := by
    intro W hW
    have hA1 := hA.below hW.below hA.lt
    have hB1 := hB.below hW.below hB.lt
    exact ⟨hU.trans hW.below, by have := hW.size; omega, by simpa using hA1.cell 0, by simpa using hA1.cell 1, by simpa using hB1.cell 0, by simpa using hB1.cell 1⟩
  have MK := hid mk
  have hR := Row.new V 3 #[.int .i64 (cmp3 mh nh), .int .i64 (cmp3 ml nl)]
  rw [hVs] at hR
  have R0 : ((V.alloc (.cells #[.int .i64 (cmp3 mh nh), .int .i64 (cmp3 ml nl)] 3)).drew).cell? ⟨w.heap.size + 2, 0, none⟩ = some (.int .i64 (cmp3 mh nh)) := hR.cell 0
  have R1 : ((V.alloc (.cells #[.int .i64 (cmp3 mh nh), .int .i64 (cmp3 ml nl)] 3)).drew).cell? ⟨w.heap.size + 2, 1, none⟩ = some (.int .i64 (cmp3 ml nl)) := hR.cell 1
  clear mk hR
  go_enter Tryd.func89, Tryd.ntmps89
  go_wp2_with fail
  rw [← hV]
  clear hV
  refine wp_region_noPanic ?_
  refine wp_region_held_drew (S := (fun W => Up w.heap.size w W ∧ w.heap.size + 2 ≤ W.heap.size ∧ W.cell? ⟨w.heap.size, 0, none⟩ = some (.int .u64 mh) ∧ W.cell? ⟨w.heap.size, 1, none⟩ = some (.int .u64 ml) ∧ W.cell? ⟨w.heap.size + 1, 0, none⟩ = some (.int .u64 nh) ∧ W.cell? ⟨w.heap.size + 1, 1, none⟩ = some (.int .u64 nl))) (by kernel_rfl) (MK.out _ (Up.refl V).drew) (fun hHeld => ?_)
  refine wpAnyH_take (i := 0) (oi := { dst := some 5, op := Op.fieldAddr 79 (Operand.tmp 2) 0, type := 0, pos := "size.go:53", after := #[], guard := none }) (v := ?_) rfl (by kernel_rfl) (by kernel_rfl) (by kernel_rfl) (fun _ _ _ h => h) (Or.inl ⟨by rfl, ?_⟩) hHeld ?_
  rotate_left
  · intro w' hSw; (try dsimp only at hSw); go_simp <;> with_reducible rfl
  try simp only [Act.put, List.setIfInBounds_toArray, List.set_cons_zero, List.set_cons_succ]
  refine wpAnyH_take (i := 1) (oi := { dst := some 6, op := Op.load 22 (Operand.tmp 5), type := 22, pos := "size.go:53", after := #[{ on := 0, ground := Ground.data }], guard := none }) (v := ?_) rfl (by kernel_rfl) (by kernel_rfl) (by kernel_rfl) (fun _ _ _ h => h) (Or.inl ⟨by rfl, ?_⟩) hHeld ?_
  rotate_left
  · intro w' hSw; (try dsimp only at hSw); go_simp <;> with_reducible rfl
  try simp only [Act.put, List.setIfInBounds_toArray, List.set_cons_zero, List.set_cons_succ]
  refine wpAnyH_take (i := 2) (oi := { dst := some 7, op := Op.fieldAddr 79 (Operand.tmp 3) 0, type := 0, pos := "size.go:53", after := #[], guard := none }) (v := ?_) rfl (by kernel_rfl) (by kernel_rfl) (by kernel_rfl) (fun _ _ _ h => h) (Or.inl ⟨by rfl, ?_⟩) hHeld ?_
  rotate_left
  · intro w' hSw; (try dsimp only at hSw); go_simp <;> with_reducible rfl
  try simp only [Act.put, List.setIfInBounds_toArray, List.set_cons_zero, List.set_cons_succ]
  refine wpAnyH_take (i := 3) (oi := { dst := some 8, op := Op.load 22 (Operand.tmp 7), type := 22, pos := "size.go:53", after := #[{ on := 2, ground := Ground.data }], guard := none }) (v := ?_) rfl (by kernel_rfl) (by kernel_rfl) (by kernel_rfl) (fun _ _ _ h => h) (Or.inl ⟨by rfl, ?_⟩) hHeld ?_
  rotate_left
  · intro w' hSw; (try dsimp only at hSw); go_simp <;> with_reducible rfl
  try simp only [Act.put, List.setIfInBounds_toArray, List.set_cons_zero, List.set_cons_succ]
  refine wpAnyH_take (i := 5) (oi := { dst := some 10, op := Op.fieldAddr 79 (Operand.tmp 2) 1, type := 0, pos := "size.go:53", after := #[], guard := none }) (v := ?_) rfl (by kernel_rfl) (by kernel_rfl) (by kernel_rfl) (fun _ _ _ h => h) (Or.inl ⟨by rfl, ?_⟩) hHeld ?_
  rotate_left
  · intro w' hSw; (try dsimp only at hSw); go_simp <;> with_reducible rfl
  try simp only [Act.put, List.setIfInBounds_toArray, List.set_cons_zero, List.set_cons_succ]
  refine wpAnyH_take (i := 6) (oi := { dst := some 11, op := Op.load 22 (Operand.tmp 10), type := 22, pos := "size.go:53", after := #[{ on := 5, ground := Ground.data }], guard := none }) (v := ?_) rfl (by kernel_rfl) (by kernel_rfl) (by kernel_rfl) (fun _ _ _ h => h) (Or.inl ⟨by rfl, ?_⟩) hHeld ?_
  rotate_left
  · intro w' hSw; (try dsimp only at hSw); go_simp <;> with_reducible rfl
  try simp only [Act.put, List.setIfInBounds_toArray, List.set_cons_zero, List.set_cons_succ]
  refine wpAnyH_take (i := 7) (oi := { dst := some 12, op := Op.fieldAddr 79 (Operand.tmp 3) 1, type := 0, pos := "size.go:53", after := #[], guard := none }) (v := ?_) rfl (by kernel_rfl) (by kernel_rfl) (by kernel_rfl) (fun _ _ _ h => h) (Or.inl ⟨by rfl, ?_⟩) hHeld ?_
  rotate_left
  · intro w' hSw; (try dsimp only at hSw); go_simp <;> with_reducible rfl
  try simp only [Act.put, List.setIfInBounds_toArray, List.set_cons_zero, List.set_cons_succ]
  refine wpAnyH_take (i := 8) (oi := { dst := some 13, op := Op.load 22 (Operand.tmp 12), type := 22, pos := "size.go:53", after := #[{ on := 7, ground := Ground.data }], guard := none }) (v := ?_) rfl (by kernel_rfl) (by kernel_rfl) (by kernel_rfl) (fun _ _ _ h => h) (Or.inl ⟨by rfl, ?_⟩) hHeld ?_
  rotate_left
  · intro w' hSw; (try dsimp only at hSw); go_simp <;> with_reducible rfl
  try simp only [Act.put, List.setIfInBounds_toArray, List.set_cons_zero, List.set_cons_succ]
  refine wpAnyH_ready (rs := [4]) (by kernel_rfl) (by simp) ?_
  refine AllReadyH.cons (o := { dst := some 9, op := Op.call { callee := Callee.value (Operand.func 60), args := #[Operand.tmp 6, Operand.tmp 8], argTypes := #[22, 22] }, type := 3, pos := "size.go:53", after := #[{ on := 1, ground := Ground.data }, { on := 3, ground := Ground.data }], guard := none }) rfl (fun K hK => ?_) AllReadyH.nil
  go_simp
  refine (compareU _ _ _).mono ?_; rintro e wk ⟨rfl, rfl⟩
  refine hK.out _ _ (hHeld) (fun hHeld => ?_)
  clear hK K
  try simp only [Act.put, List.setIfInBounds_toArray, List.set_cons_zero, List.set_cons_succ]
  refine wpAnyH_ready (rs := [9]) (by kernel_rfl) (by simp) ?_
  refine AllReadyH.cons (o := { dst := some 14, op := Op.call { callee := Callee.value (Operand.func 60), args := #[Operand.tmp 11, Operand.tmp 13], argTypes := #[22, 22] }, type := 3, pos := "size.go:53", after := #[{ on := 6, ground := Ground.data }, { on := 8, ground := Ground.data }, { on := 4, ground := Ground.chain }], guard := none }) rfl (fun K hK => ?_) AllReadyH.nil
  go_simp
  refine (compareU _ _ _).mono ?_; rintro e wk ⟨rfl, rfl⟩
  refine hK.out _ _ (hHeld) (fun hHeld => ?_)
  clear hK K
  try simp only [Act.put, List.setIfInBounds_toArray, List.set_cons_zero, List.set_cons_succ]
  refine wpAnyH_ready (rs := [10]) (by kernel_rfl) (by simp) ?_
  refine AllReadyH.cons (o := { dst := some 15, op := Op.buildSlice 107 2 #[(0, Operand.tmp 9), (1, Operand.tmp 14)], type := 107, pos := "size.go:53", after := #[{ on := 4, ground := Ground.data }, { on := 9, ground := Ground.data }], guard := none }) rfl (fun K hK => ?_) AllReadyH.nil
  go_simp
  refine hK.out _ _ (MK.out _ ((Up.refl V).alloc _).drew) (fun hHeld => ?_)
  clear hK K
  try simp only [Act.put, List.setIfInBounds_toArray, List.set_cons_zero, List.set_cons_succ]
  refine wpAnyH_ready (rs := [11]) (by kernel_rfl) (by simp) ?_
  refine AllReadyH.cons (o := { dst := some 16, op := Op.call { callee := Callee.value (Operand.func 58), args := #[Operand.tmp 15], argTypes := #[107] }, type := 3, pos := "size.go:53", after := #[{ on := 10, ground := Ground.data }, { on := 9, ground := Ground.chain }], guard := none }) rfl (fun K hK => ?_) AllReadyH.nil
  go_simp
  refine (or_any _ (w.heap.size + 2) _ _ R0 R1).mono ?_; rintro e wk ⟨rfl, hbk⟩; rw [← HZ.out]
  refine hK.out _ _ (MK.out _ ((((Up.refl V).alloc _).drew).trans hbk)) (fun hHeld => ?_)
  clear hK K
  try simp only [Act.put, List.setIfInBounds_toArray, List.set_cons_zero, List.set_cons_succ]
  refine wpAnyH_take (i := 12) (oi := { dst := some 4, op := Op.assign (Operand.tmp 16), type := 3, pos := "size.go:53", after := #[{ on := 11, ground := Ground.data }, { on := 11, ground := Ground.chain }, { on := 0, ground := Ground.phase }, { on := 1, ground := Ground.phase }, { on := 2, ground := Ground.phase }, { on := 3, ground := Ground.phase }, { on := 4, ground := Ground.phase }, { on := 5, ground := Ground.phase }, { on := 6, ground := Ground.phase }, { on := 7, ground := Ground.phase }, { on := 8, ground := Ground.phase }, { on := 9, ground := Ground.phase }, { on := 10, ground := Ground.phase }, { on := 11, ground := Ground.phase }], guard := none }) (v := ?_) rfl (by kernel_rfl) (by kernel_rfl) (by kernel_rfl) (fun _ _ _ h => h) (Or.inl ⟨by rfl, ?_⟩) hHeld ?_
  rotate_left
  · intro w' hSw; (try dsimp only at hSw); go_simp <;> with_reducible rfl
  try simp only [Act.put, List.setIfInBounds_toArray, List.set_cons_zero, List.set_cons_succ]
  refine wpAnyH_done (by kernel_rfl) ?_ _
  refine NoPanic.normal ?_
  go_wp2
  go_ret
  exact ⟨rfl, hHeld.1.below⟩

set_option maxRecDepth 100000 in
set_option maxHeartbeats 2000000 in
theorem cmp_words (w : World) (mh ml nh nl : Int) :
    Calls Tryd.prog 33 #[.agg #[.int .i64 mh, .int .u64 ml], .agg #[.int .i64 nh, .int .u64 nl]] w fun e w' =>
      e = .returned (.int .i64 (if cmp3 mh nh = 0 then cmp3 ml nl else cmp3 mh nh)) ∧ Below w.heap.size w w' := by
  obtain ⟨z, hz⟩ : ∃ z, z = if cmp3 mh nh = 0 then cmp3 ml nl else cmp3 mh nh := ⟨_, rfl⟩
  rw [← hz]
  have HZ := hid hz
  clear hz
  have hA := (Row.new w 24 #[.int .i64 mh, .int .u64 ml]).alloc (.cells #[.int .i64 nh, .int .u64 nl] 24)
  have hB := Row.new (w.alloc (.cells #[.int .i64 mh, .int .u64 ml] 24)) 24 #[.int .i64 nh, .int .u64 nl]
  have hU := ((Up.refl w).alloc (.cells #[.int .i64 mh, .int .u64 ml] 24)).alloc (.cells #[.int .i64 nh, .int .u64 nl] 24)
  simp only [alloc_size] at hB
  obtain ⟨V, hV⟩ : ∃ V, V = (w.alloc (.cells #[.int .i64 mh, .int .u64 ml] 24)).alloc (.cells #[.int .i64 nh, .int .u64 nl] 24) := ⟨_, rfl⟩
  have hVs : V.heap.size = w.heap.size + 2 := by rw [hV]; simp
  rw [← hV] at hA hB hU
  have mk : ∀ W, Up V.heap.size V W → (fun W => Up w.heap.size w W ∧ w.heap.size + 2 ≤ W.heap.size ∧ W.cell? ⟨w.heap.size, 0, none⟩ = some (.int .i64 mh) ∧ W.cell? ⟨w.heap.size, 1, none⟩ = some (.int .u64 ml) ∧ W.cell? ⟨w.heap.size + 1, 0, none⟩ = some (.int .i64 nh) ∧ W.cell? ⟨w.heap.size + 1, 1, none⟩ = some (.int .u64 nl)) W := by
    intro W hW
    have hA1 := hA.below hW.below hA.lt
    have hB1 := hB.below hW.below hB.lt
    exact ⟨hU.trans hW.below, by have := hW.size; omega, by simpa using hA1.cell 0, by simpa using hA1.cell 1, by simpa using hB1.cell 0, by simpa using hB1.cell 1⟩
  have MK := hid mk
  have hR := Row.new V 3 #[.int .i64 (cmp3 mh nh), .int .i64 (cmp3 ml nl)]
  rw [hVs] at hR
  have R0 : ((V.alloc (.cells #[.int .i64 (cmp3 mh nh), .int .i64 (cmp3 ml nl)] 3)).drew).cell? ⟨w.heap.size + 2, 0, none⟩ = some (.int .i64 (cmp3 mh nh)) := hR.cell 0
  have R1 : ((V.alloc (.cells #[.int .i64 (cmp3 mh nh), .int .i64 (cmp3 ml nl)] 3)).drew).cell? ⟨w.heap.size + 2, 1, none⟩ = some (.int .i64 (cmp3 ml nl)) := hR.cell 1
  clear mk hR
  go_enter Tryd.func33, Tryd.ntmps33
  go_wp2_with fail
  rw [← hV]
  clear hV
  refine wp_region_noPanic ?_
  refine wp_region_held_drew (S := (fun W => Up w.heap.size w W ∧ w.heap.size + 2 ≤ W.heap.size ∧ W.cell? ⟨w.heap.size, 0, none⟩ = some (.int .i64 mh) ∧ W.cell? ⟨w.heap.size, 1, none⟩ = some (.int .u64 ml) ∧ W.cell? ⟨w.heap.size + 1, 0, none⟩ = some (.int .i64 nh) ∧ W.cell? ⟨w.heap.size + 1, 1, none⟩ = some (.int .u64 nl))) (by kernel_rfl) (MK.out _ (Up.refl V).drew) (fun hHeld => ?_)
  refine wpAnyH_take (i := 0) (oi := { dst := some 5, op := Op.fieldAddr 24 (Operand.tmp 2) 0, type := 0, pos := "wide.go:24", after := #[], guard := none }) (v := ?_) rfl (by kernel_rfl) (by kernel_rfl) (by kernel_rfl) (fun _ _ _ h => h) (Or.inl ⟨by rfl, ?_⟩) hHeld ?_
  rotate_left
  · intro w' hSw; (try dsimp only at hSw); go_simp <;> with_reducible rfl
  try simp only [Act.put, List.setIfInBounds_toArray, List.set_cons_zero, List.set_cons_succ]
  refine wpAnyH_take (i := 1) (oi := { dst := some 6, op := Op.load 2 (Operand.tmp 5), type := 2, pos := "wide.go:24", after := #[{ on := 0, ground := Ground.data }], guard := none }) (v := ?_) rfl (by kernel_rfl) (by kernel_rfl) (by kernel_rfl) (fun _ _ _ h => h) (Or.inl ⟨by rfl, ?_⟩) hHeld ?_
  rotate_left
  · intro w' hSw; (try dsimp only at hSw); go_simp <;> with_reducible rfl
  try simp only [Act.put, List.setIfInBounds_toArray, List.set_cons_zero, List.set_cons_succ]
  refine wpAnyH_take (i := 2) (oi := { dst := some 7, op := Op.fieldAddr 24 (Operand.tmp 3) 0, type := 0, pos := "wide.go:24", after := #[], guard := none }) (v := ?_) rfl (by kernel_rfl) (by kernel_rfl) (by kernel_rfl) (fun _ _ _ h => h) (Or.inl ⟨by rfl, ?_⟩) hHeld ?_
  rotate_left
  · intro w' hSw; (try dsimp only at hSw); go_simp <;> with_reducible rfl
  try simp only [Act.put, List.setIfInBounds_toArray, List.set_cons_zero, List.set_cons_succ]
  refine wpAnyH_take (i := 3) (oi := { dst := some 8, op := Op.load 2 (Operand.tmp 7), type := 2, pos := "wide.go:24", after := #[{ on := 2, ground := Ground.data }], guard := none }) (v := ?_) rfl (by kernel_rfl) (by kernel_rfl) (by kernel_rfl) (fun _ _ _ h => h) (Or.inl ⟨by rfl, ?_⟩) hHeld ?_
  rotate_left
  · intro w' hSw; (try dsimp only at hSw); go_simp <;> with_reducible rfl
  try simp only [Act.put, List.setIfInBounds_toArray, List.set_cons_zero, List.set_cons_succ]
  refine wpAnyH_take (i := 5) (oi := { dst := some 10, op := Op.fieldAddr 24 (Operand.tmp 2) 1, type := 0, pos := "wide.go:24", after := #[], guard := none }) (v := ?_) rfl (by kernel_rfl) (by kernel_rfl) (by kernel_rfl) (fun _ _ _ h => h) (Or.inl ⟨by rfl, ?_⟩) hHeld ?_
  rotate_left
  · intro w' hSw; (try dsimp only at hSw); go_simp <;> with_reducible rfl
  try simp only [Act.put, List.setIfInBounds_toArray, List.set_cons_zero, List.set_cons_succ]
  refine wpAnyH_take (i := 6) (oi := { dst := some 11, op := Op.load 22 (Operand.tmp 10), type := 22, pos := "wide.go:24", after := #[{ on := 5, ground := Ground.data }], guard := none }) (v := ?_) rfl (by kernel_rfl) (by kernel_rfl) (by kernel_rfl) (fun _ _ _ h => h) (Or.inl ⟨by rfl, ?_⟩) hHeld ?_
  rotate_left
  · intro w' hSw; (try dsimp only at hSw); go_simp <;> with_reducible rfl
  try simp only [Act.put, List.setIfInBounds_toArray, List.set_cons_zero, List.set_cons_succ]
  refine wpAnyH_take (i := 7) (oi := { dst := some 12, op := Op.fieldAddr 24 (Operand.tmp 3) 1, type := 0, pos := "wide.go:24", after := #[], guard := none }) (v := ?_) rfl (by kernel_rfl) (by kernel_rfl) (by kernel_rfl) (fun _ _ _ h => h) (Or.inl ⟨by rfl, ?_⟩) hHeld ?_
  rotate_left
  · intro w' hSw; (try dsimp only at hSw); go_simp <;> with_reducible rfl
  try simp only [Act.put, List.setIfInBounds_toArray, List.set_cons_zero, List.set_cons_succ]
  refine wpAnyH_take (i := 8) (oi := { dst := some 13, op := Op.load 22 (Operand.tmp 12), type := 22, pos := "wide.go:24", after := #[{ on := 7, ground := Ground.data }], guard := none }) (v := ?_) rfl (by kernel_rfl) (by kernel_rfl) (by kernel_rfl) (fun _ _ _ h => h) (Or.inl ⟨by rfl, ?_⟩) hHeld ?_
  rotate_left
  · intro w' hSw; (try dsimp only at hSw); go_simp <;> with_reducible rfl
  try simp only [Act.put, List.setIfInBounds_toArray, List.set_cons_zero, List.set_cons_succ]
  refine wpAnyH_ready (rs := [4]) (by kernel_rfl) (by simp) ?_
  refine AllReadyH.cons (o := { dst := some 9, op := Op.call { callee := Callee.value (Operand.func 59), args := #[Operand.tmp 6, Operand.tmp 8], argTypes := #[2, 2] }, type := 3, pos := "wide.go:24", after := #[{ on := 1, ground := Ground.data }, { on := 3, ground := Ground.data }], guard := none }) rfl (fun K hK => ?_) AllReadyH.nil
  go_simp
  refine (compareI _ _ _).mono ?_; rintro e wk ⟨rfl, rfl⟩
  refine hK.out _ _ (hHeld) (fun hHeld => ?_)
  clear hK K
  try simp only [Act.put, List.setIfInBounds_toArray, List.set_cons_zero, List.set_cons_succ]
  refine wpAnyH_ready (rs := [9]) (by kernel_rfl) (by simp) ?_
  refine AllReadyH.cons (o := { dst := some 14, op := Op.call { callee := Callee.value (Operand.func 60), args := #[Operand.tmp 11, Operand.tmp 13], argTypes := #[22, 22] }, type := 3, pos := "wide.go:24", after := #[{ on := 6, ground := Ground.data }, { on := 8, ground := Ground.data }, { on := 4, ground := Ground.chain }], guard := none }) rfl (fun K hK => ?_) AllReadyH.nil
  go_simp
  refine (compareU _ _ _).mono ?_; rintro e wk ⟨rfl, rfl⟩
  refine hK.out _ _ (hHeld) (fun hHeld => ?_)
  clear hK K
  try simp only [Act.put, List.setIfInBounds_toArray, List.set_cons_zero, List.set_cons_succ]
  refine wpAnyH_ready (rs := [10]) (by kernel_rfl) (by simp) ?_
  refine AllReadyH.cons (o := { dst := some 15, op := Op.buildSlice 107 2 #[(0, Operand.tmp 9), (1, Operand.tmp 14)], type := 107, pos := "wide.go:24", after := #[{ on := 4, ground := Ground.data }, { on := 9, ground := Ground.data }], guard := none }) rfl (fun K hK => ?_) AllReadyH.nil
  go_simp
  refine hK.out _ _ (MK.out _ ((Up.refl V).alloc _).drew) (fun hHeld => ?_)
  clear hK K
  try simp only [Act.put, List.setIfInBounds_toArray, List.set_cons_zero, List.set_cons_succ]
  refine wpAnyH_ready (rs := [11]) (by kernel_rfl) (by simp) ?_
  refine AllReadyH.cons (o := { dst := some 16, op := Op.call { callee := Callee.value (Operand.func 58), args := #[Operand.tmp 15], argTypes := #[107] }, type := 3, pos := "wide.go:24", after := #[{ on := 10, ground := Ground.data }, { on := 9, ground := Ground.chain }], guard := none }) rfl (fun K hK => ?_) AllReadyH.nil
  go_simp
  refine (or_any _ (w.heap.size + 2) _ _ R0 R1).mono ?_; rintro e wk ⟨rfl, hbk⟩; rw [← HZ.out]
  refine hK.out _ _ (MK.out _ ((((Up.refl V).alloc _).drew).trans hbk)) (fun hHeld => ?_)
  clear hK K
  try simp only [Act.put, List.setIfInBounds_toArray, List.set_cons_zero, List.set_cons_succ]
  refine wpAnyH_take (i := 12) (oi := { dst := some 4, op := Op.assign (Operand.tmp 16), type := 3, pos := "wide.go:24", after := #[{ on := 11, ground := Ground.data }, { on := 11, ground := Ground.chain }, { on := 0, ground := Ground.phase }, { on := 1, ground := Ground.phase }, { on := 2, ground := Ground.phase }, { on := 3, ground := Ground.phase }, { on := 4, ground := Ground.phase }, { on := 5, ground := Ground.phase }, { on := 6, ground := Ground.phase }, { on := 7, ground := Ground.phase }, { on := 8, ground := Ground.phase }, { on := 9, ground := Ground.phase }, { on := 10, ground := Ground.phase }, { on := 11, ground := Ground.phase }], guard := none }) (v := ?_) rfl (by kernel_rfl) (by kernel_rfl) (by kernel_rfl) (fun _ _ _ h => h) (Or.inl ⟨by rfl, ?_⟩) hHeld ?_
  rotate_left
  · intro w' hSw; (try dsimp only at hSw); go_simp <;> with_reducible rfl
  try simp only [Act.put, List.setIfInBounds_toArray, List.set_cons_zero, List.set_cons_succ]
  refine wpAnyH_done (by kernel_rfl) ?_ _
  refine NoPanic.normal ?_
  go_wp2
  go_ret
  exact ⟨rfl, hHeld.1.below⟩

theorem cmp3_words {ah al bh bl : Int} (h2 : 0 ≤ al ∧ al < 18446744073709551616) (h4 : 0 ≤ bl ∧ bl < 18446744073709551616) :
    (if cmp3 ah bh = 0 then cmp3 al bl else cmp3 ah bh) = cmp3 (ah * 18446744073709551616 + al) (bh * 18446744073709551616 + bl) := by
  rcases cmp3_cases ah bh with ⟨h, e⟩ | ⟨h, e⟩ | ⟨h, e⟩
  · rw [e, if_neg (by decide), cmp3_lt (by omega)]
  · rw [e, if_neg (by decide), cmp3_gt (by omega)]
  · subst h
    rw [e, if_pos rfl]
    rcases cmp3_cases al bl with ⟨h, e⟩ | ⟨h, e⟩ | ⟨h, e⟩
    · rw [e, cmp3_lt (by omega)]
    · rw [e, cmp3_gt (by omega)]
    · subst h
      rw [e, cmp3_eq]
theorem cmp_any (w : World) (x y : Int) (hx : Fits x) (hy : Fits y) : Calls Tryd.prog 33 #[WV x, WV y] w fun e w' => e = .returned (.int .i64 (cmp3 x y)) ∧ Below w.heap.size w w' := by
  obtain ⟨ah, al, e1, rfl, h1, h2⟩ := WV_of hx
  obtain ⟨bh, bl, e2, rfl, h3, h4⟩ := WV_of hy
  rw [e1, e2]
  have e : (if cmp3 ah bh = 0 then cmp3 al bl else cmp3 ah bh) = cmp3 (ah * 18446744073709551616 + al) (bh * 18446744073709551616 + bl) := cmp3_words h2 h4
  rw [← e]
  exact cmp_words w ah al bh bl

end Go.Proofs.YtmamedobphlpkaaDoor

namespace Go.Proofs.YtmamedobphlpkaaDoor
open Go.RowKit Go.Shelf

def ren64 : Ren := ⟨fun x => if x = 264 then 51 else x, fun x => if x = 46 then 89 else if x = 53 then 22 else x, fun x => x⟩
theorem lays64 : Lays.n264 Tryd.prog ren64 := {
  mixed := by kernel_rfl
  f264 := by kernel_rfl
  t46 := Tryd.underlying89
  a46 := Tryd.isAgg89
  z46 := Tryd.sizeOf89
  v46 := Tryd.zeroValue89
  t53 := Tryd.underlying22
  a53 := Tryd.isAgg22
  z53 := Tryd.sizeOf22
  v53 := Tryd.zeroValue22 }
theorem mul64 (x y : Int) (hx : 0 ≤ x ∧ x < 18446744073709551616) (hy : 0 ≤ y ∧ y < 18446744073709551616) (w : World) :
    Calls Tryd.prog 51 #[.int .u64 x, .int .u64 y] w fun e w' => e = .returned (.tuple #[.int .u64 (x * y / 18446744073709551616), .int .u64 (x * y % 18446744073709551616)]) ∧ w = w' := by
  obtain ⟨x, rfl⟩ := Int.eq_ofNat_of_zero_le hx.1
  obtain ⟨y, rfl⟩ := Int.eq_ofNat_of_zero_le hy.1
  have h := Any.bits_Mul64 lays64 x y (by omega) (by omega) w
  have e1 : ((x * y / 18446744073709551616 : Nat) : Int) = (x : Int) * y / 18446744073709551616 := by rw [Int.natCast_ediv, Int.natCast_mul]; rfl
  have e2 : ((x * y % 18446744073709551616 : Nat) : Int) = (x : Int) * y % 18446744073709551616 := by rw [Int.natCast_emod, Int.natCast_mul]; rfl
  rw [e1, e2] at h
  exact h.mono fun e w' ⟨h1, h2⟩ => ⟨h1, h2.symm⟩
end Go.Proofs.YtmamedobphlpkaaDoor

namespace Go.Proofs.YtmamedobphlpkaaDoor
open Go.RowKit

theorem less_any (w : World) (m n : Int) (hm : Big m) (hn : Big n) : Calls Tryd.prog 92 #[UV m, UV n] w fun e w' => e = .returned (UV ((m - n) % 340282366920938463463374607431768211456)) ∧ Below w.heap.size w w' := by
  obtain ⟨mh, ml, e1, rfl, h1, h2⟩ := UV_of hm
  obtain ⟨nh, nl, e2, rfl, h3, h4⟩ := UV_of hn
  rw [e1, e2]
  exact less_words w mh ml nh nl h1 h2 h3 h4
theorem sized_any (w : World) (x : Int) (hx : Fits x) : Calls Tryd.prog 75 #[WV x] w fun e w' => e = .returned (.tuple #[UV (mag x), .bool (decide (x < 0))]) ∧ Below w.heap.size w w' := by
  obtain ⟨hi, lo, e1, rfl, h1, h2⟩ := WV_of hx
  rw [e1, show decide (hi * 18446744073709551616 + lo < 0) = decide (hi < 0) from decide_eq_decide.2 (by omega)]
  exact sized_words w hi lo h1 h2
theorem signed_any (w : World) (m : Int) (minus : Bool) (hm : Big m) : Calls Tryd.prog 53 #[UV m, .bool minus] w fun e w' => e = .returned (resV (if minus then -m else m)) ∧ Below w.heap.size w w' := by
  obtain ⟨mh, ml, e1, rfl, h1, h2⟩ := UV_of hm
  rw [e1]
  exact signed_words w mh ml minus h1 h2
theorem compare_any (w : World) (m n : Int) (hm : Big m) (hn : Big n) : Calls Tryd.prog 89 #[UV m, UV n] w fun e w' => e = .returned (.int .i64 (cmp3 m n)) ∧ Below w.heap.size w w' := by
  obtain ⟨mh, ml, e1, rfl, h1, h2⟩ := UV_of hm
  obtain ⟨nh, nl, e2, rfl, h3, h4⟩ := UV_of hn
  rw [e1, e2, ← cmp3_words h2 h4]
  exact compare_words w mh ml nh nl
theorem sign_any (w : World) (x : Int) (hx : Fits x) : Calls Tryd.prog 31 #[WV x] w fun e w' => e = .returned (.int .i64 (cmp3 x 0)) ∧ Below w.heap.size w w' := by
  have hC := fun w => cmp_any w x 0 hx (by unfold Fits; omega)
  obtain ⟨hi, lo, e1, rfl, h1, h2⟩ := WV_of hx
  rw [e1, show WV 0 = .agg #[.int .i64 0, .int .u64 0] from rfl] at hC
  rw [e1]
  have HC := hid hC
  clear hC e1 h1 h2 hx
  go_enter Tryd.func31, Tryd.ntmps31
  go_wp2_with fail
  refine Calls.mono (HC.out _) ?_; rintro e w' ⟨rfl, hb⟩
  go_wp2_with fail
  go_ret
  exact ⟨rfl, (((Up.refl w).alloc _).trans hb).below⟩

theorem pow10_lt : ∀ k : Nat, k ≤ 19 → 10 ^ k < 18446744073709551616 := by decide
theorem ten_any (w : World) (k : Nat) (hk : k ≤ 19) : Calls Tryd.prog 52 #[.int .i64 k] w fun e w' => e = .returned (.int .u64 ((10 ^ k : Nat) : Int)) ∧ Below w.heap.size w w' := by
  go_enter Tryd.func52, Tryd.ntmps52
  go_wp2_with fail
  go_loopw [3, 5] (fun v i wr => ∃ j : Nat, j ≤ k ∧ i = .int .i64 j ∧ v = .int .u64 ((10 ^ j : Nat) : Int) ∧ w = wr) (fun _ i _ => k - (intOf i).toNat)
  case atStart => exact ⟨0, Nat.zero_le _, rfl, rfl, rfl⟩
  case round =>
    obtain ⟨j, hj, rfl, rfl, rfl⟩ := hrel
    by_cases hlt : j < k
    · have h10 := pow10_lt (j + 1) (by omega)
      obtain ⟨t, ht⟩ : ∃ t : Nat, t = 10 ^ j := ⟨_, rfl⟩
      have ht' : 10 ^ (j + 1) = t * 10 := by rw [ht, Nat.pow_succ]
      rw [ht'] at h10
      have HT := hid ht
      have HT' := hid ht'
      rw [← ht]
      clear ht ht'
      have hwr : IntKind.u64.wrap ((t : Int) * 10) = (t : Int) * 10 := by rw [IntKind.wrap_u64]; omega
      go_wp2_with fail
      go_roundw
      case rel => exact ⟨j + 1, by omega, by go_num, by rw [HT'.out]; first | rfl | (congr 1), by trivial⟩
      case measure => simp [intOf]; omega
    · obtain rfl : j = k := by omega
      obtain ⟨t, ht⟩ : ∃ t : Nat, t = 10 ^ j := ⟨_, rfl⟩
      have HT := hid ht
      rw [← ht]
      clear ht
      go_wp2_with fail
      go_ret
      rw [← HT.out]
      exact ⟨rfl, Below.refl _ _⟩

end Go.Proofs.YtmamedobphlpkaaDoor

namespace Go.Proofs.YtmamedobphlpkaaDoor
open Go.RowKit

theorem mul_bound {x y : Int} (hx : 0 ≤ x ∧ x < 18446744073709551616) (hy : 0 ≤ y ∧ y < 18446744073709551616) : 0 ≤ x * y ∧ x * y ≤ 340282366920938463426481119284349108225 := by
  refine ⟨Int.mul_nonneg hx.1 hy.1, ?_⟩
  have h1 : x * y ≤ 18446744073709551615 * y := Int.mul_le_mul_of_nonneg_right (by omega) hy.1
  omega
/-- one step: a product of two words, what is carried over, and a digit -/
theorem mul_add (t o p : Int) (ht : 0 ≤ t ∧ t ≤ 340282366920938463426481119284349108225) (ho : 0 ≤ o ∧ o < 18446744073709551616) (hp : 0 ≤ p ∧ p < 18446744073709551616) :
    ∃ th tl s1 c1 s2 c2 h1 o2 : Int, t / 18446744073709551616 = th ∧ t % 18446744073709551616 = tl ∧ (tl + o) % 18446744073709551616 = s1 ∧ (tl + o) / 18446744073709551616 = c1 ∧ (p + s1) % 18446744073709551616 = s2 ∧ (p + s1) / 18446744073709551616 = c2 ∧
      IntKind.u64.wrap (th + c1) = h1 ∧ IntKind.u64.wrap (h1 + c2) = o2 ∧ o2 * 18446744073709551616 + s2 = t + o + p ∧ (0 ≤ s2 ∧ s2 < 18446744073709551616) ∧ (0 ≤ o2 ∧ o2 < 18446744073709551616) ∧ 0 ≤ tl ∧ 0 ≤ s1 := by
  refine ⟨_, _, _, _, _, _, _, _, rfl, rfl, rfl, rfl, rfl, rfl, rfl, rfl, ?_⟩
  rw [IntKind.wrap_u64, IntKind.wrap_u64]
  omega

theorem index_0 (x y : Int) (W : World) : (Instr.index 131 (.agg #[.int .u64 x, .int .u64 y]) (.int .i64 0)).run Tryd.prog W = .ok (.int .u64 x) W := by kernel_rfl
theorem index_1 (x y : Int) (W : World) : (Instr.index 131 (.agg #[.int .u64 x, .int .u64 y]) (.int .i64 1)).run Tryd.prog W = .ok (.int .u64 y) W := by kernel_rfl

set_option maxRecDepth 100000 in
set_option maxHeartbeats 4000000 in
theorem times_words (w : World) (mh ml nh nl : Int) (h1 : 0 ≤ mh ∧ mh < 18446744073709551616) (h2 : 0 ≤ ml ∧ ml < 18446744073709551616) (h3 : 0 ≤ nh ∧ nh < 18446744073709551616) (h4 : 0 ≤ nl ∧ nl < 18446744073709551616) :
    Calls Tryd.prog 76 #[.agg #[.int .u64 mh, .int .u64 ml], .agg #[.int .u64 nh, .int .u64 nl]] w fun e w' =>
      ∃ a b c d : Int, e = .returned (.agg #[.int .u64 a, .int .u64 b, .int .u64 c, .int .u64 d]) ∧ (0 ≤ a ∧ a < 18446744073709551616) ∧ (0 ≤ b ∧ b < 18446744073709551616) ∧ (0 ≤ c ∧ c < 18446744073709551616) ∧ (0 ≤ d ∧ d < 18446744073709551616) ∧
        a + b * 18446744073709551616 + c * 340282366920938463463374607431768211456 + d * 6277101735386680763835789423207666416102355444464034512896 = ml * nl + (ml * nh + mh * nl) * 18446744073709551616 + mh * nh * 340282366920938463463374607431768211456 ∧ Below w.heap.size w w' := by
  have b00 := mul_bound h2 h4
  have b01 := mul_bound h2 h3
  have b10 := mul_bound h1 h4
  have b11 := mul_bound h1 h3
  have m00 := fun w => mul64 ml nl h2 h4 w
  have m01 := fun w => mul64 ml nh h2 h3 w
  have m10 := fun w => mul64 mh nl h1 h4 w
  have m11 := fun w => mul64 mh nh h1 h3 w
  obtain ⟨P00, e00⟩ : ∃ P, P = ml * nl := ⟨_, rfl⟩
  obtain ⟨P01, e01⟩ : ∃ P, P = ml * nh := ⟨_, rfl⟩
  obtain ⟨P10, e10⟩ : ∃ P, P = mh * nl := ⟨_, rfl⟩
  obtain ⟨P11, e11⟩ : ∃ P, P = mh * nh := ⟨_, rfl⟩
  rw [← e00] at b00 m00
  rw [← e01] at b01 m01
  rw [← e10] at b10 m10
  rw [← e11] at b11 m11
  rw [← e00, ← e01, ← e10, ← e11]
  clear e00 e01 e10 e11
  have hA := ((Row.new w 79 #[.int .u64 mh, .int .u64 ml]).alloc (.cells #[.int .u64 nh, .int .u64 nl] 79)).alloc (.cells #[.int .u64 0, .int .u64 0, .int .u64 0, .int .u64 0] 82)
  have hB := (Row.new (w.alloc (.cells #[.int .u64 mh, .int .u64 ml] 79)) 79 #[.int .u64 nh, .int .u64 nl]).alloc (.cells #[.int .u64 0, .int .u64 0, .int .u64 0, .int .u64 0] 82)
  have hC := Row.new ((w.alloc (.cells #[.int .u64 mh, .int .u64 ml] 79)).alloc (.cells #[.int .u64 nh, .int .u64 nl] 79)) 82 #[.int .u64 0, .int .u64 0, .int .u64 0, .int .u64 0]
  have hU := (((Up.refl w).alloc (.cells #[.int .u64 mh, .int .u64 ml] 79)).alloc (.cells #[.int .u64 nh, .int .u64 nl] 79)).alloc (.cells #[.int .u64 0, .int .u64 0, .int .u64 0, .int .u64 0] 82)
  simp only [alloc_size] at hB hC
  have HM00 := hid m00
  have HM01 := hid m01
  have HM10 := hid m10
  have HM11 := hid m11
  have B00 := hid b00
  have B01 := hid b01
  have B10 := hid b10
  have B11 := hid b11
  have i0 := index_0
  have i1 := index_1
  clear m00 m01 m10 m11 b00 b01 b10 b11 h1 h2 h3 h4
  go_enter Tryd.func76, Tryd.ntmps76
  go_wp2_with fail
  obtain ⟨V, hV⟩ : ∃ V, V = ((w.alloc (.cells #[.int .u64 mh, .int .u64 ml] 79)).alloc (.cells #[.int .u64 nh, .int .u64 nl] 79)).alloc (.cells #[.int .u64 0, .int .u64 0, .int .u64 0, .int .u64 0] 82) := ⟨_, rfl⟩
  rw [← hV] at hA hB hC hU ⊢
  clear hV hA
  go_loopw [18] (fun i wr => ∃ a b c d : Int, Row wr (w.heap.size + 1 + 1) 82 #[.int .u64 a, .int .u64 b, .int .u64 c, .int .u64 d] ∧ Row wr (w.heap.size + 1) 79 #[.int .u64 nh, .int .u64 nl] ∧ Up w.heap.size w wr ∧
    (0 ≤ a ∧ a < 18446744073709551616) ∧ (0 ≤ b ∧ b < 18446744073709551616) ∧ (0 ≤ c ∧ c < 18446744073709551616) ∧ (0 ≤ d ∧ d < 18446744073709551616) ∧
    ((i = .int .i64 0 ∧ a = 0 ∧ b = 0 ∧ c = 0 ∧ d = 0) ∨ (i = .int .i64 1 ∧ d = 0 ∧ a + b * 18446744073709551616 + c * 340282366920938463463374607431768211456 = P00 + P01 * 18446744073709551616) ∨
     (i = .int .i64 2 ∧ a + b * 18446744073709551616 + c * 340282366920938463463374607431768211456 + d * 6277101735386680763835789423207666416102355444464034512896 = P00 + (P01 + P10) * 18446744073709551616 + P11 * 340282366920938463463374607431768211456))) (fun i _ => 2 - (intOf i).toNat)
  case atStart => exact ⟨0, 0, 0, 0, hC, hB, hU, by decide, by decide, by decide, by decide, .inl ⟨rfl, rfl, rfl, rfl, rfl⟩⟩
  case round =>
    clear hB hC hU
    obtain ⟨a, b, c, d, hC, hB, hU, ra, rb, rc, rd, hcase⟩ := hrel
    have n0 := hB.cell 0
    have n1 := hB.cell 1
    simp at n0 n1
    rcases hcase with ⟨rfl, rfl, rfl, rfl, rfl⟩ | ⟨rfl, rfl, hval⟩ | ⟨rfl, hval⟩
    · clear ra rb rc rd
      go_wp2_with fail
      go_loopw [7, 27] (fun o i wi => ∃ a b x : Int, Row wi (w.heap.size + 1 + 1) 82 #[.int .u64 a, .int .u64 b, .int .u64 0, .int .u64 0] ∧ Row wi (w.heap.size + 1) 79 #[.int .u64 nh, .int .u64 nl] ∧ Up w.heap.size w wi ∧ o = .int .u64 x ∧
        (0 ≤ a ∧ a < 18446744073709551616) ∧ (0 ≤ b ∧ b < 18446744073709551616) ∧ (0 ≤ x ∧ x < 18446744073709551616) ∧
        ((i = .int .i64 0 ∧ a = 0 ∧ b = 0 ∧ x = 0) ∨ (i = .int .i64 1 ∧ b = 0 ∧ a + x * 18446744073709551616 = P00) ∨ (i = .int .i64 2 ∧ a + b * 18446744073709551616 + x * 340282366920938463463374607431768211456 = P00 + P01 * 18446744073709551616))) (fun _ i _ => 2 - (intOf i).toNat)
      case atStart => exact ⟨0, 0, 0, hC, hB, hU, rfl, by decide, by decide, by decide, .inl ⟨rfl, rfl, rfl, rfl⟩⟩
      case round =>
        clear hB hC hU n0 n1
        obtain ⟨a, b, x, hC, hB, hU, rfl, ra, rb, rx, hcase⟩ := hrel
        rcases hcase with ⟨rfl, rfl, rfl, rfl⟩ | ⟨rfl, rfl, hval⟩ | ⟨rfl, hval⟩
        · obtain ⟨th, tl, s1, c1, s2, c2, g1, o2, e1, e2, e3, e4, e5, e6, e7, e8, hv, r2, ro, htl, hs1⟩ := mul_add P00 0 0 B00.out (show (0 : Int) ≤ 0 ∧ (0 : Int) < 18446744073709551616 by decide) (show (0 : Int) ≤ 0 ∧ (0 : Int) < 18446744073709551616 by decide)
          have M := HM00.out
          rw [e1, e2] at M
          have A1 := fun w => add64 tl 0 0 htl (show (0 : Int) ≤ 0 ∧ (0 : Int) < 18446744073709551616 by decide).1 (Int.le_refl 0) (by decide) w
          have A2 := fun w => add64 0 s1 0 (show (0 : Int) ≤ 0 ∧ (0 : Int) < 18446744073709551616 by decide).1 hs1 (Int.le_refl 0) (by decide) w
          rw [Int.add_zero, e3, e4] at A1
          rw [Int.add_zero, e5, e6] at A2
          have HV := hid hv
          have q0 := hC.cell 0
          have q1 := hC.frozen 0
          simp at q0 q1
          clear e1 e2 e3 e4 e5 e6 hv htl hs1
          have R2 := hid r2
          have RO := hid ro
          have HC2 := hC.set 0 (.int .u64 s2)
          have HB2 := hB.far (p := ⟨w.heap.size + 1 + 1, 0, none⟩) (by simp) (.int .u64 s2)
          have HU2 := hU.setCell (p := w.heap.size + 1 + 1) (i := 0) (by omega) (.int .u64 s2)
          simp at HC2
          clear ra rb rx
          clear r2 ro
          go_wp2_with (go_at_call 51; refine Calls.mono (M _) ?_; rintro e w' ⟨rfl, rfl⟩)
          have hv := HV.out
          have r2 := R2.out
          have ro := RO.out
          go_roundw
          case rel => exact ⟨s2, 0, o2, HC2, HB2, HU2, rfl, r2, by decide, ro, .inr (.inl ⟨rfl, rfl, by omega⟩)⟩
          case measure => simp [intOf]
        · obtain ⟨th, tl, s1, c1, s2, c2, g1, o2, e1, e2, e3, e4, e5, e6, e7, e8, hv, r2, ro, htl, hs1⟩ := mul_add P01 x 0 B01.out rx (show (0 : Int) ≤ 0 ∧ (0 : Int) < 18446744073709551616 by decide)
          have M := HM01.out
          rw [e1, e2] at M
          have A1 := fun w => add64 tl x 0 htl rx.1 (Int.le_refl 0) (by decide) w
          have A2 := fun w => add64 0 s1 0 (show (0 : Int) ≤ 0 ∧ (0 : Int) < 18446744073709551616 by decide).1 hs1 (Int.le_refl 0) (by decide) w
          rw [Int.add_zero, e3, e4] at A1
          rw [Int.add_zero, e5, e6] at A2
          have HV := hid hv
          have q0 := hC.cell 1
          have q1 := hC.frozen 1
          simp at q0 q1
          clear e1 e2 e3 e4 e5 e6 hv htl hs1
          have R2 := hid r2
          have RO := hid ro
          have HC2 := hC.set 1 (.int .u64 s2)
          have HB2 := hB.far (p := ⟨w.heap.size + 1 + 1, 1, none⟩) (by simp) (.int .u64 s2)
          have HU2 := hU.setCell (p := w.heap.size + 1 + 1) (i := 1) (by omega) (.int .u64 s2)
          simp at HC2
          have RA := hid ra
          have HVAL := hid hval
          clear ra rb rx hval
          clear r2 ro
          go_wp2_with (go_at_call 51; refine Calls.mono (M _) ?_; rintro e w' ⟨rfl, rfl⟩)
          have hv := HV.out
          have r2 := R2.out
          have ro := RO.out
          go_roundw
          case rel => exact ⟨a, s2, o2, HC2, HB2, HU2, rfl, RA.out, r2, ro, .inr (.inr ⟨rfl, by have := HVAL.out; omega⟩)⟩
          case measure => simp [intOf]
        · have q0 := hC.cell 2
          have q1 := hC.frozen 2
          simp at q0 q1
          have HC2 := hC.set 2 (.int .u64 x)
          have HB2 := hB.far (p := ⟨w.heap.size + 1 + 1, 2, none⟩) (by simp) (.int .u64 x)
          have HU2 := hU.setCell (p := w.heap.size + 1 + 1) (i := 2) (by omega) (.int .u64 x)
          simp at HC2
          have HVAL := hid hval
          have RA := hid ra
          have RB := hid rb
          have RX := hid rx
          clear hval ra rb rx
          go_wp2_with fail
          go_roundw
          case rel => exact ⟨a, b, x, 0, HC2, HB2, HU2, RA.out, RB.out, RX.out, by decide, .inr (.inl ⟨rfl, rfl, by have := HVAL.out; omega⟩)⟩
          case measure => simp [intOf]
    · have RA := hid ra
      have RB0 := hid rb
      have RC0 := hid rc
      have HVAL := hid hval
      clear ra rb rc rd hval
      go_wp2_with fail
      go_loopw [7, 27] (fun o i wi => ∃ b' c' x : Int, Row wi (w.heap.size + 1 + 1) 82 #[.int .u64 a, .int .u64 b', .int .u64 c', .int .u64 0] ∧ Row wi (w.heap.size + 1) 79 #[.int .u64 nh, .int .u64 nl] ∧ Up w.heap.size w wi ∧ o = .int .u64 x ∧
        (0 ≤ b' ∧ b' < 18446744073709551616) ∧ (0 ≤ c' ∧ c' < 18446744073709551616) ∧ (0 ≤ x ∧ x < 18446744073709551616) ∧
        ((i = .int .i64 0 ∧ b' = b ∧ c' = c ∧ x = 0) ∨ (i = .int .i64 1 ∧ c' = c ∧ b' + x * 18446744073709551616 = b + P10) ∨ (i = .int .i64 2 ∧ b' + c' * 18446744073709551616 + x * 340282366920938463463374607431768211456 = b + c * 18446744073709551616 + P10 + P11 * 18446744073709551616))) (fun _ i _ => 2 - (intOf i).toNat)
      case atStart => exact ⟨b, c, 0, hC, hB, hU, rfl, RB0.out, RC0.out, by decide, .inl ⟨rfl, rfl, rfl, rfl⟩⟩
      case round =>
        clear hB hC hU n0 n1
        obtain ⟨b', c', x, hC, hB, hU, rfl, rb, rc, rx, hcase⟩ := hrel
        rcases hcase with ⟨rfl, rfl, rfl, rfl⟩ | ⟨rfl, rfl, hval⟩ | ⟨rfl, hval⟩
        · obtain ⟨th, tl, s1, c1, s2, c2, g1, o2, e1, e2, e3, e4, e5, e6, e7, e8, hv, r2, ro, htl, hs1⟩ := mul_add P10 0 b' B10.out (show (0 : Int) ≤ 0 ∧ (0 : Int) < 18446744073709551616 by decide) rb
          have M := HM10.out
          rw [e1, e2] at M
          have A1 := fun w => add64 tl 0 0 htl (show (0 : Int) ≤ 0 ∧ (0 : Int) < 18446744073709551616 by decide).1 (Int.le_refl 0) (by decide) w
          have A2 := fun w => add64 b' s1 0 rb.1 hs1 (Int.le_refl 0) (by decide) w
          rw [Int.add_zero, e3, e4] at A1
          rw [Int.add_zero, e5, e6] at A2
          have HV := hid hv
          have q0 := hC.cell 1
          have q1 := hC.frozen 1
          simp at q0 q1
          clear e1 e2 e3 e4 e5 e6 hv htl hs1
          have R2 := hid r2
          have RO := hid ro
          have HC2 := hC.set 1 (.int .u64 s2)
          have HB2 := hB.far (p := ⟨w.heap.size + 1 + 1, 1, none⟩) (by simp) (.int .u64 s2)
          have HU2 := hU.setCell (p := w.heap.size + 1 + 1) (i := 1) (by omega) (.int .u64 s2)
          simp at HC2
          have RC := hid rc
          clear rb rc rx
          clear r2 ro
          go_wp2_with (go_at_call 51; refine Calls.mono (M _) ?_; rintro e w' ⟨rfl, rfl⟩)
          have hv := HV.out
          have r2 := R2.out
          have ro := RO.out
          go_roundw
          case rel => exact ⟨s2, c', o2, HC2, HB2, HU2, rfl, r2, RC.out, ro, .inr (.inl ⟨rfl, rfl, by omega⟩)⟩
          case measure => simp [intOf]
        · obtain ⟨th, tl, s1, c1, s2, c2, g1, o2, e1, e2, e3, e4, e5, e6, e7, e8, hv, r2, ro, htl, hs1⟩ := mul_add P11 x c' B11.out rx rc
          have M := HM11.out
          rw [e1, e2] at M
          have A1 := fun w => add64 tl x 0 htl rx.1 (Int.le_refl 0) (by decide) w
          have A2 := fun w => add64 c' s1 0 rc.1 hs1 (Int.le_refl 0) (by decide) w
          rw [Int.add_zero, e3, e4] at A1
          rw [Int.add_zero, e5, e6] at A2
          have HV := hid hv
          have q0 := hC.cell 2
          have q1 := hC.frozen 2
          simp at q0 q1
          clear e1 e2 e3 e4 e5 e6 hv htl hs1
          have R2 := hid r2
          have RO := hid ro
          have HC2 := hC.set 2 (.int .u64 s2)
          have HB2 := hB.far (p := ⟨w.heap.size + 1 + 1, 2, none⟩) (by simp) (.int .u64 s2)
          have HU2 := hU.setCell (p := w.heap.size + 1 + 1) (i := 2) (by omega) (.int .u64 s2)
          simp at HC2
          have RB := hid rb
          have HV2 := hid hval
          clear rb rc rx hval
          clear r2 ro
          go_wp2_with (go_at_call 51; refine Calls.mono (M _) ?_; rintro e w' ⟨rfl, rfl⟩)
          have hv := HV.out
          have r2 := R2.out
          have ro := RO.out
          go_roundw
          case rel => exact ⟨b', s2, o2, HC2, HB2, HU2, rfl, RB.out, r2, ro, .inr (.inr ⟨rfl, by have := HV2.out; omega⟩)⟩
          case measure => simp [intOf]
        · have q0 := hC.cell 3
          have q1 := hC.frozen 3
          simp at q0 q1
          have HC2 := hC.set 3 (.int .u64 x)
          have HB2 := hB.far (p := ⟨w.heap.size + 1 + 1, 3, none⟩) (by simp) (.int .u64 x)
          have HU2 := hU.setCell (p := w.heap.size + 1 + 1) (i := 3) (by omega) (.int .u64 x)
          simp at HC2
          have HV2 := hid hval
          have RB := hid rb
          have RC := hid rc
          have RX := hid rx
          clear hval rb rc rx
          go_wp2_with fail
          go_roundw
          case rel => exact ⟨a, b', c', x, HC2, HB2, HU2, RA.out, RB.out, RC.out, RX.out, .inr (.inr ⟨rfl, by have := HVAL.out; have := HV2.out; omega⟩)⟩
          case measure => simp [intOf]
    · have q0 := hC.cell 0
      have q1 := hC.cell 1
      have q2 := hC.cell 2
      have q3 := hC.cell 3
      have f0 := hC.frozen 0
      have f1 := hC.frozen 1
      have f2 := hC.frozen 2
      have f3 := hC.frozen 3
      have S0 := hC.set 0 (.int .u64 a)
      have S1 := S0.set 1 (.int .u64 b)
      have S2 := S1.set 2 (.int .u64 c)
      have S3 := S2.set 3 (.int .u64 d)
      have d0 := S0.cell 0
      have d1 := S1.cell 1
      have d2 := S2.cell 2
      have d3 := S3.cell 3
      have g0 := S3.cell 0
      have g1 := S3.cell 1
      have g2 := S3.cell 2
      simp at q0 q1 q2 q3 f0 f1 f2 f3 d0 d1 d2 d3 g0 g1 g2
      clear S0 S1 S2 S3
      have HVAL := hid hval
      have RA := hid ra
      have RB := hid rb
      have RC := hid rc
      have RD := hid rd
      clear hval ra rb rc rd
      go_wp2_with fail
      have HU2 := (((hU.setCell (p := w.heap.size + 1 + 1) (i := 0) (by omega) (.int .u64 a)).setCell (p := w.heap.size + 1 + 1) (i := 1) (by omega) (.int .u64 b)).setCell (p := w.heap.size + 1 + 1) (i := 2) (by omega) (.int .u64 c)).setCell (p := w.heap.size + 1 + 1) (i := 3) (by omega) (.int .u64 d)
      simp [bodyPost, results, Tryd.results76, go_sem, d0, d1, d2, d3, g0, g1, g2]
      exact ⟨a, b, c, d, ⟨rfl, rfl, rfl, rfl⟩, RA.out, RB.out, RC.out, RD.out, HVAL.out, HU2.below⟩
end Go.Proofs.YtmamedobphlpkaaDoor

namespace Go.Proofs.YtmamedobphlpkaaDoor
open Go.RowKit

/-- what four words say -/
def P4 (a b c d : Int) : Int := a + b * 18446744073709551616 + c * 340282366920938463463374607431768211456 + d * 6277101735386680763835789423207666416102355444464034512896
def Word (a : Int) : Prop := 0 ≤ a ∧ a < 18446744073709551616

theorem expand (mh ml nh nl : Int) : ml * nl + (ml * nh + mh * nl) * 18446744073709551616 + mh * nh * 340282366920938463463374607431768211456 = (mh * 18446744073709551616 + ml) * (nh * 18446744073709551616 + nl) := by
  have e1 : mh * 18446744073709551616 * (nh * 18446744073709551616) = mh * nh * 340282366920938463463374607431768211456 := by
    rw [Int.mul_assoc, ← Int.mul_assoc 18446744073709551616, Int.mul_comm 18446744073709551616 nh, Int.mul_assoc nh, ← Int.mul_assoc]; rfl
  have e2 : mh * 18446744073709551616 * nl = mh * nl * 18446744073709551616 := by rw [Int.mul_assoc, Int.mul_comm 18446744073709551616, ← Int.mul_assoc]
  have e3 : ml * (nh * 18446744073709551616) = ml * nh * 18446744073709551616 := by rw [← Int.mul_assoc]
  have e4 : (mh * 18446744073709551616 + ml) * (nh * 18446744073709551616 + nl) = mh * 18446744073709551616 * (nh * 18446744073709551616) + ml * (nh * 18446744073709551616) + (mh * 18446744073709551616 * nl + ml * nl) := by
    rw [Int.mul_add, Int.add_mul, Int.add_mul]
  rw [e4, e1, e2, e3]
  omega
theorem times_any (w : World) (m n : Int) (hm : Big m) (hn : Big n) : Calls Tryd.prog 76 #[UV m, UV n] w fun e w' =>
    ∃ a b c d : Int, e = .returned (.agg #[.int .u64 a, .int .u64 b, .int .u64 c, .int .u64 d]) ∧ Word a ∧ Word b ∧ Word c ∧ Word d ∧ P4 a b c d = m * n ∧ Below w.heap.size w w' := by
  obtain ⟨mh, ml, e1, rfl, h1, h2⟩ := UV_of hm
  obtain ⟨nh, nl, e2, rfl, h3, h4⟩ := UV_of hn
  rw [e1, e2]
  refine (times_words w mh ml nh nl h1 h2 h3 h4).mono fun e w' ⟨a, b, c, d, he, ha, hb, hc, hd, hv, hbl⟩ => ⟨a, b, c, d, he, ha, hb, hc, hd, ?_, hbl⟩
  unfold P4
  rw [hv, expand]

theorem product_any (w : World) (x y : Int) (hx : Fits x) (hy : Fits y) : Calls Tryd.prog 54 #[WV x, WV y] w fun e w' =>
    ∃ (a b c d : Int) (s : Bool), e = .returned (.tuple #[.agg #[.int .u64 a, .int .u64 b, .int .u64 c, .int .u64 d], .bool s]) ∧ Word a ∧ Word b ∧ Word c ∧ Word d ∧ P4 a b c d = mag x * mag y ∧ s = (decide (x < 0) != decide (y < 0)) ∧ Below w.heap.size w w' := by
  have hS1 := fun w => sized_any w x hx
  have hS2 := fun w => sized_any w y hy
  have hT := fun w => times_any w (mag x) (mag y) (mag_big hx) (mag_big hy)
  obtain ⟨xh, xl, e1, _, _, _⟩ := WV_of hx
  obtain ⟨yh, yl, e2, _, _, _⟩ := WV_of hy
  obtain ⟨mh, ml, e3, _, _, _⟩ := UV_of (mag_big hx)
  obtain ⟨nh, nl, e4, _, _, _⟩ := UV_of (mag_big hy)
  obtain ⟨sx, hsx⟩ : ∃ s, s = decide (x < 0) := ⟨_, rfl⟩
  obtain ⟨sy, hsy⟩ : ∃ s, s = decide (y < 0) := ⟨_, rfl⟩
  rw [e1, e3, ← hsx] at hS1
  rw [e2, e4, ← hsy] at hS2
  rw [e3, e4] at hT
  rw [e1, e2, ← hsx, ← hsy]
  obtain ⟨M, hM⟩ : ∃ M, M = mag x * mag y := ⟨_, rfl⟩
  rw [← hM] at hT ⊢
  have HS1 := hid hS1
  have HS2 := hid hS2
  have HT := hid hT
  clear hS1 hS2 hT e1 e2 e3 e4 hsx hsy hM
  have hBr := (Row.new (w.alloc (.cells #[.int .i64 xh, .int .u64 xl] 24)) 24 #[.int .i64 yh, .int .u64 yl]).alloc (.cells #[.int .u64 0, .int .u64 0, .int .u64 0, .int .u64 0] 82)
  have hCr := Row.new ((w.alloc (.cells #[.int .i64 xh, .int .u64 xl] 24)).alloc (.cells #[.int .i64 yh, .int .u64 yl] 24)) 82 #[.int .u64 0, .int .u64 0, .int .u64 0, .int .u64 0]
  have hU := (((Up.refl w).alloc (.cells #[.int .i64 xh, .int .u64 xl] 24)).alloc (.cells #[.int .i64 yh, .int .u64 yl] 24)).alloc (.cells #[.int .u64 0, .int .u64 0, .int .u64 0, .int .u64 0] 82)
  simp only [alloc_size] at hBr hCr
  go_enter Tryd.func54, Tryd.ntmps54
  go_wp2_with fail
  refine Calls.mono (HS1.out _) ?_; rintro e w4 ⟨rfl, hb4⟩
  have hB4 := hBr.mod (Mod.of_below hb4 Nil) (fun hf => hf)
  have hC4 := hCr.mod (Mod.of_below hb4 Nil) (fun hf => hf)
  have hU4 := hU.trans hb4
  have hB5 := hB4.alloc (.cells #[.int .u64 mh, .int .u64 ml] 79)
  have q0 := hB5.cell 0
  have q1 := hB5.cell 1
  simp at q0 q1
  clear hBr hCr hU hb4 hB5
  go_wp2_with fail
  refine Calls.mono (HS2.out _) ?_; rintro e w6 ⟨rfl, hb6⟩
  have hM6 := (Row.new w4 79 #[.int .u64 mh, .int .u64 ml]).mod (Mod.of_below hb6 Nil) (fun hf => hf)
  have hC6 := (hC4.alloc (.cells #[.int .u64 mh, .int .u64 ml] 79)).mod (Mod.of_below hb6 Nil) (fun hf => hf)
  have hU6 := (hU4.alloc (.cells #[.int .u64 mh, .int .u64 ml] 79)).trans hb6
  have hM7 := hM6.alloc (.cells #[.int .u64 nh, .int .u64 nl] 79)
  have r0 := hM7.cell 0
  have r1 := hM7.cell 1
  simp at r0 r1
  clear hB4 hC4 hU4 hb6 hM6 hM7 q0 q1
  go_wp2_with fail
  refine Calls.mono (HT.out _) ?_; rintro e w8 ⟨a, b, c, d, rfl, ha, hb, hc, hd, hv, hb8⟩
  have hC8 := (hC6.alloc (.cells #[.int .u64 nh, .int .u64 nl] 79)).mod (Mod.of_below hb8 Nil) (fun hf => hf)
  have hU8 := (hU6.alloc (.cells #[.int .u64 nh, .int .u64 nl] 79)).trans hb8
  have c0 := hC8.cell 0
  have c1 := hC8.cell 1
  have c2 := hC8.cell 2
  have c3 := hC8.cell 3
  have f0 := hC8.frozen 0
  have f1 := hC8.frozen 1
  have f2 := hC8.frozen 2
  have f3 := hC8.frozen 3
  have S0 := hC8.set 0 (.int .u64 a)
  have S1 := S0.set 1 (.int .u64 b)
  have S2 := S1.set 2 (.int .u64 c)
  have S3 := S2.set 3 (.int .u64 d)
  have d0 := S0.cell 0
  have d1 := S1.cell 1
  have d2 := S2.cell 2
  have d3 := S3.cell 3
  have g0 := S3.cell 0
  have g1 := S3.cell 1
  have g2 := S3.cell 2
  simp at c0 c1 c2 c3 f0 f1 f2 f3 d0 d1 d2 d3 g0 g1 g2
  have HU9 := (((hU8.setCell (p := w.heap.size + 1 + 1) (i := 0) (by omega) (.int .u64 a)).setCell (p := w.heap.size + 1 + 1) (i := 1) (by omega) (.int .u64 b)).setCell (p := w.heap.size + 1 + 1) (i := 2) (by omega) (.int .u64 c)).setCell (p := w.heap.size + 1 + 1) (i := 3) (by omega) (.int .u64 d)
  have HV := hid hv
  have HA := hid ha
  have HB := hid hb
  have HCC := hid hc
  have HD := hid hd
  clear S0 S1 S2 S3 hC6 hU6 hb8 hC8 hU8 r0 r1 hv ha hb hc hd
  go_wp2_with fail
  simp [bodyPost, results, Tryd.results54, go_sem, d0, d1, d2, d3, g0, g1, g2]
  by_cases hss : sx = sy
  · exact ⟨a, b, c, d, .inl ⟨⟨⟨rfl, rfl, rfl, rfl⟩, hss⟩, HA.out, HB.out, HCC.out, HD.out, HV.out, hss, HU9.below⟩⟩
  · exact ⟨a, b, c, d, .inr ⟨⟨⟨rfl, rfl, rfl, rfl⟩, hss⟩, HA.out, HB.out, HCC.out, HD.out, HV.out, hss, HU9.below⟩⟩

theorem wsigned_any (w : World) (a b c d : Int) (minus : Bool) (ha : Word a) (hb : Word b) (hc : Word c) (hd : Word d) :
    Calls Tryd.prog 55 #[.agg #[.int .u64 a, .int .u64 b, .int .u64 c, .int .u64 d], .bool minus] w fun e w' =>
      e = .returned (resV (if minus then -(P4 a b c d) else P4 a b c d)) ∧ Below w.heap.size w w' := by
  have ho := or_pos c d hc.1 hc.2 hd.1 hd.2
  by_cases hz : 0 < bits .or .u64 c d
  · have hnf : ¬ Fits (if minus then -(P4 a b c d) else P4 a b c d) := by
      have := ho.1 hz
      unfold Word at ha hb hc hd
      unfold Fits P4
      cases minus <;> simp <;> omega
    rw [resV_over hnf]
    clear ho hnf ha hb hc hd
    have hw0 : WV 0 = .agg #[.int .i64 0, .int .u64 0] := rfl
    rw [hw0]
    clear hw0
    go_enter Tryd.func55, Tryd.ntmps55
    go_wp2_with fail
    simp [bodyPost, results, Tryd.results55, go_sem]
    exact (((Up.refl w).alloc _).alloc _).below
  · have hz' : c = 0 ∧ d = 0 := by
      by_cases h : c = 0 ∧ d = 0
      · exact h
      · exact absurd (ho.2 h) hz
    obtain ⟨rfl, rfl⟩ := hz'
    have hC := fun w => signed_words w b a minus hb ha
    rw [show b * 18446744073709551616 + a = P4 a b 0 0 by unfold P4; omega] at hC
    obtain ⟨ra, rb, k, hr⟩ := resV_form (if minus then -(P4 a b 0 0) else P4 a b 0 0)
    rw [hr] at hC ⊢
    have HC := hid hC
    clear hC hr ho ha hb hc hd
    go_enter Tryd.func55, Tryd.ntmps55
    go_wp2_with fail
    refine Calls.mono (HC.out _) ?_; rintro e w' ⟨rfl, hb⟩
    have hR := (Row.new (w.alloc (.cells #[.int .u64 a, .int .u64 b, .int .u64 0, .int .u64 0] 82)) 24 #[.int .i64 0, .int .u64 0]).mod (Mod.of_below hb Nil) (fun hf => hf)
    have c0 := hR.cell 0
    have c1 := hR.cell 1
    have f0 := hR.frozen 0
    have f1 := hR.frozen 1
    obtain ⟨d0, d1, _⟩ := hR.two (.int .i64 ra) (.int .u64 rb)
    simp at c0 c1 f0 f1 d0 d1
    go_wp2_with fail
    simp [bodyPost, results, Tryd.results55, go_sem, d0, d1]
    exact ((((((Up.refl w).alloc _).alloc _).trans hb).setCell (by simp) _).setCell (by simp) _).below

theorem mag_mul (x y : Int) : (if (decide (x < 0) != decide (y < 0)) = true then -(mag x * mag y) else mag x * mag y) = x * y := by
  rcases mag_cases x with ⟨h1, e1⟩ | ⟨h1, e1⟩ <;> rcases mag_cases y with ⟨h2, e2⟩ | ⟨h2, e2⟩
  · rw [e1, e2, decide_eq_true h1, decide_eq_true h2]; simp [Int.neg_mul, Int.mul_neg]
  · rw [e1, e2, decide_eq_true h1, decide_eq_false (by omega)]; simp [Int.neg_mul]
  · rw [e1, e2, decide_eq_true h2, decide_eq_false (by omega)]; simp [Int.mul_neg]
  · rw [e1, e2, decide_eq_false (by omega), decide_eq_false (by omega)]; simp

theorem mul_any (w : World) (x y : Int) (hx : Fits x) (hy : Fits y) : Calls Tryd.prog 28 #[WV x, WV y] w fun e w' => e = .returned (resV (x * y)) ∧ Below w.heap.size w w' := by
  have hP := fun w => product_any w x y hx hy
  have hS := fun w a b c d s ha hb hc hd => wsigned_any w a b c d s ha hb hc hd
  have hmm := mag_mul x y
  obtain ⟨xh, xl, e1, _, _, _⟩ := WV_of hx
  obtain ⟨yh, yl, e2, _, _, _⟩ := WV_of hy
  obtain ⟨ra, rb, k, hr⟩ := resV_form (x * y)
  have hS2 : ∀ (w : World) (a b c d : Int) (s : Bool), Word a → Word b → Word c → Word d → P4 a b c d = mag x * mag y → s = (decide (x < 0) != decide (y < 0)) →
      Calls Tryd.prog 55 #[.agg #[.int .u64 a, .int .u64 b, .int .u64 c, .int .u64 d], .bool s] w fun e w' => e = .returned (.tuple #[.agg #[.int .i64 ra, .int .u64 rb], .int .i64 k]) ∧ Below w.heap.size w w' := by
    intro w a b c d s ha hb hc hd hv hs
    have := wsigned_any w a b c d s ha hb hc hd
    rw [hv, hs, hmm, hr] at this
    rw [hs]
    exact this
  rw [e1, e2] at hP
  rw [e1, e2, hr]
  have HP := hid hP
  have HS := hid hS2
  clear hP hS hS2 hmm e1 e2 hr
  have hR := (Row.new ((w.alloc (.cells #[.int .i64 xh, .int .u64 xl] 24)).alloc (.cells #[.int .i64 yh, .int .u64 yl] 24)) 24 #[.int .i64 0, .int .u64 0])
  have hU := (((Up.refl w).alloc (.cells #[.int .i64 xh, .int .u64 xl] 24)).alloc (.cells #[.int .i64 yh, .int .u64 yl] 24)).alloc (.cells #[.int .i64 0, .int .u64 0] 24)
  simp only [alloc_size] at hR
  go_enter Tryd.func28, Tryd.ntmps28
  go_wp2_with fail
  refine Calls.mono (HP.out _) ?_; rintro e w4 ⟨a, b, c, d, s, rfl, ha, hb, hc, hd, hv, hs, hb4⟩
  have hR4 := hR.mod (Mod.of_below hb4 Nil) (fun hf => hf)
  have hU4 := hU.trans hb4
  have HSS := hid (fun w => HS.out w a b c d s ha hb hc hd hv hs)
  clear hR hU hb4 ha hb hc hd hv hs HP HS
  go_wp2_with fail
  refine Calls.mono (HSS.out _) ?_; rintro e w8 ⟨rfl, hb8⟩
  have hR8 := (hR4.alloc (.cells #[.int .u64 a, .int .u64 b, .int .u64 c, .int .u64 d] 82)).mod (Mod.of_below hb8 Nil) (fun hf => hf)
  have hU8 := (hU4.alloc (.cells #[.int .u64 a, .int .u64 b, .int .u64 c, .int .u64 d] 82)).trans hb8
  have c0 := hR8.cell 0
  have c1 := hR8.cell 1
  have f0 := hR8.frozen 0
  have f1 := hR8.frozen 1
  obtain ⟨d0, d1, _⟩ := hR8.two (.int .i64 ra) (.int .u64 rb)
  simp at c0 c1 f0 f1 d0 d1
  clear hR4 hU4 hb8 hR8
  go_wp2_with fail
  simp [bodyPost, results, Tryd.results28, go_sem, d0, d1]
  exact ((hU8.setCell (by omega) _).setCell (by omega) _).below
end Go.Proofs.YtmamedobphlpkaaDoor

namespace Go.Proofs.YtmamedobphlpkaaDoor
open Go.RowKit

theorem setCell_size (w : World) (p : Addr) (v : Value) : (w.setCell p v).heap.size = w.heap.size := by simp [World.setCell]
theorem div64_small (w : World) (x y : Int) (hx : 0 ≤ x ∧ x < 18446744073709551616) (hy : 0 < y ∧ y < 18446744073709551616) :
    Calls Tryd.prog 80 #[.int .u64 0, .int .u64 x, .int .u64 y] w fun e w' => e = .returned (.tuple #[.int .u64 (x / y), .int .u64 (x % y)]) ∧ ∃ n, w' = w.drewN n := by
  have h0 : ¬ y = 0 := by omega
  have h1 : ¬ y ≤ 0 := by omega
  have ht1 : x.tdiv y = x / y := Int.tdiv_eq_ediv_of_nonneg hx.1
  have ht2 : x.tmod y = x % y := Int.tmod_eq_emod_of_nonneg hx.1
  obtain ⟨q, hq⟩ : ∃ q, q = x / y := ⟨_, rfl⟩
  obtain ⟨r, hr⟩ : ∃ r, r = x % y := ⟨_, rfl⟩
  rw [← hq] at ht1
  rw [← hr] at ht2
  rw [← hq, ← hr]
  have hq0 : 0 ≤ q ∧ q < 18446744073709551616 := by
    rw [hq]
    exact ⟨Int.ediv_nonneg hx.1 (by omega), Int.lt_of_le_of_lt (Int.ediv_le_self _ hx.1) hx.2⟩
  have hqw : IntKind.u64.wrap q = q := by rw [IntKind.wrap_u64]; omega
  clear hq hr hx hy hq0
  go_enter Tryd.func80, Tryd.ntmps80
  go_wp2
  go_quiet (fail)
  go_wp2
  go_ret2
  exact ⟨rfl, _, rfl⟩

end Go.Proofs.YtmamedobphlpkaaDoor
