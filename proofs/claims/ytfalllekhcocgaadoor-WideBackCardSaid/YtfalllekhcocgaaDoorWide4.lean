/-
  Comparisons of two words.
-/
import Derived.Test.YtfalllekhcocgaaDoorWide2
namespace Go.Proofs.YtfalllekhcocgaaDoor
open Go.RowKit

set_option maxRecDepth 100000 in
set_option maxHeartbeats 2000000 in
theorem compare_words (w : World) (mh ml nh nl : Int) :
    Calls Tryd.prog 74 #[.agg #[.int .u64 mh, .int .u64 ml], .agg #[.int .u64 nh, .int .u64 nl]] w fun e w' =>
      e = .returned (.int .i64 (if cmp3 mh nh = 0 then cmp3 ml nl else cmp3 mh nh)) ∧ Below w.heap.size w w' := by
  obtain ⟨z, hz⟩ : ∃ z, z = if cmp3 mh nh = 0 then cmp3 ml nl else cmp3 mh nh := ⟨_, rfl⟩
  rw [← hz]
  have HZ := hid hz
  clear hz
  have hA := (Row.new w 54 #[.int .u64 mh, .int .u64 ml]).alloc (.cells #[.int .u64 nh, .int .u64 nl] 54)
  have hB := Row.new (w.alloc (.cells #[.int .u64 mh, .int .u64 ml] 54)) 54 #[.int .u64 nh, .int .u64 nl]
  have hU := ((Up.refl w).alloc (.cells #[.int .u64 mh, .int .u64 ml] 54)).alloc (.cells #[.int .u64 nh, .int .u64 nl] 54)
  simp only [alloc_size] at hB
  obtain ⟨V, hV⟩ : ∃ V, V = (w.alloc (.cells #[.int .u64 mh, .int .u64 ml] 54)).alloc (.cells #[.int .u64 nh, .int .u64 nl] 54) := ⟨_, rfl⟩
  have hVs : V.heap.size = w.heap.size + 2 := by rw [hV]; simp
  rw [← hV] at hA hB hU
  have mk : ∀ W, Up V.heap.size V W → (fun W => Up w.heap.size w W ∧ w.heap.size + 2 ≤ W.heap.size ∧ W.cell? ⟨w.heap.size, 0, none⟩ = some (.int .u64 mh) ∧ W.cell? ⟨w.heap.size, 1, none⟩ = some (.int .u64 ml) ∧ W.cell? ⟨w.heap.size + 1, 0, none⟩ = some (.int .u64 nh) ∧ W.cell? ⟨w.heap.size + 1, 1, none⟩ = some (.int .u64 nl)) W := by
    intro W hW
    have hA1 := hA.below hW.below hA.lt
    have hB1 := hB.below hW.below hB.lt
    exact ⟨hU.trans hW.below, by have := hW.size; omega, by simpa using hA1.cell 0, by simpa using hA1.cell 1, by simpa using hB1.cell 0, by simpa using hB1.cell 1⟩
  have MK := hid mk
  have hR := Row.new V 3 #[.int .i64 (cmp3 mh nh), .int .i64 (cmp3 ml nl)]
  rw [hVs] at hR
  have R0 : ((V.alloc (.cells #[.int .i64 (cmp3 mh nh), .int .i64 (cmp3 ml nl)] 3)).drew).cell? ⟨w.heap.size + 2, 0, none⟩ = some (.int .i64 (cmp3 mh nh)) := hR.cell 0
  have R1 : ((V.alloc (.cells #[.int .i64 (cmp3 mh nh), .int .i64 (cmp3 ml nl)] 3)).drew).cell? ⟨w.heap.size + 2, 1, none⟩ = some (.int .i64 (cmp3 ml nl)) := hR.cell 1
  clear mk hR
  go_enter Tryd.func74, Tryd.ntmps74
  go_wp2_with fail
  rw [← hV]
  clear hV
  refine wp_region_noPanic ?_
  refine wp_region_held_drew (S := (fun W => Up w.heap.size w W ∧ w.heap.size + 2 ≤ W.heap.size ∧ W.cell? ⟨w.heap.size, 0, none⟩ = some (.int .u64 mh) ∧ W.cell? ⟨w.heap.size, 1, none⟩ = some (.int .u64 ml) ∧ W.cell? ⟨w.heap.size + 1, 0, none⟩ = some (.int .u64 nh) ∧ W.cell? ⟨w.heap.size + 1, 1, none⟩ = some (.int .u64 nl))) (by kernel_rfl) (MK.out _ (Up.refl V).drew) (fun hHeld => ?_)
  refine wpAnyH_take (i := 0) (oi := { dst := some 5, op := Op.fieldAddr 54 (Operand.tmp 2) 0, type := 0, pos := "size.go:53", after := #[], guard := none }) (v := ?_) rfl (by kernel_rfl) (by kernel_rfl) (by kernel_rfl) (fun _ _ _ h => h) (Or.inl ⟨by rfl, ?_⟩) hHeld ?_
  rotate_left
  · intro w' hSw; (try dsimp only at hSw); go_simp <;> with_reducible rfl
  try simp only [Act.put, List.setIfInBounds_toArray, List.set_cons_zero, List.set_cons_succ]
  refine wpAnyH_take (i := 1) (oi := { dst := some 6, op := Op.load 22 (Operand.tmp 5), type := 22, pos := "size.go:53", after := #[{ on := 0, ground := Ground.data }], guard := none }) (v := ?_) rfl (by kernel_rfl) (by kernel_rfl) (by kernel_rfl) (fun _ _ _ h => h) (Or.inl ⟨by rfl, ?_⟩) hHeld ?_
  rotate_left
  · intro w' hSw; (try dsimp only at hSw); go_simp <;> with_reducible rfl
  try simp only [Act.put, List.setIfInBounds_toArray, List.set_cons_zero, List.set_cons_succ]
  refine wpAnyH_take (i := 2) (oi := { dst := some 7, op := Op.fieldAddr 54 (Operand.tmp 3) 0, type := 0, pos := "size.go:53", after := #[], guard := none }) (v := ?_) rfl (by kernel_rfl) (by kernel_rfl) (by kernel_rfl) (fun _ _ _ h => h) (Or.inl ⟨by rfl, ?_⟩) hHeld ?_
  rotate_left
  · intro w' hSw; (try dsimp only at hSw); go_simp <;> with_reducible rfl
  try simp only [Act.put, List.setIfInBounds_toArray, List.set_cons_zero, List.set_cons_succ]
  refine wpAnyH_take (i := 3) (oi := { dst := some 8, op := Op.load 22 (Operand.tmp 7), type := 22, pos := "size.go:53", after := #[{ on := 2, ground := Ground.data }], guard := none }) (v := ?_) rfl (by kernel_rfl) (by kernel_rfl) (by kernel_rfl) (fun _ _ _ h => h) (Or.inl ⟨by rfl, ?_⟩) hHeld ?_
  rotate_left
  · intro w' hSw; (try dsimp only at hSw); go_simp <;> with_reducible rfl
  try simp only [Act.put, List.setIfInBounds_toArray, List.set_cons_zero, List.set_cons_succ]
  refine wpAnyH_take (i := 5) (oi := { dst := some 10, op := Op.fieldAddr 54 (Operand.tmp 2) 1, type := 0, pos := "size.go:53", after := #[], guard := none }) (v := ?_) rfl (by kernel_rfl) (by kernel_rfl) (by kernel_rfl) (fun _ _ _ h => h) (Or.inl ⟨by rfl, ?_⟩) hHeld ?_
  rotate_left
  · intro w' hSw; (try dsimp only at hSw); go_simp <;> with_reducible rfl
  try simp only [Act.put, List.setIfInBounds_toArray, List.set_cons_zero, List.set_cons_succ]
  refine wpAnyH_take (i := 6) (oi := { dst := some 11, op := Op.load 22 (Operand.tmp 10), type := 22, pos := "size.go:53", after := #[{ on := 5, ground := Ground.data }], guard := none }) (v := ?_) rfl (by kernel_rfl) (by kernel_rfl) (by kernel_rfl) (fun _ _ _ h => h) (Or.inl ⟨by rfl, ?_⟩) hHeld ?_
  rotate_left
  · intro w' hSw; (try dsimp only at hSw); go_simp <;> with_reducible rfl
  try simp only [Act.put, List.setIfInBounds_toArray, List.set_cons_zero, List.set_cons_succ]
  refine wpAnyH_take (i := 7) (oi := { dst := some 12, op := Op.fieldAddr 54 (Operand.tmp 3) 1, type := 0, pos := "size.go:53", after := #[], guard := none }) (v := ?_) rfl (by kernel_rfl) (by kernel_rfl) (by kernel_rfl) (fun _ _ _ h => h) (Or.inl ⟨by rfl, ?_⟩) hHeld ?_
  rotate_left
  · intro w' hSw; (try dsimp only at hSw); go_simp <;> with_reducible rfl
  try simp only [Act.put, List.setIfInBounds_toArray, List.set_cons_zero, List.set_cons_succ]
  refine wpAnyH_take (i := 8) (oi := { dst := some 13, op := Op.load 22 (Operand.tmp 12), type := 22, pos := "size.go:53", after := #[{ on := 7, ground := Ground.data }], guard := none }) (v := ?_) rfl (by kernel_rfl) (by kernel_rfl) (by kernel_rfl) (fun _ _ _ h => h) (Or.inl ⟨by rfl, ?_⟩) hHeld ?_
  rotate_left
  · intro w' hSw; (try dsimp only at hSw); go_simp <;> with_reducible rfl
  try simp only [Act.put, List.setIfInBounds_toArray, List.set_cons_zero, List.set_cons_succ]
  refine wpAnyH_ready (rs := [4]) (by kernel_rfl) (by simp) ?_
  refine AllReadyH.cons (o := { dst := some 9, op := Op.call { callee := Callee.value (Operand.func 61), args := #[Operand.tmp 6, Operand.tmp 8], argTypes := #[22, 22] }, type := 3, pos := "size.go:53", after := #[{ on := 1, ground := Ground.data }, { on := 3, ground := Ground.data }], guard := none }) rfl (fun K hK => ?_) AllReadyH.nil
  go_simp
  refine (compareU _ _ _).mono ?_; rintro e wk ⟨rfl, rfl⟩
  refine hK.out _ _ (hHeld) (fun hHeld => ?_)
  clear hK K
  try simp only [Act.put, List.setIfInBounds_toArray, List.set_cons_zero, List.set_cons_succ]
  refine wpAnyH_ready (rs := [9]) (by kernel_rfl) (by simp) ?_
  refine AllReadyH.cons (o := { dst := some 14, op := Op.call { callee := Callee.value (Operand.func 61), args := #[Operand.tmp 11, Operand.tmp 13], argTypes := #[22, 22] }, type := 3, pos := "size.go:53", after := #[{ on := 6, ground := Ground.data }, { on := 8, ground := Ground.data }, { on := 4, ground := Ground.chain }], guard := none }) rfl (fun K hK => ?_) AllReadyH.nil
  go_simp
  refine (compareU _ _ _).mono ?_; rintro e wk ⟨rfl, rfl⟩
  refine hK.out _ _ (hHeld) (fun hHeld => ?_)
  clear hK K
  try simp only [Act.put, List.setIfInBounds_toArray, List.set_cons_zero, List.set_cons_succ]
  refine wpAnyH_ready (rs := [10]) (by kernel_rfl) (by simp) ?_
  refine AllReadyH.cons (o := { dst := some 15, op := Op.buildSlice 117 2 #[(0, Operand.tmp 9), (1, Operand.tmp 14)], type := 117, pos := "size.go:53", after := #[{ on := 4, ground := Ground.data }, { on := 9, ground := Ground.data }], guard := none }) rfl (fun K hK => ?_) AllReadyH.nil
  go_simp
  refine hK.out _ _ (MK.out _ ((Up.refl V).alloc _).drew) (fun hHeld => ?_)
  clear hK K
  try simp only [Act.put, List.setIfInBounds_toArray, List.set_cons_zero, List.set_cons_succ]
  refine wpAnyH_ready (rs := [11]) (by kernel_rfl) (by simp) ?_
  refine AllReadyH.cons (o := { dst := some 16, op := Op.call { callee := Callee.value (Operand.func 59), args := #[Operand.tmp 15], argTypes := #[117] }, type := 3, pos := "size.go:53", after := #[{ on := 10, ground := Ground.data }, { on := 9, ground := Ground.chain }], guard := none }) rfl (fun K hK => ?_) AllReadyH.nil
  go_simp
  refine (or_any _ (w.heap.size + 2) _ _ R0 R1).mono ?_; rintro e wk ⟨rfl, hbk⟩; rw [← HZ.out]
  refine hK.out _ _ (MK.out _ ((((Up.refl V).alloc _).drew).trans hbk)) (fun hHeld => ?_)
  clear hK K
  try simp only [Act.put, List.setIfInBounds_toArray, List.set_cons_zero, List.set_cons_succ]
  refine wpAnyH_take (i := 12) (oi := { dst := some 4, op := Op.assign (Operand.tmp 16), type := 3, pos := "size.go:53", after := #[{ on := 11, ground := Ground.data }, { on := 11, ground := Ground.chain }, { on := 0, ground := Ground.phase }, { on := 1, ground := Ground.phase }, { on := 2, ground := Ground.phase }, { on := 3, ground := Ground.phase }, { on := 4, ground := Ground.phase }, { on := 5, ground := Ground.phase }, { on := 6, ground := Ground.phase }, { on := 7, ground := Ground.phase }, { on := 8, ground := Ground.phase }, { on := 9, ground := Ground.phase }, { on := 10, ground := Ground.phase }, { on := 11, ground := Ground.phase }], guard := none }) (v := ?_) rfl (by kernel_rfl) (by kernel_rfl) (by kernel_rfl) (fun _ _ _ h => h) (Or.inl ⟨by rfl, ?_⟩) hHeld ?_
  rotate_left
  · intro w' hSw; (try dsimp only at hSw); go_simp <;> with_reducible rfl
  try simp only [Act.put, List.setIfInBounds_toArray, List.set_cons_zero, List.set_cons_succ]
  refine wpAnyH_done (by kernel_rfl) ?_ _
  refine NoPanic.normal ?_
  go_wp2
  go_ret
  exact ⟨rfl, hHeld.1.below⟩

set_option maxRecDepth 100000 in
set_option maxHeartbeats 2000000 in
theorem cmp_words (w : World) (mh ml nh nl : Int) :
    Calls Tryd.prog 27 #[.agg #[.int .i64 mh, .int .u64 ml], .agg #[.int .i64 nh, .int .u64 nl]] w fun e w' =>
      e = .returned (.int .i64 (if cmp3 mh nh = 0 then cmp3 ml nl else cmp3 mh nh)) ∧ Below w.heap.size w w' := by
  obtain ⟨z, hz⟩ : ∃ z, z = if cmp3 mh nh = 0 then cmp3 ml nl else cmp3 mh nh := ⟨_, rfl⟩
  rw [← hz]
  have HZ := hid hz
  clear hz
  have hA := (Row.new w 24 #[.int .i64 mh, .int .u64 ml]).alloc (.cells #[.int .i64 nh, .int .u64 nl] 24)
  have hB := Row.new (w.alloc (.cells #[.int .i64 mh, .int .u64 ml] 24)) 24 #[.int .i64 nh, .int .u64 nl]
  have hU := ((Up.refl w).alloc (.cells #[.int .i64 mh, .int .u64 ml] 24)).alloc (.cells #[.int .i64 nh, .int .u64 nl] 24)
  simp only [alloc_size] at hB
  obtain ⟨V, hV⟩ : ∃ V, V = (w.alloc (.cells #[.int .i64 mh, .int .u64 ml] 24)).alloc (.cells #[.int .i64 nh, .int .u64 nl] 24) := ⟨_, rfl⟩
  have hVs : V.heap.size = w.heap.size + 2 := by rw [hV]; simp
  rw [← hV] at hA hB hU
  have mk : ∀ W, Up V.heap.size V W → (fun W => Up w.heap.size w W ∧ w.heap.size + 2 ≤ W.heap.size ∧ W.cell? ⟨w.heap.size, 0, none⟩ = some (.int .i64 mh) ∧ W.cell? ⟨w.heap.size, 1, none⟩ = some (.int .u64 ml) ∧ W.cell? ⟨w.heap.size + 1, 0, none⟩ = some (.int .i64 nh) ∧ W.cell? ⟨w.heap.size + 1, 1, none⟩ = some (.int .u64 nl)) W := by
    intro W hW
    have hA1 := hA.below hW.below hA.lt
    have hB1 := hB.below hW.below hB.lt
    exact ⟨hU.trans hW.below, by have := hW.size; omega, by simpa using hA1.cell 0, by simpa using hA1.cell 1, by simpa using hB1.cell 0, by simpa using hB1.cell 1⟩
  have MK := hid mk
  have hR := Row.new V 3 #[.int .i64 (cmp3 mh nh), .int .i64 (cmp3 ml nl)]
  rw [hVs] at hR
  have R0 : ((V.alloc (.cells #[.int .i64 (cmp3 mh nh), .int .i64 (cmp3 ml nl)] 3)).drew).cell? ⟨w.heap.size + 2, 0, none⟩ = some (.int .i64 (cmp3 mh nh)) := hR.cell 0
  have R1 : ((V.alloc (.cells #[.int .i64 (cmp3 mh nh), .int .i64 (cmp3 ml nl)] 3)).drew).cell? ⟨w.heap.size + 2, 1, none⟩ = some (.int .i64 (cmp3 ml nl)) := hR.cell 1
  clear mk hR
  go_enter Tryd.func27, Tryd.ntmps27
  go_wp2_with fail
  rw [← hV]
  clear hV
  refine wp_region_noPanic ?_
  refine wp_region_held_drew (S := (fun W => Up w.heap.size w W ∧ w.heap.size + 2 ≤ W.heap.size ∧ W.cell? ⟨w.heap.size, 0, none⟩ = some (.int .i64 mh) ∧ W.cell? ⟨w.heap.size, 1, none⟩ = some (.int .u64 ml) ∧ W.cell? ⟨w.heap.size + 1, 0, none⟩ = some (.int .i64 nh) ∧ W.cell? ⟨w.heap.size + 1, 1, none⟩ = some (.int .u64 nl))) (by kernel_rfl) (MK.out _ (Up.refl V).drew) (fun hHeld => ?_)
  refine wpAnyH_take (i := 0) (oi := { dst := some 5, op := Op.fieldAddr 24 (Operand.tmp 2) 0, type := 0, pos := "wide.go:24", after := #[], guard := none }) (v := ?_) rfl (by kernel_rfl) (by kernel_rfl) (by kernel_rfl) (fun _ _ _ h => h) (Or.inl ⟨by rfl, ?_⟩) hHeld ?_
  rotate_left
  · intro w' hSw; (try dsimp only at hSw); go_simp <;> with_reducible rfl
  try simp only [Act.put, List.setIfInBounds_toArray, List.set_cons_zero, List.set_cons_succ]
  refine wpAnyH_take (i := 1) (oi := { dst := some 6, op := Op.load 2 (Operand.tmp 5), type := 2, pos := "wide.go:24", after := #[{ on := 0, ground := Ground.data }], guard := none }) (v := ?_) rfl (by kernel_rfl) (by kernel_rfl) (by kernel_rfl) (fun _ _ _ h => h) (Or.inl ⟨by rfl, ?_⟩) hHeld ?_
  rotate_left
  · intro w' hSw; (try dsimp only at hSw); go_simp <;> with_reducible rfl
  try simp only [Act.put, List.setIfInBounds_toArray, List.set_cons_zero, List.set_cons_succ]
  refine wpAnyH_take (i := 2) (oi := { dst := some 7, op := Op.fieldAddr 24 (Operand.tmp 3) 0, type := 0, pos := "wide.go:24", after := #[], guard := none }) (v := ?_) rfl (by kernel_rfl) (by kernel_rfl) (by kernel_rfl) (fun _ _ _ h => h) (Or.inl ⟨by rfl, ?_⟩) hHeld ?_
  rotate_left
  · intro w' hSw; (try dsimp only at hSw); go_simp <;> with_reducible rfl
  try simp only [Act.put, List.setIfInBounds_toArray, List.set_cons_zero, List.set_cons_succ]
  refine wpAnyH_take (i := 3) (oi := { dst := some 8, op := Op.load 2 (Operand.tmp 7), type := 2, pos := "wide.go:24", after := #[{ on := 2, ground := Ground.data }], guard := none }) (v := ?_) rfl (by kernel_rfl) (by kernel_rfl) (by kernel_rfl) (fun _ _ _ h => h) (Or.inl ⟨by rfl, ?_⟩) hHeld ?_
  rotate_left
  · intro w' hSw; (try dsimp only at hSw); go_simp <;> with_reducible rfl
  try simp only [Act.put, List.setIfInBounds_toArray, List.set_cons_zero, List.set_cons_succ]
  refine wpAnyH_take (i := 5) (oi := { dst := some 10, op := Op.fieldAddr 24 (Operand.tmp 2) 1, type := 0, pos := "wide.go:24", after := #[], guard := none }) (v := ?_) rfl (by kernel_rfl) (by kernel_rfl) (by kernel_rfl) (fun _ _ _ h => h) (Or.inl ⟨by rfl, ?_⟩) hHeld ?_
  rotate_left
  · intro w' hSw; (try dsimp only at hSw); go_simp <;> with_reducible rfl
  try simp only [Act.put, List.setIfInBounds_toArray, List.set_cons_zero, List.set_cons_succ]
  refine wpAnyH_take (i := 6) (oi := { dst := some 11, op := Op.load 22 (Operand.tmp 10), type := 22, pos := "wide.go:24", after := #[{ on := 5, ground := Ground.data }], guard := none }) (v := ?_) rfl (by kernel_rfl) (by kernel_rfl) (by kernel_rfl) (fun _ _ _ h => h) (Or.inl ⟨by rfl, ?_⟩) hHeld ?_
  rotate_left
  · intro w' hSw; (try dsimp only at hSw); go_simp <;> with_reducible rfl
  try simp only [Act.put, List.setIfInBounds_toArray, List.set_cons_zero, List.set_cons_succ]
  refine wpAnyH_take (i := 7) (oi := { dst := some 12, op := Op.fieldAddr 24 (Operand.tmp 3) 1, type := 0, pos := "wide.go:24", after := #[], guard := none }) (v := ?_) rfl (by kernel_rfl) (by kernel_rfl) (by kernel_rfl) (fun _ _ _ h => h) (Or.inl ⟨by rfl, ?_⟩) hHeld ?_
  rotate_left
  · intro w' hSw; (try dsimp only at hSw); go_simp <;> with_reducible rfl
  try simp only [Act.put, List.setIfInBounds_toArray, List.set_cons_zero, List.set_cons_succ]
  refine wpAnyH_take (i := 8) (oi := { dst := some 13, op := Op.load 22 (Operand.tmp 12), type := 22, pos := "wide.go:24", after := #[{ on := 7, ground := Ground.data }], guard := none }) (v := ?_) rfl (by kernel_rfl) (by kernel_rfl) (by kernel_rfl) (fun _ _ _ h => h) (Or.inl ⟨by rfl, ?_⟩) hHeld ?_
  rotate_left
  · intro w' hSw; (try dsimp only at hSw); go_simp <;> with_reducible rfl
  try simp only [Act.put, List.setIfInBounds_toArray, List.set_cons_zero, List.set_cons_succ]
  refine wpAnyH_ready (rs := [4]) (by kernel_rfl) (by simp) ?_
  refine AllReadyH.cons (o := { dst := some 9, op := Op.call { callee := Callee.value (Operand.func 60), args := #[Operand.tmp 6, Operand.tmp 8], argTypes := #[2, 2] }, type := 3, pos := "wide.go:24", after := #[{ on := 1, ground := Ground.data }, { on := 3, ground := Ground.data }], guard := none }) rfl (fun K hK => ?_) AllReadyH.nil
  go_simp
  refine (compareI _ _ _).mono ?_; rintro e wk ⟨rfl, rfl⟩
  refine hK.out _ _ (hHeld) (fun hHeld => ?_)
  clear hK K
  try simp only [Act.put, List.setIfInBounds_toArray, List.set_cons_zero, List.set_cons_succ]
  refine wpAnyH_ready (rs := [9]) (by kernel_rfl) (by simp) ?_
  refine AllReadyH.cons (o := { dst := some 14, op := Op.call { callee := Callee.value (Operand.func 61), args := #[Operand.tmp 11, Operand.tmp 13], argTypes := #[22, 22] }, type := 3, pos := "wide.go:24", after := #[{ on := 6, ground := Ground.data }, { on := 8, ground := Ground.data }, { on := 4, ground := Ground.chain }], guard := none }) rfl (fun K hK => ?_) AllReadyH.nil
  go_simp
  refine (compareU _ _ _).mono ?_; rintro e wk ⟨rfl, rfl⟩
  refine hK.out _ _ (hHeld) (fun hHeld => ?_)
  clear hK K
  try simp only [Act.put, List.setIfInBounds_toArray, List.set_cons_zero, List.set_cons_succ]
  refine wpAnyH_ready (rs := [10]) (by kernel_rfl) (by simp) ?_
  refine AllReadyH.cons (o := { dst := some 15, op := Op.buildSlice 117 2 #[(0, Operand.tmp 9), (1, Operand.tmp 14)], type := 117, pos := "wide.go:24", after := #[{ on := 4, ground := Ground.data }, { on := 9, ground := Ground.data }], guard := none }) rfl (fun K hK => ?_) AllReadyH.nil
  go_simp
  refine hK.out _ _ (MK.out _ ((Up.refl V).alloc _).drew) (fun hHeld => ?_)
  clear hK K
  try simp only [Act.put, List.setIfInBounds_toArray, List.set_cons_zero, List.set_cons_succ]
  refine wpAnyH_ready (rs := [11]) (by kernel_rfl) (by simp) ?_
  refine AllReadyH.cons (o := { dst := some 16, op := Op.call { callee := Callee.value (Operand.func 59), args := #[Operand.tmp 15], argTypes := #[117] }, type := 3, pos := "wide.go:24", after := #[{ on := 10, ground := Ground.data }, { on := 9, ground := Ground.chain }], guard := none }) rfl (fun K hK => ?_) AllReadyH.nil
  go_simp
  refine (or_any _ (w.heap.size + 2) _ _ R0 R1).mono ?_; rintro e wk ⟨rfl, hbk⟩; rw [← HZ.out]
  refine hK.out _ _ (MK.out _ ((((Up.refl V).alloc _).drew).trans hbk)) (fun hHeld => ?_)
  clear hK K
  try simp only [Act.put, List.setIfInBounds_toArray, List.set_cons_zero, List.set_cons_succ]
  refine wpAnyH_take (i := 12) (oi := { dst := some 4, op := Op.assign (Operand.tmp 16), type := 3, pos := "wide.go:24", after := #[{ on := 11, ground := Ground.data }, { on := 11, ground := Ground.chain }, { on := 0, ground := Ground.phase }, { on := 1, ground := Ground.phase }, { on := 2, ground := Ground.phase }, { on := 3, ground := Ground.phase }, { on := 4, ground := Ground.phase }, { on := 5, ground := Ground.phase }, { on := 6, ground := Ground.phase }, { on := 7, ground := Ground.phase }, { on := 8, ground := Ground.phase }, { on := 9, ground := Ground.phase }, { on := 10, ground := Ground.phase }, { on := 11, ground := Ground.phase }], guard := none }) (v := ?_) rfl (by kernel_rfl) (by kernel_rfl) (by kernel_rfl) (fun _ _ _ h => h) (Or.inl ⟨by rfl, ?_⟩) hHeld ?_
  rotate_left
  · intro w' hSw; (try dsimp only at hSw); go_simp <;> with_reducible rfl
  try simp only [Act.put, List.setIfInBounds_toArray, List.set_cons_zero, List.set_cons_succ]
  refine wpAnyH_done (by kernel_rfl) ?_ _
  refine NoPanic.normal ?_
  go_wp2
  go_ret
  exact ⟨rfl, hHeld.1.below⟩

theorem cmp3_words {ah al bh bl : Int} (h2 : 0 ≤ al ∧ al < 18446744073709551616) (h4 : 0 ≤ bl ∧ bl < 18446744073709551616) :
    (if cmp3 ah bh = 0 then cmp3 al bl else cmp3 ah bh) = cmp3 (ah * 18446744073709551616 + al) (bh * 18446744073709551616 + bl) := by
  rcases cmp3_cases ah bh with ⟨h, e⟩ | ⟨h, e⟩ | ⟨h, e⟩
  · rw [e, if_neg (by decide), cmp3_lt (by omega)]
  · rw [e, if_neg (by decide), cmp3_gt (by omega)]
  · subst h
    rw [e, if_pos rfl]
    rcases cmp3_cases al bl with ⟨h, e⟩ | ⟨h, e⟩ | ⟨h, e⟩
    · rw [e, cmp3_lt (by omega)]
    · rw [e, cmp3_gt (by omega)]
    · subst h
      rw [e, cmp3_eq]
theorem cmp_any (w : World) (x y : Int) (hx : Fits x) (hy : Fits y) : Calls Tryd.prog 27 #[WV x, WV y] w fun e w' => e = .returned (.int .i64 (cmp3 x y)) ∧ Below w.heap.size w w' := by
  obtain ⟨ah, al, e1, rfl, h1, h2⟩ := WV_of hx
  obtain ⟨bh, bl, e2, rfl, h3, h4⟩ := WV_of hy
  rw [e1, e2]
  have e : (if cmp3 ah bh = 0 then cmp3 al bl else cmp3 ah bh) = cmp3 (ah * 18446744073709551616 + al) (bh * 18446744073709551616 + bl) := cmp3_words h2 h4
  rw [← e]
  exact cmp_words w ah al bh bl

end Go.Proofs.YtfalllekhcocgaaDoor
