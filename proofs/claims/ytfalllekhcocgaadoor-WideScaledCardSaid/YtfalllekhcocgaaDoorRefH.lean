/-
  The reference's numbers with signs: the other way round.
-/
import Derived.Test.YtfalllekhcocgaaDoorRefG
namespace Go.Proofs.YtfalllekhcocgaaDoor
open Go.RowKit

set_option maxRecDepth 100000 in
set_option maxHeartbeats 2000000 in
theorem minus_neg (w : World) (n : Nat) (hn : n < BP 16) : Calls Tryd.prog 58 #[BigV true n] w fun e w' => e = .returned (BigV false n) ∧ Below w.heap.size w w' := by
  have hZ := fun w => rzero_any w n hn
  obtain ⟨z, hz⟩ : ∃ z, z = decide (n = 0) := ⟨_, rfl⟩
  rw [← hz] at hZ
  clear hz hn
  unfold DV at hZ
  unfold BigV
  obtain ⟨A, hA⟩ : ∃ A, A = bigs true n := ⟨_, rfl⟩
  obtain ⟨E, hE⟩ : ∃ E, E = digs n := ⟨_, rfl⟩
  obtain ⟨C, hC⟩ : ∃ C, C = bigs false n := ⟨_, rfl⟩
  rw [← hE] at hZ
  rw [← hC]
  rw [← hA]
  have HA := hid hA
  have HE := hid hE
  have HC := hid hC
  have HZ := hid hZ
  have C0 : A[0]? = some (.bool true) := by rw [hA]; exact bigs_get0 _ _
  clear hZ hA hE hC
  have hA := (Row.new w 76 A).alloc (.cells (bigs false 0) 76)
  have hR := Row.new (w.alloc (.cells A 76)) 76 (bigs false 0)
  have hU := ((Up.refl w).alloc (.cells A 76)).alloc (.cells (bigs false 0) 76)
  simp only [alloc_size] at hR
  go_enter Tryd.func58, Tryd.ntmps58
  go_upto_region 1 with fail
  obtain ⟨V, hV⟩ : ∃ V, V = (w.alloc (.cells A 76)).alloc (.cells (bigs false 0) 76) := ⟨_, rfl⟩
  rw [bigs_0] at hV
  rw [← hV]
  rw [← bigs_0] at hV
  rw [← hV] at hA hR hU
  clear hV
  have MK : ∀ W, Row W w.heap.size 76 A → (∃ cs : Array Value, Row W (w.heap.size + 1) 76 cs ∧ cs.size = 17) → Up w.heap.size w W → Row W w.heap.size 76 A ∧ W.cell? ⟨w.heap.size, 0, none⟩ = some (.bool true) ∧ (∃ cs : Array Value, Row W (w.heap.size + 1) 76 cs ∧ cs.size = 17) ∧ Up w.heap.size w W := fun W h1 h2 h3 => ⟨h1, by rw [h1.cell, C0], h2, h3⟩
  have MK := hid MK
  clear C0
  refine wp_region_noPanic ?_
  refine wp_region_held_drew (S := fun W => Row W w.heap.size 76 A ∧ W.cell? ⟨w.heap.size, 0, none⟩ = some (.bool true) ∧ (∃ cs : Array Value, Row W (w.heap.size + 1) 76 cs ∧ cs.size = 17) ∧ Up w.heap.size w W) (by kernel_rfl) (MK.out _ hA.drew ⟨_, hR.drew, bigs_size _ _⟩ hU.drew) (fun hHeld => ?_)
  refine wpAnyH_take (i := 0) (oi := { dst := some 3, op := Op.fieldAddr 76 (Operand.tmp 1) 0, type := 0, pos := "ref.go:114", after := #[], guard := none }) (v := ?_) rfl (by kernel_rfl) (by kernel_rfl) (by kernel_rfl) (fun _ _ _ h => h) (Or.inl ⟨by rfl, ?_⟩) hHeld ?_
  rotate_left
  · intro w' hSw; (try dsimp only at hSw); go_simp <;> with_reducible rfl
  try simp only [Act.put, List.setIfInBounds_toArray, List.set_cons_zero, List.set_cons_succ]
  refine wpAnyH_take (i := 1) (oi := { dst := some 4, op := Op.load 4 (Operand.tmp 3), type := 4, pos := "ref.go:114", after := #[{ on := 0, ground := Ground.data }], guard := none }) (v := ?_) rfl (by kernel_rfl) (by kernel_rfl) (by kernel_rfl) (fun _ _ _ h => h) (Or.inl ⟨by rfl, ?_⟩) hHeld ?_
  rotate_left
  · intro w' hSw; (try dsimp only at hSw); go_simp <;> with_reducible rfl
  try simp only [Act.put, List.setIfInBounds_toArray, List.set_cons_zero, List.set_cons_succ]
  refine wpAnyH_take (i := 2) (oi := { dst := some 5, op := Op.unOp UnOp.not 4 (Operand.tmp 4), type := 4, pos := "ref.go:114", after := #[{ on := 1, ground := Ground.data }], guard := none }) (v := ?_) rfl (by kernel_rfl) (by kernel_rfl) (by kernel_rfl) (fun _ _ _ h => h) (Or.inl ⟨by rfl, ?_⟩) hHeld ?_
  rotate_left
  · intro w' hSw; (try dsimp only at hSw); go_simp <;> with_reducible rfl
  try simp only [Act.put, List.setIfInBounds_toArray, List.set_cons_zero, List.set_cons_succ]
  refine wpAnyH_take (i := 3) (oi := { dst := some 6, op := Op.move (Operand.tmp 5), type := 4, pos := "ref.go:114", after := #[{ on := 2, ground := Ground.data }], guard := none }) (v := ?_) rfl (by kernel_rfl) (by kernel_rfl) (by kernel_rfl) (fun _ _ _ h => h) (Or.inl ⟨by rfl, ?_⟩) hHeld ?_
  rotate_left
  · intro w' hSw; (try dsimp only at hSw); go_simp <;> with_reducible rfl
  try simp only [Act.put, List.setIfInBounds_toArray, List.set_cons_zero, List.set_cons_succ]
  refine wpAnyH_take (i := 4) (oi := { dst := some 7, op := Op.fieldAddr 76 (Operand.tmp 1) 1, type := 0, pos := "ref.go:114", after := #[{ on := 3, ground := Ground.guard }], guard := some (3, true) }) (v := undef) rfl (by kernel_rfl) (by kernel_rfl) (by kernel_rfl) (fun _ _ _ h => h) (Or.inr ⟨by rfl, rfl⟩) hHeld ?_
  try simp only [Act.put, List.setIfInBounds_toArray, List.set_cons_zero, List.set_cons_succ]
  refine wpAnyH_take (i := 5) (oi := { dst := some 8, op := Op.load 74 (Operand.tmp 7), type := 74, pos := "ref.go:114", after := #[{ on := 4, ground := Ground.data }, { on := 3, ground := Ground.guard }], guard := some (3, true) }) (v := undef) rfl (by kernel_rfl) (by kernel_rfl) (by kernel_rfl) (fun _ _ _ h => h) (Or.inr ⟨by rfl, rfl⟩) hHeld ?_
  try simp only [Act.put, List.setIfInBounds_toArray, List.set_cons_zero, List.set_cons_succ]
  refine wpAnyH_take (i := 6) (oi := { dst := some 9, op := Op.call { callee := Callee.value (Operand.func 64), args := #[Operand.tmp 8], argTypes := #[74] }, type := 4, pos := "ref.go:114", after := #[{ on := 5, ground := Ground.data }, { on := 3, ground := Ground.chain }, { on := 3, ground := Ground.guard }], guard := some (3, true) }) (v := undef) rfl (by kernel_rfl) (by kernel_rfl) (by kernel_rfl) (fun _ _ _ h => h) (Or.inr ⟨by rfl, rfl⟩) hHeld ?_
  try simp only [Act.put, List.setIfInBounds_toArray, List.set_cons_zero, List.set_cons_succ]
  refine wpAnyH_take (i := 7) (oi := { dst := some 10, op := Op.unOp UnOp.not 4 (Operand.tmp 9), type := 4, pos := "ref.go:114", after := #[{ on := 6, ground := Ground.data }, { on := 3, ground := Ground.guard }], guard := some (3, true) }) (v := undef) rfl (by kernel_rfl) (by kernel_rfl) (by kernel_rfl) (fun _ _ _ h => h) (Or.inr ⟨by rfl, rfl⟩) hHeld ?_
  try simp only [Act.put, List.setIfInBounds_toArray, List.set_cons_zero, List.set_cons_succ]
  refine wpAnyH_take (i := 8) (oi := { dst := some 11, op := Op.pick (Operand.tmp 6) (Operand.tmp 10) (Operand.const (Value.bool false)), type := 4, pos := "ref.go:114", after := #[{ on := 3, ground := Ground.data }, { on := 7, ground := Ground.data }], guard := none }) (v := ?_) rfl (by kernel_rfl) (by kernel_rfl) (by kernel_rfl) (fun _ _ _ h => h) (Or.inl ⟨by rfl, ?_⟩) hHeld ?_
  rotate_left
  · intro w' hSw; (try dsimp only at hSw); go_simp <;> with_reducible rfl
  try simp only [Act.put, List.setIfInBounds_toArray, List.set_cons_zero, List.set_cons_succ]
  refine wpAnyH_take (i := 9) (oi := { dst := some 12, op := Op.fieldAddr 76 (Operand.tmp 1) 1, type := 0, pos := "ref.go:114", after := #[], guard := none }) (v := ?_) rfl (by kernel_rfl) (by kernel_rfl) (by kernel_rfl) (fun _ _ _ h => h) (Or.inl ⟨by rfl, ?_⟩) hHeld ?_
  rotate_left
  · intro w' hSw; (try dsimp only at hSw); go_simp <;> with_reducible rfl
  try simp only [Act.put, List.setIfInBounds_toArray, List.set_cons_zero, List.set_cons_succ]
  refine wpAnyH_take (i := 10) (oi := { dst := some 13, op := Op.load 74 (Operand.tmp 12), type := 74, pos := "ref.go:114", after := #[{ on := 9, ground := Ground.data }], guard := none }) (v := .agg E) rfl (by kernel_rfl) (by kernel_rfl) (by kernel_rfl) (fun _ _ _ h => h) (Or.inl ⟨by rfl, fun W hW => by rw [HE.out]; exact exec_load_digs _ rfl (w.heap.size) rfl 76 true n W (by rw [← HA.out]; exact hW.1)⟩) hHeld ?_
  try simp only [Act.put, List.setIfInBounds_toArray, List.set_cons_zero, List.set_cons_succ]
  refine wpAnyH_take (i := 11) (oi := { dst := some 14, op := Op.build 76 #[(0, Operand.tmp 11), (1, Operand.tmp 13)], type := 76, pos := "ref.go:114", after := #[{ on := 8, ground := Ground.data }, { on := 10, ground := Ground.data }], guard := none }) (v := .agg C) rfl (by kernel_rfl) (by kernel_rfl) (by kernel_rfl) (fun _ _ _ h => h) (Or.inl ⟨by rfl, fun W hW => by rw [HC.out]; exact exec_build_big _ _ rfl false n rfl (by rw [← HE.out]; rfl) W⟩) hHeld ?_
  try simp only [Act.put, List.setIfInBounds_toArray, List.set_cons_zero, List.set_cons_succ]
  obtain ⟨cs, hcs, hcz⟩ := hHeld.2.2.1
  refine wpAnyH_ready (rs := [12]) (by kernel_rfl) (by simp) ?_
  refine AllReadyH.cons (o := { dst := none, op := Op.store 76 (Operand.tmp 2) (Operand.tmp 14), type := 0, pos := "ref.go:114", after := #[{ on := 11, ground := Ground.data }, { on := 6, ground := Ground.chain }, { on := 0, ground := Ground.phase }, { on := 1, ground := Ground.phase }, { on := 2, ground := Ground.phase }, { on := 3, ground := Ground.phase }, { on := 4, ground := Ground.phase }, { on := 5, ground := Ground.phase }, { on := 6, ground := Ground.phase }, { on := 7, ground := Ground.phase }, { on := 8, ground := Ground.phase }, { on := 9, ground := Ground.phase }, { on := 10, ground := Ground.phase }, { on := 11, ground := Ground.phase }], guard := none }) rfl (fun K hK => ?_) AllReadyH.nil
  refine (if_pos (by rfl)).mpr ?_
  refine wp_store_row 76 _ _ rfl (w.heap.size + 1) C rfl rfl 76 cs hcs (size_Bn (by rw [HC.out]; exact bigs_size _ _)) (by rw [hcz, HC.out, bigs_size]) (by rw [HC.out]; exact bigs_one _ _) ?_
  refine hK.out _ _ (MK.out _ (hHeld.1.farRow (by omega) C) ⟨C, hcs.putRow C, by rw [HC.out]; exact bigs_size _ _⟩ (hHeld.2.2.2.setRow (by omega) C)) (fun hHeld => ?_)
  clear hK K
  try simp only [Act.put, List.setIfInBounds_toArray, List.set_cons_zero, List.set_cons_succ]
  refine wpAnyH_done (by kernel_rfl) ?_ _
  refine NoPanic.normal ?_
  go_wp2_with fail
  exact bodyPost_ret (v := .agg C) (results_cell_row Tryd.results58 _ _ (w.heap.size + 1) 76 C (0, 0) _ rfl (hcs.putRow _) Tryd.underlying76 rfl (size_Bn (by rw [HC.out]; exact bigs_size _ _))) rfl ⟨rfl, hHeld.2.2.2.below⟩

set_option maxRecDepth 100000 in
set_option maxHeartbeats 2000000 in
theorem minus_pos (w : World) (n : Nat) (hn : n < BP 16) : Calls Tryd.prog 58 #[BigV false n] w fun e w' => e = .returned (BigV (!decide (n = 0)) n) ∧ Below w.heap.size w w' := by
  have hZ := fun w => rzero_any w n hn
  obtain ⟨z, hz⟩ : ∃ z, z = decide (n = 0) := ⟨_, rfl⟩
  rw [← hz] at hZ
  rw [← hz]
  clear hz hn
  unfold DV at hZ
  unfold BigV
  obtain ⟨A, hA⟩ : ∃ A, A = bigs false n := ⟨_, rfl⟩
  obtain ⟨E, hE⟩ : ∃ E, E = digs n := ⟨_, rfl⟩
  obtain ⟨C, hC⟩ : ∃ C, C = bigs (!z) n := ⟨_, rfl⟩
  rw [← hE] at hZ
  rw [← hC]
  rw [← hA]
  have HA := hid hA
  have HE := hid hE
  have HC := hid hC
  have HZ := hid hZ
  have C0 : A[0]? = some (.bool false) := by rw [hA]; exact bigs_get0 _ _
  clear hZ hA hE hC
  have hA := (Row.new w 76 A).alloc (.cells (bigs false 0) 76)
  have hR := Row.new (w.alloc (.cells A 76)) 76 (bigs false 0)
  have hU := ((Up.refl w).alloc (.cells A 76)).alloc (.cells (bigs false 0) 76)
  simp only [alloc_size] at hR
  go_enter Tryd.func58, Tryd.ntmps58
  go_upto_region 1 with fail
  obtain ⟨V, hV⟩ : ∃ V, V = (w.alloc (.cells A 76)).alloc (.cells (bigs false 0) 76) := ⟨_, rfl⟩
  rw [bigs_0] at hV
  rw [← hV]
  rw [← bigs_0] at hV
  rw [← hV] at hA hR hU
  clear hV
  have MK : ∀ W, Row W w.heap.size 76 A → (∃ cs : Array Value, Row W (w.heap.size + 1) 76 cs ∧ cs.size = 17) → Up w.heap.size w W → Row W w.heap.size 76 A ∧ W.cell? ⟨w.heap.size, 0, none⟩ = some (.bool false) ∧ (∃ cs : Array Value, Row W (w.heap.size + 1) 76 cs ∧ cs.size = 17) ∧ Up w.heap.size w W := fun W h1 h2 h3 => ⟨h1, by rw [h1.cell, C0], h2, h3⟩
  have MK := hid MK
  clear C0
  refine wp_region_noPanic ?_
  refine wp_region_held_drew (S := fun W => Row W w.heap.size 76 A ∧ W.cell? ⟨w.heap.size, 0, none⟩ = some (.bool false) ∧ (∃ cs : Array Value, Row W (w.heap.size + 1) 76 cs ∧ cs.size = 17) ∧ Up w.heap.size w W) (by kernel_rfl) (MK.out _ hA.drew ⟨_, hR.drew, bigs_size _ _⟩ hU.drew) (fun hHeld => ?_)
  refine wpAnyH_take (i := 0) (oi := { dst := some 3, op := Op.fieldAddr 76 (Operand.tmp 1) 0, type := 0, pos := "ref.go:114", after := #[], guard := none }) (v := ?_) rfl (by kernel_rfl) (by kernel_rfl) (by kernel_rfl) (fun _ _ _ h => h) (Or.inl ⟨by rfl, ?_⟩) hHeld ?_
  rotate_left
  · intro w' hSw; (try dsimp only at hSw); go_simp <;> with_reducible rfl
  try simp only [Act.put, List.setIfInBounds_toArray, List.set_cons_zero, List.set_cons_succ]
  refine wpAnyH_take (i := 1) (oi := { dst := some 4, op := Op.load 4 (Operand.tmp 3), type := 4, pos := "ref.go:114", after := #[{ on := 0, ground := Ground.data }], guard := none }) (v := ?_) rfl (by kernel_rfl) (by kernel_rfl) (by kernel_rfl) (fun _ _ _ h => h) (Or.inl ⟨by rfl, ?_⟩) hHeld ?_
  rotate_left
  · intro w' hSw; (try dsimp only at hSw); go_simp <;> with_reducible rfl
  try simp only [Act.put, List.setIfInBounds_toArray, List.set_cons_zero, List.set_cons_succ]
  refine wpAnyH_take (i := 2) (oi := { dst := some 5, op := Op.unOp UnOp.not 4 (Operand.tmp 4), type := 4, pos := "ref.go:114", after := #[{ on := 1, ground := Ground.data }], guard := none }) (v := ?_) rfl (by kernel_rfl) (by kernel_rfl) (by kernel_rfl) (fun _ _ _ h => h) (Or.inl ⟨by rfl, ?_⟩) hHeld ?_
  rotate_left
  · intro w' hSw; (try dsimp only at hSw); go_simp <;> with_reducible rfl
  try simp only [Act.put, List.setIfInBounds_toArray, List.set_cons_zero, List.set_cons_succ]
  refine wpAnyH_take (i := 3) (oi := { dst := some 6, op := Op.move (Operand.tmp 5), type := 4, pos := "ref.go:114", after := #[{ on := 2, ground := Ground.data }], guard := none }) (v := ?_) rfl (by kernel_rfl) (by kernel_rfl) (by kernel_rfl) (fun _ _ _ h => h) (Or.inl ⟨by rfl, ?_⟩) hHeld ?_
  rotate_left
  · intro w' hSw; (try dsimp only at hSw); go_simp <;> with_reducible rfl
  try simp only [Act.put, List.setIfInBounds_toArray, List.set_cons_zero, List.set_cons_succ]
  refine wpAnyH_take (i := 4) (oi := { dst := some 7, op := Op.fieldAddr 76 (Operand.tmp 1) 1, type := 0, pos := "ref.go:114", after := #[{ on := 3, ground := Ground.guard }], guard := some (3, true) }) (v := ?_) rfl (by kernel_rfl) (by kernel_rfl) (by kernel_rfl) (fun _ _ _ h => h) (Or.inl ⟨by rfl, ?_⟩) hHeld ?_
  rotate_left
  · intro w' hSw; (try dsimp only at hSw); go_simp <;> with_reducible rfl
  try simp only [Act.put, List.setIfInBounds_toArray, List.set_cons_zero, List.set_cons_succ]
  refine wpAnyH_take (i := 5) (oi := { dst := some 8, op := Op.load 74 (Operand.tmp 7), type := 74, pos := "ref.go:114", after := #[{ on := 4, ground := Ground.data }, { on := 3, ground := Ground.guard }], guard := some (3, true) }) (v := .agg E) rfl (by kernel_rfl) (by kernel_rfl) (by kernel_rfl) (fun _ _ _ h => h) (Or.inl ⟨by rfl, fun W hW => by rw [HE.out]; exact exec_load_digs _ rfl (w.heap.size) rfl 76 false n W (by rw [← HA.out]; exact hW.1)⟩) hHeld ?_
  try simp only [Act.put, List.setIfInBounds_toArray, List.set_cons_zero, List.set_cons_succ]
  refine wpAnyH_take (i := 9) (oi := { dst := some 12, op := Op.fieldAddr 76 (Operand.tmp 1) 1, type := 0, pos := "ref.go:114", after := #[], guard := none }) (v := ?_) rfl (by kernel_rfl) (by kernel_rfl) (by kernel_rfl) (fun _ _ _ h => h) (Or.inl ⟨by rfl, ?_⟩) hHeld ?_
  rotate_left
  · intro w' hSw; (try dsimp only at hSw); go_simp <;> with_reducible rfl
  try simp only [Act.put, List.setIfInBounds_toArray, List.set_cons_zero, List.set_cons_succ]
  refine wpAnyH_take (i := 10) (oi := { dst := some 13, op := Op.load 74 (Operand.tmp 12), type := 74, pos := "ref.go:114", after := #[{ on := 9, ground := Ground.data }], guard := none }) (v := .agg E) rfl (by kernel_rfl) (by kernel_rfl) (by kernel_rfl) (fun _ _ _ h => h) (Or.inl ⟨by rfl, fun W hW => by rw [HE.out]; exact exec_load_digs _ rfl (w.heap.size) rfl 76 false n W (by rw [← HA.out]; exact hW.1)⟩) hHeld ?_
  try simp only [Act.put, List.setIfInBounds_toArray, List.set_cons_zero, List.set_cons_succ]
  refine wpAnyH_ready (rs := [6]) (by kernel_rfl) (by simp) ?_
  refine AllReadyH.cons (o := { dst := some 9, op := Op.call { callee := Callee.value (Operand.func 64), args := #[Operand.tmp 8], argTypes := #[74] }, type := 4, pos := "ref.go:114", after := #[{ on := 5, ground := Ground.data }, { on := 3, ground := Ground.chain }, { on := 3, ground := Ground.guard }], guard := some (3, true) }) rfl (fun K hK => ?_) AllReadyH.nil
  go_simp
  refine Calls.mono (HZ.out _) ?_; rintro e w1 ⟨rfl, hb⟩
  refine hK.out _ _ (MK.out _ (hHeld.1.mod (Mod.of_below hb Nil) (fun hf => hf)) (by obtain ⟨cs, h1, h2⟩ := hHeld.2.2.1; exact ⟨cs, h1.mod (Mod.of_below hb Nil) (fun hf => hf), h2⟩) (hHeld.2.2.2.trans hb)) (fun hHeld => ?_)
  clear hK K
  try simp only [Act.put, List.setIfInBounds_toArray, List.set_cons_zero, List.set_cons_succ]
  refine wpAnyH_take (i := 7) (oi := { dst := some 10, op := Op.unOp UnOp.not 4 (Operand.tmp 9), type := 4, pos := "ref.go:114", after := #[{ on := 6, ground := Ground.data }, { on := 3, ground := Ground.guard }], guard := some (3, true) }) (v := ?_) rfl (by kernel_rfl) (by kernel_rfl) (by kernel_rfl) (fun _ _ _ h => h) (Or.inl ⟨by rfl, ?_⟩) hHeld ?_
  rotate_left
  · intro w' hSw; (try dsimp only at hSw); go_simp <;> with_reducible rfl
  try simp only [Act.put, List.setIfInBounds_toArray, List.set_cons_zero, List.set_cons_succ]
  refine wpAnyH_take (i := 8) (oi := { dst := some 11, op := Op.pick (Operand.tmp 6) (Operand.tmp 10) (Operand.const (Value.bool false)), type := 4, pos := "ref.go:114", after := #[{ on := 3, ground := Ground.data }, { on := 7, ground := Ground.data }], guard := none }) (v := ?_) rfl (by kernel_rfl) (by kernel_rfl) (by kernel_rfl) (fun _ _ _ h => h) (Or.inl ⟨by rfl, ?_⟩) hHeld ?_
  rotate_left
  · intro w' hSw; (try dsimp only at hSw); go_simp <;> with_reducible rfl
  try simp only [Act.put, List.setIfInBounds_toArray, List.set_cons_zero, List.set_cons_succ]
  refine wpAnyH_take (i := 11) (oi := { dst := some 14, op := Op.build 76 #[(0, Operand.tmp 11), (1, Operand.tmp 13)], type := 76, pos := "ref.go:114", after := #[{ on := 8, ground := Ground.data }, { on := 10, ground := Ground.data }], guard := none }) (v := .agg C) rfl (by kernel_rfl) (by kernel_rfl) (by kernel_rfl) (fun _ _ _ h => h) (Or.inl ⟨by rfl, fun W hW => by rw [HC.out]; exact exec_build_big _ _ rfl (!z) n rfl (by rw [← HE.out]; rfl) W⟩) hHeld ?_
  try simp only [Act.put, List.setIfInBounds_toArray, List.set_cons_zero, List.set_cons_succ]
  obtain ⟨cs, hcs, hcz⟩ := hHeld.2.2.1
  refine wpAnyH_ready (rs := [12]) (by kernel_rfl) (by simp) ?_
  refine AllReadyH.cons (o := { dst := none, op := Op.store 76 (Operand.tmp 2) (Operand.tmp 14), type := 0, pos := "ref.go:114", after := #[{ on := 11, ground := Ground.data }, { on := 6, ground := Ground.chain }, { on := 0, ground := Ground.phase }, { on := 1, ground := Ground.phase }, { on := 2, ground := Ground.phase }, { on := 3, ground := Ground.phase }, { on := 4, ground := Ground.phase }, { on := 5, ground := Ground.phase }, { on := 6, ground := Ground.phase }, { on := 7, ground := Ground.phase }, { on := 8, ground := Ground.phase }, { on := 9, ground := Ground.phase }, { on := 10, ground := Ground.phase }, { on := 11, ground := Ground.phase }], guard := none }) rfl (fun K hK => ?_) AllReadyH.nil
  refine (if_pos (by rfl)).mpr ?_
  refine wp_store_row 76 _ _ rfl (w.heap.size + 1) C rfl rfl 76 cs hcs (size_Bn (by rw [HC.out]; exact bigs_size _ _)) (by rw [hcz, HC.out, bigs_size]) (by rw [HC.out]; exact bigs_one _ _) ?_
  refine hK.out _ _ (MK.out _ (hHeld.1.farRow (by omega) C) ⟨C, hcs.putRow C, by rw [HC.out]; exact bigs_size _ _⟩ (hHeld.2.2.2.setRow (by omega) C)) (fun hHeld => ?_)
  clear hK K
  try simp only [Act.put, List.setIfInBounds_toArray, List.set_cons_zero, List.set_cons_succ]
  refine wpAnyH_done (by kernel_rfl) ?_ _
  refine NoPanic.normal ?_
  go_wp2_with fail
  exact bodyPost_ret (v := .agg C) (results_cell_row Tryd.results58 _ _ (w.heap.size + 1) 76 C (0, 0) _ rfl (hcs.putRow _) Tryd.underlying76 rfl (size_Bn (by rw [HC.out]; exact bigs_size _ _))) rfl ⟨rfl, hHeld.2.2.2.below⟩

theorem minus_any (w : World) (x : Int) (hx : x.natAbs < BP 16) : Calls Tryd.prog 58 #[BigZ x] w fun e w' => e = .returned (BigZ (-x)) ∧ Below w.heap.size w w' := by
  rw [← minus_z]
  unfold BigZ
  by_cases h : x < 0
  · rw [decide_eq_true h]
    exact minus_neg w _ hx
  · rw [decide_eq_false h]
    exact minus_pos w _ hx
end Go.Proofs.YtfalllekhcocgaaDoor
