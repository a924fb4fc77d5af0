/-
  The reference's sums of numbers with signs, and their order.
-/
import Derived.Test.YtfalllekhcocgaaDoorRefI
namespace Go.Proofs.YtfalllekhcocgaaDoor
open Go.RowKit

set_option maxRecDepth 100000 in
set_option maxHeartbeats 2000000 in
theorem sum_ff (w : World) (m n : Nat) (hm : m + n < BP 16) : Calls Tryd.prog 55 #[BigV false m, BigV false n] w fun e w' => e = .returned (BigV false (m + n)) ∧ Below w.heap.size w w' := by
  have hC := fun w => radd_any w m n hm
  clear hm
  obtain ⟨k, hk⟩ : ∃ k, k = m + n := ⟨_, rfl⟩
  rw [← hk] at hC ⊢
  clear hk
  unfold DV at hC
  unfold BigV
  obtain ⟨A1, hA1⟩ : ∃ X, X = bigs false m := ⟨_, rfl⟩
  obtain ⟨A2, hA2⟩ : ∃ X, X = bigs false n := ⟨_, rfl⟩
  obtain ⟨E1, hE1⟩ : ∃ X, X = digs m := ⟨_, rfl⟩
  obtain ⟨E2, hE2⟩ : ∃ X, X = digs n := ⟨_, rfl⟩
  obtain ⟨E3, hE3⟩ : ∃ X, X = digs k := ⟨_, rfl⟩
  obtain ⟨C, hC0⟩ : ∃ X, X = bigs false k := ⟨_, rfl⟩
  rw [← hE1, ← hE2, ← hE3] at hC
  rw [← hC0]
  rw [← hA1, ← hA2]
  have HA1 := hid hA1
  have HA2 := hid hA2
  have HE1 := hid hE1
  have HE2 := hid hE2
  have HE3 := hid hE3
  have HC := hid hC0
  have HhC := hid hC
  clear hC hA1 hA2 hE1 hE2 hE3 hC0
  have h1 := ((Row.new w 76 A1).alloc (.cells A2 76)).alloc (.cells (bigs false 0) 76)
  have h2 := (Row.new (w.alloc (.cells A1 76)) 76 A2).alloc (.cells (bigs false 0) 76)
  have hR := Row.new ((w.alloc (.cells A1 76)).alloc (.cells A2 76)) 76 (bigs false 0)
  have hU := (((Up.refl w).alloc (.cells A1 76)).alloc (.cells A2 76)).alloc (.cells (bigs false 0) 76)
  simp only [alloc_size] at h2 hR
  go_enter Tryd.func55, Tryd.ntmps55
  go_upto_region 1 with fail
  obtain ⟨V, hV⟩ : ∃ V, V = ((w.alloc (.cells A1 76)).alloc (.cells A2 76)).alloc (.cells (bigs false 0) 76) := ⟨_, rfl⟩
  rw [bigs_0] at hV
  rw [← hV]
  rw [← bigs_0] at hV
  rw [← hV] at h1 h2 hR hU
  have hz : V.heap.size = w.heap.size + 1 + 1 + 1 := by rw [hV]; simp
  clear hV
  have c1 := h1.cell 0
  have c2 := h2.cell 0
  rw [zeroC HA1] at c1
  rw [zeroC HA2] at c2
  go_upto_region 2 with fail
  clear c1 c2
  have MK : ∀ W, Row W w.heap.size 76 A1 → Row W (w.heap.size + 1) 76 A2 → (∃ cs : Array Value, Row W (w.heap.size + 1 + 1) 76 cs ∧ cs.size = 17) → Up w.heap.size w W → Row W w.heap.size 76 A1 ∧ W.cell? ⟨w.heap.size, 0, none⟩ = some (.bool false) ∧ Row W (w.heap.size + 1) 76 A2 ∧ W.cell? ⟨w.heap.size + 1, 0, none⟩ = some (.bool false) ∧ (∃ cs : Array Value, Row W (w.heap.size + 1 + 1) 76 cs ∧ cs.size = 17) ∧ Up w.heap.size w W := fun W h1 h2 h3 h5 => ⟨h1, by rw [h1.cell, zeroC HA1], h2, by rw [h2.cell, zeroC HA2], h3, h5⟩
  have MK := hid MK
  refine wp_region_noPanic ?_
  refine wp_region_held_drew (S := fun W => Row W w.heap.size 76 A1 ∧ W.cell? ⟨w.heap.size, 0, none⟩ = some (.bool false) ∧ Row W (w.heap.size + 1) 76 A2 ∧ W.cell? ⟨w.heap.size + 1, 0, none⟩ = some (.bool false) ∧ (∃ cs : Array Value, Row W (w.heap.size + 1 + 1) 76 cs ∧ cs.size = 17) ∧ Up w.heap.size w W) (by kernel_rfl) (MK.out _ h1.drew h2.drew ⟨_, hR.drew, bigs_size _ _⟩ hU.drew) (fun hHeld => ?_)
  refine wpAnyH_take (i := 0) (oi := { dst := some 11, op := Op.fieldAddr 76 (Operand.tmp 2) 0, type := 0, pos := "ref.go:104", after := #[], guard := none }) (v := ?_) rfl (by kernel_rfl) (by kernel_rfl) (by kernel_rfl) (fun _ _ _ h => h) (Or.inl ⟨by rfl, ?_⟩) hHeld ?_
  rotate_left
  · intro w' hSw; (try dsimp only at hSw); go_simp <;> with_reducible rfl
  try simp only [Act.put, List.setIfInBounds_toArray, List.set_cons_zero, List.set_cons_succ]
  refine wpAnyH_take (i := 1) (oi := { dst := some 12, op := Op.load 4 (Operand.tmp 11), type := 4, pos := "ref.go:104", after := #[{ on := 0, ground := Ground.data }], guard := none }) (v := ?_) rfl (by kernel_rfl) (by kernel_rfl) (by kernel_rfl) (fun _ _ _ h => h) (Or.inl ⟨by rfl, ?_⟩) hHeld ?_
  rotate_left
  · intro w' hSw; (try dsimp only at hSw); go_simp <;> with_reducible rfl
  try simp only [Act.put, List.setIfInBounds_toArray, List.set_cons_zero, List.set_cons_succ]
  refine wpAnyH_take (i := 2) (oi := { dst := some 13, op := Op.fieldAddr 76 (Operand.tmp 2) 1, type := 0, pos := "ref.go:104", after := #[], guard := none }) (v := ?_) rfl (by kernel_rfl) (by kernel_rfl) (by kernel_rfl) (fun _ _ _ h => h) (Or.inl ⟨by rfl, ?_⟩) hHeld ?_
  rotate_left
  · intro w' hSw; (try dsimp only at hSw); go_simp <;> with_reducible rfl
  try simp only [Act.put, List.setIfInBounds_toArray, List.set_cons_zero, List.set_cons_succ]
  refine wpAnyH_take (i := 3) (oi := { dst := some 14, op := Op.load 74 (Operand.tmp 13), type := 74, pos := "ref.go:104", after := #[{ on := 2, ground := Ground.data }], guard := none }) (v := .agg E1) rfl (by kernel_rfl) (by kernel_rfl) (by kernel_rfl) (fun _ _ _ h => h) (Or.inl ⟨by rfl, fun W hW => exec_load_E HA1 HE1 _ rfl (w.heap.size) rfl 76 hW.1⟩) hHeld ?_
  try simp only [Act.put, List.setIfInBounds_toArray, List.set_cons_zero, List.set_cons_succ]
  refine wpAnyH_take (i := 4) (oi := { dst := some 15, op := Op.fieldAddr 76 (Operand.tmp 3) 1, type := 0, pos := "ref.go:104", after := #[], guard := none }) (v := ?_) rfl (by kernel_rfl) (by kernel_rfl) (by kernel_rfl) (fun _ _ _ h => h) (Or.inl ⟨by rfl, ?_⟩) hHeld ?_
  rotate_left
  · intro w' hSw; (try dsimp only at hSw); go_simp <;> with_reducible rfl
  try simp only [Act.put, List.setIfInBounds_toArray, List.set_cons_zero, List.set_cons_succ]
  refine wpAnyH_take (i := 5) (oi := { dst := some 16, op := Op.load 74 (Operand.tmp 15), type := 74, pos := "ref.go:104", after := #[{ on := 4, ground := Ground.data }], guard := none }) (v := .agg E2) rfl (by kernel_rfl) (by kernel_rfl) (by kernel_rfl) (fun _ _ _ h => h) (Or.inl ⟨by rfl, fun W hW => exec_load_E HA2 HE2 _ rfl (w.heap.size + 1) rfl 76 hW.2.2.1⟩) hHeld ?_
  try simp only [Act.put, List.setIfInBounds_toArray, List.set_cons_zero, List.set_cons_succ]
  refine wpAnyH_ready (rs := [6]) (by kernel_rfl) (by simp) ?_
  refine AllReadyH.cons (o := { dst := some 17, op := Op.call { callee := Callee.value (Operand.func 87), args := #[Operand.tmp 14, Operand.tmp 16], argTypes := #[74, 74] }, type := 74, pos := "ref.go:104", after := #[{ on := 3, ground := Ground.data }, { on := 5, ground := Ground.data }], guard := none }) rfl (fun K hK => ?_) AllReadyH.nil
  go_simp
  refine Calls.mono (HhC.out _) ?_; rintro e w9 ⟨rfl, hb⟩
  refine hK.out _ _ (MK.out _ ((hHeld.1).mod (Mod.of_below hb Nil) (fun hf => hf)) ((hHeld.2.2.1).mod (Mod.of_below hb Nil) (fun hf => hf)) (by obtain ⟨cs, h1, h2⟩ := hHeld.2.2.2.2.1; exact ⟨cs, (h1).mod (Mod.of_below hb Nil) (fun hf => hf), h2⟩) (hHeld.2.2.2.2.2.trans hb)) (fun hHeld => ?_)
  clear hK K
  try simp only [Act.put, List.setIfInBounds_toArray, List.set_cons_zero, List.set_cons_succ]
  refine wpAnyH_take (i := 7) (oi := { dst := some 18, op := Op.build 76 #[(0, Operand.tmp 12), (1, Operand.tmp 17)], type := 76, pos := "ref.go:104", after := #[{ on := 1, ground := Ground.data }, { on := 6, ground := Ground.data }], guard := none }) (v := .agg C) rfl (by kernel_rfl) (by kernel_rfl) (by kernel_rfl) (fun _ _ _ h => h) (Or.inl ⟨by rfl, fun W hW => exec_build_C HC HE3 _ _ rfl rfl rfl⟩) hHeld ?_
  try simp only [Act.put, List.setIfInBounds_toArray, List.set_cons_zero, List.set_cons_succ]
  obtain ⟨cs, hcs, hcz⟩ := hHeld.2.2.2.2.1
  refine wpAnyH_ready (rs := [8]) (by kernel_rfl) (by simp) ?_
  refine AllReadyH.cons (o := { dst := none, op := Op.store 76 (Operand.tmp 4) (Operand.tmp 18), type := 0, pos := "ref.go:104", after := #[{ on := 7, ground := Ground.data }, { on := 6, ground := Ground.chain }, { on := 0, ground := Ground.phase }, { on := 1, ground := Ground.phase }, { on := 2, ground := Ground.phase }, { on := 3, ground := Ground.phase }, { on := 4, ground := Ground.phase }, { on := 5, ground := Ground.phase }, { on := 6, ground := Ground.phase }, { on := 7, ground := Ground.phase }], guard := none }) rfl (fun K hK => ?_) AllReadyH.nil
  refine (if_pos (by rfl)).mpr ?_
  refine wp_store_row 76 _ _ rfl (w.heap.size + 1 + 1) C rfl rfl 76 cs hcs (size_Bn (sizeC HC)) (by rw [hcz, sizeC HC]) (oneC HC) ?_
  refine hK.out _ _ (MK.out _ (hHeld.1.farRow (by omega) C) (hHeld.2.2.1.farRow (by omega) C) ⟨C, hcs.putRow C, sizeC HC⟩ (hHeld.2.2.2.2.2.setRow (by omega) C)) (fun hHeld => ?_)
  clear hK K
  try simp only [Act.put, List.setIfInBounds_toArray, List.set_cons_zero, List.set_cons_succ]
  refine wpAnyH_done (by kernel_rfl) ?_ _
  refine NoPanic.normal ?_
  have UPX := hHeld.2.2.2.2.2
  go_wp2_with fail
  exact bodyPost_ret (v := .agg C) (results_cell_row Tryd.results55 _ _ (w.heap.size + 1 + 1) 76 C (0, 0) _ rfl (hcs.putRow _) Tryd.underlying76 rfl (size_Bn (sizeC HC))) rfl ⟨rfl, UPX.below⟩

set_option maxRecDepth 100000 in
set_option maxHeartbeats 2000000 in
theorem sum_tt (w : World) (m n : Nat) (hm : m + n < BP 16) : Calls Tryd.prog 55 #[BigV true m, BigV true n] w fun e w' => e = .returned (BigV true (m + n)) ∧ Below w.heap.size w w' := by
  have hC := fun w => radd_any w m n hm
  clear hm
  obtain ⟨k, hk⟩ : ∃ k, k = m + n := ⟨_, rfl⟩
  rw [← hk] at hC ⊢
  clear hk
  unfold DV at hC
  unfold BigV
  obtain ⟨A1, hA1⟩ : ∃ X, X = bigs true m := ⟨_, rfl⟩
  obtain ⟨A2, hA2⟩ : ∃ X, X = bigs true n := ⟨_, rfl⟩
  obtain ⟨E1, hE1⟩ : ∃ X, X = digs m := ⟨_, rfl⟩
  obtain ⟨E2, hE2⟩ : ∃ X, X = digs n := ⟨_, rfl⟩
  obtain ⟨E3, hE3⟩ : ∃ X, X = digs k := ⟨_, rfl⟩
  obtain ⟨C, hC0⟩ : ∃ X, X = bigs true k := ⟨_, rfl⟩
  rw [← hE1, ← hE2, ← hE3] at hC
  rw [← hC0]
  rw [← hA1, ← hA2]
  have HA1 := hid hA1
  have HA2 := hid hA2
  have HE1 := hid hE1
  have HE2 := hid hE2
  have HE3 := hid hE3
  have HC := hid hC0
  have HhC := hid hC
  clear hC hA1 hA2 hE1 hE2 hE3 hC0
  have h1 := ((Row.new w 76 A1).alloc (.cells A2 76)).alloc (.cells (bigs false 0) 76)
  have h2 := (Row.new (w.alloc (.cells A1 76)) 76 A2).alloc (.cells (bigs false 0) 76)
  have hR := Row.new ((w.alloc (.cells A1 76)).alloc (.cells A2 76)) 76 (bigs false 0)
  have hU := (((Up.refl w).alloc (.cells A1 76)).alloc (.cells A2 76)).alloc (.cells (bigs false 0) 76)
  simp only [alloc_size] at h2 hR
  go_enter Tryd.func55, Tryd.ntmps55
  go_upto_region 1 with fail
  obtain ⟨V, hV⟩ : ∃ V, V = ((w.alloc (.cells A1 76)).alloc (.cells A2 76)).alloc (.cells (bigs false 0) 76) := ⟨_, rfl⟩
  rw [bigs_0] at hV
  rw [← hV]
  rw [← bigs_0] at hV
  rw [← hV] at h1 h2 hR hU
  have hz : V.heap.size = w.heap.size + 1 + 1 + 1 := by rw [hV]; simp
  clear hV
  have c1 := h1.cell 0
  have c2 := h2.cell 0
  rw [zeroC HA1] at c1
  rw [zeroC HA2] at c2
  go_upto_region 2 with fail
  clear c1 c2
  have MK : ∀ W, Row W w.heap.size 76 A1 → Row W (w.heap.size + 1) 76 A2 → (∃ cs : Array Value, Row W (w.heap.size + 1 + 1) 76 cs ∧ cs.size = 17) → Up w.heap.size w W → Row W w.heap.size 76 A1 ∧ W.cell? ⟨w.heap.size, 0, none⟩ = some (.bool true) ∧ Row W (w.heap.size + 1) 76 A2 ∧ W.cell? ⟨w.heap.size + 1, 0, none⟩ = some (.bool true) ∧ (∃ cs : Array Value, Row W (w.heap.size + 1 + 1) 76 cs ∧ cs.size = 17) ∧ Up w.heap.size w W := fun W h1 h2 h3 h5 => ⟨h1, by rw [h1.cell, zeroC HA1], h2, by rw [h2.cell, zeroC HA2], h3, h5⟩
  have MK := hid MK
  refine wp_region_noPanic ?_
  refine wp_region_held_drew (S := fun W => Row W w.heap.size 76 A1 ∧ W.cell? ⟨w.heap.size, 0, none⟩ = some (.bool true) ∧ Row W (w.heap.size + 1) 76 A2 ∧ W.cell? ⟨w.heap.size + 1, 0, none⟩ = some (.bool true) ∧ (∃ cs : Array Value, Row W (w.heap.size + 1 + 1) 76 cs ∧ cs.size = 17) ∧ Up w.heap.size w W) (by kernel_rfl) (MK.out _ h1.drew h2.drew ⟨_, hR.drew, bigs_size _ _⟩ hU.drew) (fun hHeld => ?_)
  refine wpAnyH_take (i := 0) (oi := { dst := some 11, op := Op.fieldAddr 76 (Operand.tmp 2) 0, type := 0, pos := "ref.go:104", after := #[], guard := none }) (v := ?_) rfl (by kernel_rfl) (by kernel_rfl) (by kernel_rfl) (fun _ _ _ h => h) (Or.inl ⟨by rfl, ?_⟩) hHeld ?_
  rotate_left
  · intro w' hSw; (try dsimp only at hSw); go_simp <;> with_reducible rfl
  try simp only [Act.put, List.setIfInBounds_toArray, List.set_cons_zero, List.set_cons_succ]
  refine wpAnyH_take (i := 1) (oi := { dst := some 12, op := Op.load 4 (Operand.tmp 11), type := 4, pos := "ref.go:104", after := #[{ on := 0, ground := Ground.data }], guard := none }) (v := ?_) rfl (by kernel_rfl) (by kernel_rfl) (by kernel_rfl) (fun _ _ _ h => h) (Or.inl ⟨by rfl, ?_⟩) hHeld ?_
  rotate_left
  · intro w' hSw; (try dsimp only at hSw); go_simp <;> with_reducible rfl
  try simp only [Act.put, List.setIfInBounds_toArray, List.set_cons_zero, List.set_cons_succ]
  refine wpAnyH_take (i := 2) (oi := { dst := some 13, op := Op.fieldAddr 76 (Operand.tmp 2) 1, type := 0, pos := "ref.go:104", after := #[], guard := none }) (v := ?_) rfl (by kernel_rfl) (by kernel_rfl) (by kernel_rfl) (fun _ _ _ h => h) (Or.inl ⟨by rfl, ?_⟩) hHeld ?_
  rotate_left
  · intro w' hSw; (try dsimp only at hSw); go_simp <;> with_reducible rfl
  try simp only [Act.put, List.setIfInBounds_toArray, List.set_cons_zero, List.set_cons_succ]
  refine wpAnyH_take (i := 3) (oi := { dst := some 14, op := Op.load 74 (Operand.tmp 13), type := 74, pos := "ref.go:104", after := #[{ on := 2, ground := Ground.data }], guard := none }) (v := .agg E1) rfl (by kernel_rfl) (by kernel_rfl) (by kernel_rfl) (fun _ _ _ h => h) (Or.inl ⟨by rfl, fun W hW => exec_load_E HA1 HE1 _ rfl (w.heap.size) rfl 76 hW.1⟩) hHeld ?_
  try simp only [Act.put, List.setIfInBounds_toArray, List.set_cons_zero, List.set_cons_succ]
  refine wpAnyH_take (i := 4) (oi := { dst := some 15, op := Op.fieldAddr 76 (Operand.tmp 3) 1, type := 0, pos := "ref.go:104", after := #[], guard := none }) (v := ?_) rfl (by kernel_rfl) (by kernel_rfl) (by kernel_rfl) (fun _ _ _ h => h) (Or.inl ⟨by rfl, ?_⟩) hHeld ?_
  rotate_left
  · intro w' hSw; (try dsimp only at hSw); go_simp <;> with_reducible rfl
  try simp only [Act.put, List.setIfInBounds_toArray, List.set_cons_zero, List.set_cons_succ]
  refine wpAnyH_take (i := 5) (oi := { dst := some 16, op := Op.load 74 (Operand.tmp 15), type := 74, pos := "ref.go:104", after := #[{ on := 4, ground := Ground.data }], guard := none }) (v := .agg E2) rfl (by kernel_rfl) (by kernel_rfl) (by kernel_rfl) (fun _ _ _ h => h) (Or.inl ⟨by rfl, fun W hW => exec_load_E HA2 HE2 _ rfl (w.heap.size + 1) rfl 76 hW.2.2.1⟩) hHeld ?_
  try simp only [Act.put, List.setIfInBounds_toArray, List.set_cons_zero, List.set_cons_succ]
  refine wpAnyH_ready (rs := [6]) (by kernel_rfl) (by simp) ?_
  refine AllReadyH.cons (o := { dst := some 17, op := Op.call { callee := Callee.value (Operand.func 87), args := #[Operand.tmp 14, Operand.tmp 16], argTypes := #[74, 74] }, type := 74, pos := "ref.go:104", after := #[{ on := 3, ground := Ground.data }, { on := 5, ground := Ground.data }], guard := none }) rfl (fun K hK => ?_) AllReadyH.nil
  go_simp
  refine Calls.mono (HhC.out _) ?_; rintro e w9 ⟨rfl, hb⟩
  refine hK.out _ _ (MK.out _ ((hHeld.1).mod (Mod.of_below hb Nil) (fun hf => hf)) ((hHeld.2.2.1).mod (Mod.of_below hb Nil) (fun hf => hf)) (by obtain ⟨cs, h1, h2⟩ := hHeld.2.2.2.2.1; exact ⟨cs, (h1).mod (Mod.of_below hb Nil) (fun hf => hf), h2⟩) (hHeld.2.2.2.2.2.trans hb)) (fun hHeld => ?_)
  clear hK K
  try simp only [Act.put, List.setIfInBounds_toArray, List.set_cons_zero, List.set_cons_succ]
  refine wpAnyH_take (i := 7) (oi := { dst := some 18, op := Op.build 76 #[(0, Operand.tmp 12), (1, Operand.tmp 17)], type := 76, pos := "ref.go:104", after := #[{ on := 1, ground := Ground.data }, { on := 6, ground := Ground.data }], guard := none }) (v := .agg C) rfl (by kernel_rfl) (by kernel_rfl) (by kernel_rfl) (fun _ _ _ h => h) (Or.inl ⟨by rfl, fun W hW => exec_build_C HC HE3 _ _ rfl rfl rfl⟩) hHeld ?_
  try simp only [Act.put, List.setIfInBounds_toArray, List.set_cons_zero, List.set_cons_succ]
  obtain ⟨cs, hcs, hcz⟩ := hHeld.2.2.2.2.1
  refine wpAnyH_ready (rs := [8]) (by kernel_rfl) (by simp) ?_
  refine AllReadyH.cons (o := { dst := none, op := Op.store 76 (Operand.tmp 4) (Operand.tmp 18), type := 0, pos := "ref.go:104", after := #[{ on := 7, ground := Ground.data }, { on := 6, ground := Ground.chain }, { on := 0, ground := Ground.phase }, { on := 1, ground := Ground.phase }, { on := 2, ground := Ground.phase }, { on := 3, ground := Ground.phase }, { on := 4, ground := Ground.phase }, { on := 5, ground := Ground.phase }, { on := 6, ground := Ground.phase }, { on := 7, ground := Ground.phase }], guard := none }) rfl (fun K hK => ?_) AllReadyH.nil
  refine (if_pos (by rfl)).mpr ?_
  refine wp_store_row 76 _ _ rfl (w.heap.size + 1 + 1) C rfl rfl 76 cs hcs (size_Bn (sizeC HC)) (by rw [hcz, sizeC HC]) (oneC HC) ?_
  refine hK.out _ _ (MK.out _ (hHeld.1.farRow (by omega) C) (hHeld.2.2.1.farRow (by omega) C) ⟨C, hcs.putRow C, sizeC HC⟩ (hHeld.2.2.2.2.2.setRow (by omega) C)) (fun hHeld => ?_)
  clear hK K
  try simp only [Act.put, List.setIfInBounds_toArray, List.set_cons_zero, List.set_cons_succ]
  refine wpAnyH_done (by kernel_rfl) ?_ _
  refine NoPanic.normal ?_
  have UPX := hHeld.2.2.2.2.2
  go_wp2_with fail
  exact bodyPost_ret (v := .agg C) (results_cell_row Tryd.results55 _ _ (w.heap.size + 1 + 1) 76 C (0, 0) _ rfl (hcs.putRow _) Tryd.underlying76 rfl (size_Bn (sizeC HC))) rfl ⟨rfl, UPX.below⟩

set_option maxRecDepth 100000 in
set_option maxHeartbeats 2000000 in
theorem sum_tf_less (w : World) (m n : Nat) (hm : m < BP 16) (hn : n < BP 16) (hl : m < n) : Calls Tryd.prog 55 #[BigV true m, BigV false n] w fun e w' => e = .returned (BigV false (n - m)) ∧ Below w.heap.size w w' := by
  have hC := fun w => rsub_any w n m hn (Nat.le_of_lt hl)
  have hQ := fun w => rcmp_any w m n hm hn
  have hc : cmpN m n = -1 := by unfold cmpN; rw [if_pos hl]
  rw [hc] at hQ
  clear hc hm hn hl
  obtain ⟨k, hk⟩ : ∃ k, k = n - m := ⟨_, rfl⟩
  rw [← hk] at hC ⊢
  clear hk
  unfold DV at hC hQ
  unfold BigV
  obtain ⟨A1, hA1⟩ : ∃ X, X = bigs true m := ⟨_, rfl⟩
  obtain ⟨A2, hA2⟩ : ∃ X, X = bigs false n := ⟨_, rfl⟩
  obtain ⟨E1, hE1⟩ : ∃ X, X = digs m := ⟨_, rfl⟩
  obtain ⟨E2, hE2⟩ : ∃ X, X = digs n := ⟨_, rfl⟩
  obtain ⟨E3, hE3⟩ : ∃ X, X = digs k := ⟨_, rfl⟩
  obtain ⟨C, hC0⟩ : ∃ X, X = bigs false k := ⟨_, rfl⟩
  rw [← hE1, ← hE2, ← hE3] at hC
  rw [← hE1, ← hE2] at hQ
  rw [← hC0]
  rw [← hA1, ← hA2]
  have HA1 := hid hA1
  have HA2 := hid hA2
  have HE1 := hid hE1
  have HE2 := hid hE2
  have HE3 := hid hE3
  have HC := hid hC0
  have HhC := hid hC
  have HhQ := hid hQ
  clear hC hQ hA1 hA2 hE1 hE2 hE3 hC0
  have h1 := ((Row.new w 76 A1).alloc (.cells A2 76)).alloc (.cells (bigs false 0) 76)
  have h2 := (Row.new (w.alloc (.cells A1 76)) 76 A2).alloc (.cells (bigs false 0) 76)
  have hR := Row.new ((w.alloc (.cells A1 76)).alloc (.cells A2 76)) 76 (bigs false 0)
  have hU := (((Up.refl w).alloc (.cells A1 76)).alloc (.cells A2 76)).alloc (.cells (bigs false 0) 76)
  simp only [alloc_size] at h2 hR
  go_enter Tryd.func55, Tryd.ntmps55
  go_upto_region 1 with fail
  obtain ⟨V, hV⟩ : ∃ V, V = ((w.alloc (.cells A1 76)).alloc (.cells A2 76)).alloc (.cells (bigs false 0) 76) := ⟨_, rfl⟩
  rw [bigs_0] at hV
  rw [← hV]
  rw [← bigs_0] at hV
  rw [← hV] at h1 h2 hR hU
  have hz : V.heap.size = w.heap.size + 1 + 1 + 1 := by rw [hV]; simp
  clear hV
  have c1 := h1.cell 0
  have c2 := h2.cell 0
  rw [zeroC HA1] at c1
  rw [zeroC HA2] at c2
  go_wp2_with (first | (refine wpList_load_E rfl HA1 HE1 (.tmp 19) rfl (w.heap.size) rfl 76 h1 ?_) | (refine wpList_load_E rfl HA2 HE2 (.tmp 21) rfl (w.heap.size + 1) rfl 76 h2 ?_))
  refine Calls.mono (HhQ.out _) ?_; rintro e w1 ⟨rfl, hb⟩
  have z1 := hb.size
  replace h1 := (h1).mod (Mod.of_below hb Nil) (fun hf => hf)
  replace h2 := (h2).mod (Mod.of_below hb Nil) (fun hf => hf)
  replace hR := (hR).mod (Mod.of_below hb Nil) (fun hf => hf)
  replace hU := hU.trans hb
  clear hb c1 c2
  go_upto_region 4 with fail
  have MK : ∀ W, Row W w.heap.size 76 A1 → Row W (w.heap.size + 1) 76 A2 → (∃ cs : Array Value, Row W (w.heap.size + 1 + 1) 76 cs ∧ cs.size = 17) → Up w.heap.size w W → Row W w.heap.size 76 A1 ∧ W.cell? ⟨w.heap.size, 0, none⟩ = some (.bool true) ∧ Row W (w.heap.size + 1) 76 A2 ∧ W.cell? ⟨w.heap.size + 1, 0, none⟩ = some (.bool false) ∧ (∃ cs : Array Value, Row W (w.heap.size + 1 + 1) 76 cs ∧ cs.size = 17) ∧ Up w.heap.size w W := fun W h1 h2 h3 h5 => ⟨h1, by rw [h1.cell, zeroC HA1], h2, by rw [h2.cell, zeroC HA2], h3, h5⟩
  have MK := hid MK
  refine wp_region_noPanic ?_
  refine wp_region_held_drew (S := fun W => Row W w.heap.size 76 A1 ∧ W.cell? ⟨w.heap.size, 0, none⟩ = some (.bool true) ∧ Row W (w.heap.size + 1) 76 A2 ∧ W.cell? ⟨w.heap.size + 1, 0, none⟩ = some (.bool false) ∧ (∃ cs : Array Value, Row W (w.heap.size + 1 + 1) 76 cs ∧ cs.size = 17) ∧ Up w.heap.size w W) (by kernel_rfl) (MK.out _ h1.drew h2.drew ⟨_, hR.drew, bigs_size _ _⟩ hU.drew) (fun hHeld => ?_)
  refine wpAnyH_take (i := 0) (oi := { dst := some 25, op := Op.fieldAddr 76 (Operand.tmp 3) 0, type := 0, pos := "ref.go:107", after := #[], guard := none }) (v := ?_) rfl (by kernel_rfl) (by kernel_rfl) (by kernel_rfl) (fun _ _ _ h => h) (Or.inl ⟨by rfl, ?_⟩) hHeld ?_
  rotate_left
  · intro w' hSw; (try dsimp only at hSw); go_simp <;> with_reducible rfl
  try simp only [Act.put, List.setIfInBounds_toArray, List.set_cons_zero, List.set_cons_succ]
  refine wpAnyH_take (i := 1) (oi := { dst := some 26, op := Op.load 4 (Operand.tmp 25), type := 4, pos := "ref.go:107", after := #[{ on := 0, ground := Ground.data }], guard := none }) (v := ?_) rfl (by kernel_rfl) (by kernel_rfl) (by kernel_rfl) (fun _ _ _ h => h) (Or.inl ⟨by rfl, ?_⟩) hHeld ?_
  rotate_left
  · intro w' hSw; (try dsimp only at hSw); go_simp <;> with_reducible rfl
  try simp only [Act.put, List.setIfInBounds_toArray, List.set_cons_zero, List.set_cons_succ]
  refine wpAnyH_take (i := 2) (oi := { dst := some 27, op := Op.fieldAddr 76 (Operand.tmp 3) 1, type := 0, pos := "ref.go:107", after := #[], guard := none }) (v := ?_) rfl (by kernel_rfl) (by kernel_rfl) (by kernel_rfl) (fun _ _ _ h => h) (Or.inl ⟨by rfl, ?_⟩) hHeld ?_
  rotate_left
  · intro w' hSw; (try dsimp only at hSw); go_simp <;> with_reducible rfl
  try simp only [Act.put, List.setIfInBounds_toArray, List.set_cons_zero, List.set_cons_succ]
  refine wpAnyH_take (i := 3) (oi := { dst := some 28, op := Op.load 74 (Operand.tmp 27), type := 74, pos := "ref.go:107", after := #[{ on := 2, ground := Ground.data }], guard := none }) (v := .agg E2) rfl (by kernel_rfl) (by kernel_rfl) (by kernel_rfl) (fun _ _ _ h => h) (Or.inl ⟨by rfl, fun W hW => exec_load_E HA2 HE2 _ rfl (w.heap.size + 1) rfl 76 hW.2.2.1⟩) hHeld ?_
  try simp only [Act.put, List.setIfInBounds_toArray, List.set_cons_zero, List.set_cons_succ]
  refine wpAnyH_take (i := 4) (oi := { dst := some 29, op := Op.fieldAddr 76 (Operand.tmp 2) 1, type := 0, pos := "ref.go:107", after := #[], guard := none }) (v := ?_) rfl (by kernel_rfl) (by kernel_rfl) (by kernel_rfl) (fun _ _ _ h => h) (Or.inl ⟨by rfl, ?_⟩) hHeld ?_
  rotate_left
  · intro w' hSw; (try dsimp only at hSw); go_simp <;> with_reducible rfl
  try simp only [Act.put, List.setIfInBounds_toArray, List.set_cons_zero, List.set_cons_succ]
  refine wpAnyH_take (i := 5) (oi := { dst := some 30, op := Op.load 74 (Operand.tmp 29), type := 74, pos := "ref.go:107", after := #[{ on := 4, ground := Ground.data }], guard := none }) (v := .agg E1) rfl (by kernel_rfl) (by kernel_rfl) (by kernel_rfl) (fun _ _ _ h => h) (Or.inl ⟨by rfl, fun W hW => exec_load_E HA1 HE1 _ rfl (w.heap.size) rfl 76 hW.1⟩) hHeld ?_
  try simp only [Act.put, List.setIfInBounds_toArray, List.set_cons_zero, List.set_cons_succ]
  refine wpAnyH_ready (rs := [6]) (by kernel_rfl) (by simp) ?_
  refine AllReadyH.cons (o := { dst := some 31, op := Op.call { callee := Callee.value (Operand.func 89), args := #[Operand.tmp 28, Operand.tmp 30], argTypes := #[74, 74] }, type := 74, pos := "ref.go:107", after := #[{ on := 3, ground := Ground.data }, { on := 5, ground := Ground.data }], guard := none }) rfl (fun K hK => ?_) AllReadyH.nil
  go_simp
  refine Calls.mono (HhC.out _) ?_; rintro e w9 ⟨rfl, hb⟩
  refine hK.out _ _ (MK.out _ ((hHeld.1).mod (Mod.of_below hb Nil) (fun hf => hf)) ((hHeld.2.2.1).mod (Mod.of_below hb Nil) (fun hf => hf)) (by obtain ⟨cs, h1, h2⟩ := hHeld.2.2.2.2.1; exact ⟨cs, (h1).mod (Mod.of_below hb Nil) (fun hf => hf), h2⟩) (hHeld.2.2.2.2.2.trans hb)) (fun hHeld => ?_)
  clear hK K
  try simp only [Act.put, List.setIfInBounds_toArray, List.set_cons_zero, List.set_cons_succ]
  refine wpAnyH_take (i := 7) (oi := { dst := some 32, op := Op.build 76 #[(0, Operand.tmp 26), (1, Operand.tmp 31)], type := 76, pos := "ref.go:107", after := #[{ on := 1, ground := Ground.data }, { on := 6, ground := Ground.data }], guard := none }) (v := .agg C) rfl (by kernel_rfl) (by kernel_rfl) (by kernel_rfl) (fun _ _ _ h => h) (Or.inl ⟨by rfl, fun W hW => exec_build_C HC HE3 _ _ rfl rfl rfl⟩) hHeld ?_
  try simp only [Act.put, List.setIfInBounds_toArray, List.set_cons_zero, List.set_cons_succ]
  obtain ⟨cs, hcs, hcz⟩ := hHeld.2.2.2.2.1
  refine wpAnyH_ready (rs := [8]) (by kernel_rfl) (by simp) ?_
  refine AllReadyH.cons (o := { dst := none, op := Op.store 76 (Operand.tmp 4) (Operand.tmp 32), type := 0, pos := "ref.go:107", after := #[{ on := 7, ground := Ground.data }, { on := 6, ground := Ground.chain }, { on := 0, ground := Ground.phase }, { on := 1, ground := Ground.phase }, { on := 2, ground := Ground.phase }, { on := 3, ground := Ground.phase }, { on := 4, ground := Ground.phase }, { on := 5, ground := Ground.phase }, { on := 6, ground := Ground.phase }, { on := 7, ground := Ground.phase }], guard := none }) rfl (fun K hK => ?_) AllReadyH.nil
  refine (if_pos (by rfl)).mpr ?_
  refine wp_store_row 76 _ _ rfl (w.heap.size + 1 + 1) C rfl rfl 76 cs hcs (size_Bn (sizeC HC)) (by rw [hcz, sizeC HC]) (oneC HC) ?_
  refine hK.out _ _ (MK.out _ (hHeld.1.farRow (by omega) C) (hHeld.2.2.1.farRow (by omega) C) ⟨C, hcs.putRow C, sizeC HC⟩ (hHeld.2.2.2.2.2.setRow (by omega) C)) (fun hHeld => ?_)
  clear hK K
  try simp only [Act.put, List.setIfInBounds_toArray, List.set_cons_zero, List.set_cons_succ]
  refine wpAnyH_done (by kernel_rfl) ?_ _
  refine NoPanic.normal ?_
  have UPX := hHeld.2.2.2.2.2
  go_wp2_with fail
  exact bodyPost_ret (v := .agg C) (results_cell_row Tryd.results55 _ _ (w.heap.size + 1 + 1) 76 C (0, 0) _ rfl (hcs.putRow _) Tryd.underlying76 rfl (size_Bn (sizeC HC))) rfl ⟨rfl, UPX.below⟩

set_option maxRecDepth 100000 in
set_option maxHeartbeats 2000000 in
theorem sum_tf_more (w : World) (m n : Nat) (hm : m < BP 16) (hn : n < BP 16) (hl : n ≤ m) : Calls Tryd.prog 55 #[BigV true m, BigV false n] w fun e w' => e = .returned (BigV (!decide (m - n = 0)) (m - n)) ∧ Below w.heap.size w w' := by
  have hC := fun w => rsub_any w m n hm hl
  have hQ := fun w => rcmp_any w m n hm hn
  have hc : ∃ c : Int, cmpN m n = c ∧ 0 ≤ c := ⟨_, rfl, by unfold cmpN; rw [if_neg (by omega)]; split <;> decide⟩
  obtain ⟨c, hc, hc0⟩ := hc
  rw [hc] at hQ
  have hZ := fun w => rzero_any w (m - n) (Nat.lt_of_le_of_lt (Nat.sub_le _ _) hm)
  clear hc hm hn hl
  obtain ⟨k, hk⟩ : ∃ k, k = m - n := ⟨_, rfl⟩
  rw [← hk] at hC hZ ⊢
  clear hk
  obtain ⟨z, hz⟩ : ∃ z, z = decide (k = 0) := ⟨_, rfl⟩
  rw [← hz] at hZ
  rw [← hz]
  clear hz
  unfold DV at hC hQ hZ
  unfold BigV
  obtain ⟨A1, hA1⟩ : ∃ X, X = bigs true m := ⟨_, rfl⟩
  obtain ⟨A2, hA2⟩ : ∃ X, X = bigs false n := ⟨_, rfl⟩
  obtain ⟨E1, hE1⟩ : ∃ X, X = digs m := ⟨_, rfl⟩
  obtain ⟨E2, hE2⟩ : ∃ X, X = digs n := ⟨_, rfl⟩
  obtain ⟨E3, hE3⟩ : ∃ X, X = digs k := ⟨_, rfl⟩
  obtain ⟨C, hC0⟩ : ∃ X, X = bigs (!z) k := ⟨_, rfl⟩
  rw [← hE1, ← hE2, ← hE3] at hC
  rw [← hE1, ← hE2] at hQ
  rw [← hE3] at hZ
  rw [← hC0]
  rw [← hA1, ← hA2]
  have HA1 := hid hA1
  have HA2 := hid hA2
  have HE1 := hid hE1
  have HE2 := hid hE2
  have HE3 := hid hE3
  have HC := hid hC0
  have HhC := hid hC
  have HhQ := hid hQ
  have HZ := hid hZ
  clear hC hQ hZ hA1 hA2 hE1 hE2 hE3 hC0
  have h1 := ((Row.new w 76 A1).alloc (.cells A2 76)).alloc (.cells (bigs false 0) 76)
  have h2 := (Row.new (w.alloc (.cells A1 76)) 76 A2).alloc (.cells (bigs false 0) 76)
  have hR := Row.new ((w.alloc (.cells A1 76)).alloc (.cells A2 76)) 76 (bigs false 0)
  have hU := (((Up.refl w).alloc (.cells A1 76)).alloc (.cells A2 76)).alloc (.cells (bigs false 0) 76)
  simp only [alloc_size] at h2 hR
  go_enter Tryd.func55, Tryd.ntmps55
  go_upto_region 1 with fail
  obtain ⟨V, hV⟩ : ∃ V, V = ((w.alloc (.cells A1 76)).alloc (.cells A2 76)).alloc (.cells (bigs false 0) 76) := ⟨_, rfl⟩
  rw [bigs_0] at hV
  rw [← hV]
  rw [← bigs_0] at hV
  rw [← hV] at h1 h2 hR hU
  have hz : V.heap.size = w.heap.size + 1 + 1 + 1 := by rw [hV]; simp
  clear hV
  have c1 := h1.cell 0
  have c2 := h2.cell 0
  rw [zeroC HA1] at c1
  rw [zeroC HA2] at c2
  go_wp2_with (first | (refine wpList_load_E rfl HA1 HE1 (.tmp 19) rfl (w.heap.size) rfl 76 h1 ?_) | (refine wpList_load_E rfl HA2 HE2 (.tmp 21) rfl (w.heap.size + 1) rfl 76 h2 ?_))
  refine Calls.mono (HhQ.out _) ?_; rintro e w1 ⟨rfl, hb⟩
  have z1 := hb.size
  replace h1 := (h1).mod (Mod.of_below hb Nil) (fun hf => hf)
  replace h2 := (h2).mod (Mod.of_below hb Nil) (fun hf => hf)
  replace hR := (hR).mod (Mod.of_below hb Nil) (fun hf => hf)
  replace hU := hU.trans hb
  clear hb c1 c2
  go_wp2_with (first | (refine wpList_load_E rfl HA1 HE1 (.tmp 33) rfl (w.heap.size) rfl 76 h1 ?_) | (refine wpList_load_E rfl HA2 HE2 (.tmp 35) rfl (w.heap.size + 1) rfl 76 h2 ?_))
  refine Calls.mono (HhC.out _) ?_; rintro e w2 ⟨rfl, hb⟩
  have z2 := hb.size
  replace h1 := (h1).mod (Mod.of_below hb Nil) (fun hf => hf)
  replace h2 := (h2).mod (Mod.of_below hb Nil) (fun hf => hf)
  replace hR := (hR).mod (Mod.of_below hb Nil) (fun hf => hf)
  replace hU := hU.trans hb
  clear hb
  have h5 := (Row.new w2 74 #[.int .u64 0, .int .u64 0, .int .u64 0, .int .u64 0, .int .u64 0, .int .u64 0, .int .u64 0, .int .u64 0, .int .u64 0, .int .u64 0, .int .u64 0, .int .u64 0, .int .u64 0, .int .u64 0, .int .u64 0, .int .u64 0]).putRow E3
  replace h1 := (h1.alloc (.cells #[.int .u64 0, .int .u64 0, .int .u64 0, .int .u64 0, .int .u64 0, .int .u64 0, .int .u64 0, .int .u64 0, .int .u64 0, .int .u64 0, .int .u64 0, .int .u64 0, .int .u64 0, .int .u64 0, .int .u64 0, .int .u64 0] 74)).farRow (g' := w2.heap.size) (by omega) E3
  replace h2 := (h2.alloc (.cells #[.int .u64 0, .int .u64 0, .int .u64 0, .int .u64 0, .int .u64 0, .int .u64 0, .int .u64 0, .int .u64 0, .int .u64 0, .int .u64 0, .int .u64 0, .int .u64 0, .int .u64 0, .int .u64 0, .int .u64 0, .int .u64 0] 74)).farRow (g' := w2.heap.size) (by omega) E3
  replace hR := (hR.alloc (.cells #[.int .u64 0, .int .u64 0, .int .u64 0, .int .u64 0, .int .u64 0, .int .u64 0, .int .u64 0, .int .u64 0, .int .u64 0, .int .u64 0, .int .u64 0, .int .u64 0, .int .u64 0, .int .u64 0, .int .u64 0, .int .u64 0] 74)).farRow (g' := w2.heap.size) (by omega) E3
  replace hU := (hU.alloc (.cells #[.int .u64 0, .int .u64 0, .int .u64 0, .int .u64 0, .int .u64 0, .int .u64 0, .int .u64 0, .int .u64 0, .int .u64 0, .int .u64 0, .int .u64 0, .int .u64 0, .int .u64 0, .int .u64 0, .int .u64 0, .int .u64 0] 74)).setRow (p := w2.heap.size) (by omega) E3
  go_upto_region 6 with (refine wpList_store_row rfl 74 _ _ rfl (w2.heap.size) E3 rfl rfl 74 #[.int .u64 0, .int .u64 0, .int .u64 0, .int .u64 0, .int .u64 0, .int .u64 0, .int .u64 0, .int .u64 0, .int .u64 0, .int .u64 0, .int .u64 0, .int .u64 0, .int .u64 0, .int .u64 0, .int .u64 0, .int .u64 0] (Row.new w2 74 #[.int .u64 0, .int .u64 0, .int .u64 0, .int .u64 0, .int .u64 0, .int .u64 0, .int .u64 0, .int .u64 0, .int .u64 0, .int .u64 0, .int .u64 0, .int .u64 0, .int .u64 0, .int .u64 0, .int .u64 0, .int .u64 0]) (size_De HE3) (sizeE HE3).symm (oneE HE3) ?_)
  obtain ⟨V2, hV2⟩ : ∃ V2, V2 = (w2.alloc (.cells #[.int .u64 0, .int .u64 0, .int .u64 0, .int .u64 0, .int .u64 0, .int .u64 0, .int .u64 0, .int .u64 0, .int .u64 0, .int .u64 0, .int .u64 0, .int .u64 0, .int .u64 0, .int .u64 0, .int .u64 0, .int .u64 0] 74)).setRow w2.heap.size E3 := ⟨_, rfl⟩
  rw [← hV2] at h1 h2 hR h5 hU ⊢
  clear hV2
  obtain ⟨g, hg⟩ : ∃ g, g = w2.heap.size := ⟨_, rfl⟩
  rw [← hg] at h5 z2 ⊢
  clear hg
  have MK : ∀ W, Row W w.heap.size 76 A1 → Row W (w.heap.size + 1) 76 A2 → (∃ cs : Array Value, Row W (w.heap.size + 1 + 1) 76 cs ∧ cs.size = 17) → Row W g 74 E3 → Up w.heap.size w W → Row W w.heap.size 76 A1 ∧ W.cell? ⟨w.heap.size, 0, none⟩ = some (.bool true) ∧ Row W (w.heap.size + 1) 76 A2 ∧ W.cell? ⟨w.heap.size + 1, 0, none⟩ = some (.bool false) ∧ (∃ cs : Array Value, Row W (w.heap.size + 1 + 1) 76 cs ∧ cs.size = 17) ∧ Row W g 74 E3 ∧ Up w.heap.size w W := fun W h1 h2 h3 h4 h5 => ⟨h1, by rw [h1.cell, zeroC HA1], h2, by rw [h2.cell, zeroC HA2], h3, h4, h5⟩
  have MK := hid MK
  refine wp_region_noPanic ?_
  refine wp_region_held_drew (S := fun W => Row W w.heap.size 76 A1 ∧ W.cell? ⟨w.heap.size, 0, none⟩ = some (.bool true) ∧ Row W (w.heap.size + 1) 76 A2 ∧ W.cell? ⟨w.heap.size + 1, 0, none⟩ = some (.bool false) ∧ (∃ cs : Array Value, Row W (w.heap.size + 1 + 1) 76 cs ∧ cs.size = 17) ∧ Row W g 74 E3 ∧ Up w.heap.size w W) (by kernel_rfl) (MK.out _ h1.drew h2.drew ⟨_, hR.drew, bigs_size _ _⟩ h5.drew hU.drew) (fun hHeld => ?_)
  refine wpAnyH_take (i := 0) (oi := { dst := some 38, op := Op.fieldAddr 76 (Operand.tmp 2) 0, type := 0, pos := "ref.go:110", after := #[], guard := none }) (v := ?_) rfl (by kernel_rfl) (by kernel_rfl) (by kernel_rfl) (fun _ _ _ h => h) (Or.inl ⟨by rfl, ?_⟩) hHeld ?_
  rotate_left
  · intro w' hSw; (try dsimp only at hSw); go_simp <;> with_reducible rfl
  try simp only [Act.put, List.setIfInBounds_toArray, List.set_cons_zero, List.set_cons_succ]
  refine wpAnyH_take (i := 1) (oi := { dst := some 39, op := Op.load 4 (Operand.tmp 38), type := 4, pos := "ref.go:110", after := #[{ on := 0, ground := Ground.data }], guard := none }) (v := ?_) rfl (by kernel_rfl) (by kernel_rfl) (by kernel_rfl) (fun _ _ _ h => h) (Or.inl ⟨by rfl, ?_⟩) hHeld ?_
  rotate_left
  · intro w' hSw; (try dsimp only at hSw); go_simp <;> with_reducible rfl
  try simp only [Act.put, List.setIfInBounds_toArray, List.set_cons_zero, List.set_cons_succ]
  refine wpAnyH_take (i := 2) (oi := { dst := some 40, op := Op.move (Operand.tmp 39), type := 4, pos := "ref.go:110", after := #[{ on := 1, ground := Ground.data }], guard := none }) (v := ?_) rfl (by kernel_rfl) (by kernel_rfl) (by kernel_rfl) (fun _ _ _ h => h) (Or.inl ⟨by rfl, ?_⟩) hHeld ?_
  rotate_left
  · intro w' hSw; (try dsimp only at hSw); go_simp <;> with_reducible rfl
  try simp only [Act.put, List.setIfInBounds_toArray, List.set_cons_zero, List.set_cons_succ]
  refine wpAnyH_take (i := 3) (oi := { dst := some 41, op := Op.load 74 (Operand.tmp 5), type := 74, pos := "ref.go:110", after := #[{ on := 2, ground := Ground.guard }], guard := some (2, true) }) (v := .agg E3) rfl (by kernel_rfl) (by kernel_rfl) (by kernel_rfl) (fun _ _ _ h => h) (Or.inl ⟨by rfl, fun W hW => exec_load_row 74 _ rfl g rfl 74 E3 _ Tryd.underlying74 rfl (size_De HE3) W hW.2.2.2.2.2.1⟩) hHeld ?_
  try simp only [Act.put, List.setIfInBounds_toArray, List.set_cons_zero, List.set_cons_succ]
  refine wpAnyH_take (i := 7) (oi := { dst := some 45, op := Op.load 74 (Operand.tmp 5), type := 74, pos := "ref.go:110", after := #[], guard := none }) (v := .agg E3) rfl (by kernel_rfl) (by kernel_rfl) (by kernel_rfl) (fun _ _ _ h => h) (Or.inl ⟨by rfl, fun W hW => exec_load_row 74 _ rfl g rfl 74 E3 _ Tryd.underlying74 rfl (size_De HE3) W hW.2.2.2.2.2.1⟩) hHeld ?_
  try simp only [Act.put, List.setIfInBounds_toArray, List.set_cons_zero, List.set_cons_succ]
  refine wpAnyH_ready (rs := [4]) (by kernel_rfl) (by simp) ?_
  refine AllReadyH.cons (o := { dst := some 42, op := Op.call { callee := Callee.value (Operand.func 64), args := #[Operand.tmp 41], argTypes := #[74] }, type := 4, pos := "ref.go:110", after := #[{ on := 3, ground := Ground.data }, { on := 2, ground := Ground.chain }, { on := 2, ground := Ground.guard }], guard := some (2, true) }) rfl (fun K hK => ?_) AllReadyH.nil
  go_simp
  refine Calls.mono (HZ.out _) ?_; rintro e w9 ⟨rfl, hb⟩
  refine hK.out _ _ (MK.out _ ((hHeld.1).mod (Mod.of_below hb Nil) (fun hf => hf)) ((hHeld.2.2.1).mod (Mod.of_below hb Nil) (fun hf => hf)) (by obtain ⟨cs, h1, h2⟩ := hHeld.2.2.2.2.1; exact ⟨cs, (h1).mod (Mod.of_below hb Nil) (fun hf => hf), h2⟩) ((hHeld.2.2.2.2.2.1).mod (Mod.of_below hb Nil) (fun hf => hf)) (hHeld.2.2.2.2.2.2.trans hb)) (fun hHeld => ?_)
  clear hK K
  try simp only [Act.put, List.setIfInBounds_toArray, List.set_cons_zero, List.set_cons_succ]
  refine wpAnyH_take (i := 5) (oi := { dst := some 43, op := Op.unOp UnOp.not 4 (Operand.tmp 42), type := 4, pos := "ref.go:110", after := #[{ on := 4, ground := Ground.data }, { on := 2, ground := Ground.guard }], guard := some (2, true) }) (v := ?_) rfl (by kernel_rfl) (by kernel_rfl) (by kernel_rfl) (fun _ _ _ h => h) (Or.inl ⟨by rfl, ?_⟩) hHeld ?_
  rotate_left
  · intro w' hSw; (try dsimp only at hSw); go_simp <;> with_reducible rfl
  try simp only [Act.put, List.setIfInBounds_toArray, List.set_cons_zero, List.set_cons_succ]
  refine wpAnyH_take (i := 6) (oi := { dst := some 44, op := Op.pick (Operand.tmp 40) (Operand.tmp 43) (Operand.const (Value.bool false)), type := 4, pos := "ref.go:110", after := #[{ on := 2, ground := Ground.data }, { on := 5, ground := Ground.data }], guard := none }) (v := ?_) rfl (by kernel_rfl) (by kernel_rfl) (by kernel_rfl) (fun _ _ _ h => h) (Or.inl ⟨by rfl, ?_⟩) hHeld ?_
  rotate_left
  · intro w' hSw; (try dsimp only at hSw); go_simp <;> with_reducible rfl
  try simp only [Act.put, List.setIfInBounds_toArray, List.set_cons_zero, List.set_cons_succ]
  refine wpAnyH_take (i := 8) (oi := { dst := some 46, op := Op.build 76 #[(0, Operand.tmp 44), (1, Operand.tmp 45)], type := 76, pos := "ref.go:110", after := #[{ on := 6, ground := Ground.data }, { on := 7, ground := Ground.data }], guard := none }) (v := .agg C) rfl (by kernel_rfl) (by kernel_rfl) (by kernel_rfl) (fun _ _ _ h => h) (Or.inl ⟨by rfl, fun W hW => exec_build_C HC HE3 _ _ rfl rfl rfl⟩) hHeld ?_
  try simp only [Act.put, List.setIfInBounds_toArray, List.set_cons_zero, List.set_cons_succ]
  obtain ⟨cs, hcs, hcz⟩ := hHeld.2.2.2.2.1
  refine wpAnyH_ready (rs := [9]) (by kernel_rfl) (by simp) ?_
  refine AllReadyH.cons (o := { dst := none, op := Op.store 76 (Operand.tmp 4) (Operand.tmp 46), type := 0, pos := "ref.go:110", after := #[{ on := 8, ground := Ground.data }, { on := 4, ground := Ground.chain }, { on := 0, ground := Ground.phase }, { on := 1, ground := Ground.phase }, { on := 2, ground := Ground.phase }, { on := 3, ground := Ground.phase }, { on := 4, ground := Ground.phase }, { on := 5, ground := Ground.phase }, { on := 6, ground := Ground.phase }, { on := 7, ground := Ground.phase }, { on := 8, ground := Ground.phase }], guard := none }) rfl (fun K hK => ?_) AllReadyH.nil
  refine (if_pos (by rfl)).mpr ?_
  refine wp_store_row 76 _ _ rfl (w.heap.size + 1 + 1) C rfl rfl 76 cs hcs (size_Bn (sizeC HC)) (by rw [hcz, sizeC HC]) (oneC HC) ?_
  refine hK.out _ _ (MK.out _ (hHeld.1.farRow (by omega) C) (hHeld.2.2.1.farRow (by omega) C) ⟨C, hcs.putRow C, sizeC HC⟩ (hHeld.2.2.2.2.2.1.farRow (by omega) C) (hHeld.2.2.2.2.2.2.setRow (by omega) C)) (fun hHeld => ?_)
  clear hK K
  try simp only [Act.put, List.setIfInBounds_toArray, List.set_cons_zero, List.set_cons_succ]
  refine wpAnyH_done (by kernel_rfl) ?_ _
  refine NoPanic.normal ?_
  have UPX := hHeld.2.2.2.2.2.2
  go_wp2_with fail
  exact bodyPost_ret (v := .agg C) (results_cell_row Tryd.results55 _ _ (w.heap.size + 1 + 1) 76 C (0, 0) _ rfl (hcs.putRow _) Tryd.underlying76 rfl (size_Bn (sizeC HC))) rfl ⟨rfl, UPX.below⟩

set_option maxRecDepth 100000 in
set_option maxHeartbeats 2000000 in
theorem sum_ft_less (w : World) (m n : Nat) (hm : m < BP 16) (hn : n < BP 16) (hl : m < n) : Calls Tryd.prog 55 #[BigV false m, BigV true n] w fun e w' => e = .returned (BigV true (n - m)) ∧ Below w.heap.size w w' := by
  have hC := fun w => rsub_any w n m hn (Nat.le_of_lt hl)
  have hQ := fun w => rcmp_any w m n hm hn
  have hc : cmpN m n = -1 := by unfold cmpN; rw [if_pos hl]
  rw [hc] at hQ
  clear hc hm hn hl
  obtain ⟨k, hk⟩ : ∃ k, k = n - m := ⟨_, rfl⟩
  rw [← hk] at hC ⊢
  clear hk
  unfold DV at hC hQ
  unfold BigV
  obtain ⟨A1, hA1⟩ : ∃ X, X = bigs false m := ⟨_, rfl⟩
  obtain ⟨A2, hA2⟩ : ∃ X, X = bigs true n := ⟨_, rfl⟩
  obtain ⟨E1, hE1⟩ : ∃ X, X = digs m := ⟨_, rfl⟩
  obtain ⟨E2, hE2⟩ : ∃ X, X = digs n := ⟨_, rfl⟩
  obtain ⟨E3, hE3⟩ : ∃ X, X = digs k := ⟨_, rfl⟩
  obtain ⟨C, hC0⟩ : ∃ X, X = bigs true k := ⟨_, rfl⟩
  rw [← hE1, ← hE2, ← hE3] at hC
  rw [← hE1, ← hE2] at hQ
  rw [← hC0]
  rw [← hA1, ← hA2]
  have HA1 := hid hA1
  have HA2 := hid hA2
  have HE1 := hid hE1
  have HE2 := hid hE2
  have HE3 := hid hE3
  have HC := hid hC0
  have HhC := hid hC
  have HhQ := hid hQ
  clear hC hQ hA1 hA2 hE1 hE2 hE3 hC0
  have h1 := ((Row.new w 76 A1).alloc (.cells A2 76)).alloc (.cells (bigs false 0) 76)
  have h2 := (Row.new (w.alloc (.cells A1 76)) 76 A2).alloc (.cells (bigs false 0) 76)
  have hR := Row.new ((w.alloc (.cells A1 76)).alloc (.cells A2 76)) 76 (bigs false 0)
  have hU := (((Up.refl w).alloc (.cells A1 76)).alloc (.cells A2 76)).alloc (.cells (bigs false 0) 76)
  simp only [alloc_size] at h2 hR
  go_enter Tryd.func55, Tryd.ntmps55
  go_upto_region 1 with fail
  obtain ⟨V, hV⟩ : ∃ V, V = ((w.alloc (.cells A1 76)).alloc (.cells A2 76)).alloc (.cells (bigs false 0) 76) := ⟨_, rfl⟩
  rw [bigs_0] at hV
  rw [← hV]
  rw [← bigs_0] at hV
  rw [← hV] at h1 h2 hR hU
  have hz : V.heap.size = w.heap.size + 1 + 1 + 1 := by rw [hV]; simp
  clear hV
  have c1 := h1.cell 0
  have c2 := h2.cell 0
  rw [zeroC HA1] at c1
  rw [zeroC HA2] at c2
  go_wp2_with (first | (refine wpList_load_E rfl HA1 HE1 (.tmp 19) rfl (w.heap.size) rfl 76 h1 ?_) | (refine wpList_load_E rfl HA2 HE2 (.tmp 21) rfl (w.heap.size + 1) rfl 76 h2 ?_))
  refine Calls.mono (HhQ.out _) ?_; rintro e w1 ⟨rfl, hb⟩
  have z1 := hb.size
  replace h1 := (h1).mod (Mod.of_below hb Nil) (fun hf => hf)
  replace h2 := (h2).mod (Mod.of_below hb Nil) (fun hf => hf)
  replace hR := (hR).mod (Mod.of_below hb Nil) (fun hf => hf)
  replace hU := hU.trans hb
  clear hb c1 c2
  go_upto_region 4 with fail
  have MK : ∀ W, Row W w.heap.size 76 A1 → Row W (w.heap.size + 1) 76 A2 → (∃ cs : Array Value, Row W (w.heap.size + 1 + 1) 76 cs ∧ cs.size = 17) → Up w.heap.size w W → Row W w.heap.size 76 A1 ∧ W.cell? ⟨w.heap.size, 0, none⟩ = some (.bool false) ∧ Row W (w.heap.size + 1) 76 A2 ∧ W.cell? ⟨w.heap.size + 1, 0, none⟩ = some (.bool true) ∧ (∃ cs : Array Value, Row W (w.heap.size + 1 + 1) 76 cs ∧ cs.size = 17) ∧ Up w.heap.size w W := fun W h1 h2 h3 h5 => ⟨h1, by rw [h1.cell, zeroC HA1], h2, by rw [h2.cell, zeroC HA2], h3, h5⟩
  have MK := hid MK
  refine wp_region_noPanic ?_
  refine wp_region_held_drew (S := fun W => Row W w.heap.size 76 A1 ∧ W.cell? ⟨w.heap.size, 0, none⟩ = some (.bool false) ∧ Row W (w.heap.size + 1) 76 A2 ∧ W.cell? ⟨w.heap.size + 1, 0, none⟩ = some (.bool true) ∧ (∃ cs : Array Value, Row W (w.heap.size + 1 + 1) 76 cs ∧ cs.size = 17) ∧ Up w.heap.size w W) (by kernel_rfl) (MK.out _ h1.drew h2.drew ⟨_, hR.drew, bigs_size _ _⟩ hU.drew) (fun hHeld => ?_)
  refine wpAnyH_take (i := 0) (oi := { dst := some 25, op := Op.fieldAddr 76 (Operand.tmp 3) 0, type := 0, pos := "ref.go:107", after := #[], guard := none }) (v := ?_) rfl (by kernel_rfl) (by kernel_rfl) (by kernel_rfl) (fun _ _ _ h => h) (Or.inl ⟨by rfl, ?_⟩) hHeld ?_
  rotate_left
  · intro w' hSw; (try dsimp only at hSw); go_simp <;> with_reducible rfl
  try simp only [Act.put, List.setIfInBounds_toArray, List.set_cons_zero, List.set_cons_succ]
  refine wpAnyH_take (i := 1) (oi := { dst := some 26, op := Op.load 4 (Operand.tmp 25), type := 4, pos := "ref.go:107", after := #[{ on := 0, ground := Ground.data }], guard := none }) (v := ?_) rfl (by kernel_rfl) (by kernel_rfl) (by kernel_rfl) (fun _ _ _ h => h) (Or.inl ⟨by rfl, ?_⟩) hHeld ?_
  rotate_left
  · intro w' hSw; (try dsimp only at hSw); go_simp <;> with_reducible rfl
  try simp only [Act.put, List.setIfInBounds_toArray, List.set_cons_zero, List.set_cons_succ]
  refine wpAnyH_take (i := 2) (oi := { dst := some 27, op := Op.fieldAddr 76 (Operand.tmp 3) 1, type := 0, pos := "ref.go:107", after := #[], guard := none }) (v := ?_) rfl (by kernel_rfl) (by kernel_rfl) (by kernel_rfl) (fun _ _ _ h => h) (Or.inl ⟨by rfl, ?_⟩) hHeld ?_
  rotate_left
  · intro w' hSw; (try dsimp only at hSw); go_simp <;> with_reducible rfl
  try simp only [Act.put, List.setIfInBounds_toArray, List.set_cons_zero, List.set_cons_succ]
  refine wpAnyH_take (i := 3) (oi := { dst := some 28, op := Op.load 74 (Operand.tmp 27), type := 74, pos := "ref.go:107", after := #[{ on := 2, ground := Ground.data }], guard := none }) (v := .agg E2) rfl (by kernel_rfl) (by kernel_rfl) (by kernel_rfl) (fun _ _ _ h => h) (Or.inl ⟨by rfl, fun W hW => exec_load_E HA2 HE2 _ rfl (w.heap.size + 1) rfl 76 hW.2.2.1⟩) hHeld ?_
  try simp only [Act.put, List.setIfInBounds_toArray, List.set_cons_zero, List.set_cons_succ]
  refine wpAnyH_take (i := 4) (oi := { dst := some 29, op := Op.fieldAddr 76 (Operand.tmp 2) 1, type := 0, pos := "ref.go:107", after := #[], guard := none }) (v := ?_) rfl (by kernel_rfl) (by kernel_rfl) (by kernel_rfl) (fun _ _ _ h => h) (Or.inl ⟨by rfl, ?_⟩) hHeld ?_
  rotate_left
  · intro w' hSw; (try dsimp only at hSw); go_simp <;> with_reducible rfl
  try simp only [Act.put, List.setIfInBounds_toArray, List.set_cons_zero, List.set_cons_succ]
  refine wpAnyH_take (i := 5) (oi := { dst := some 30, op := Op.load 74 (Operand.tmp 29), type := 74, pos := "ref.go:107", after := #[{ on := 4, ground := Ground.data }], guard := none }) (v := .agg E1) rfl (by kernel_rfl) (by kernel_rfl) (by kernel_rfl) (fun _ _ _ h => h) (Or.inl ⟨by rfl, fun W hW => exec_load_E HA1 HE1 _ rfl (w.heap.size) rfl 76 hW.1⟩) hHeld ?_
  try simp only [Act.put, List.setIfInBounds_toArray, List.set_cons_zero, List.set_cons_succ]
  refine wpAnyH_ready (rs := [6]) (by kernel_rfl) (by simp) ?_
  refine AllReadyH.cons (o := { dst := some 31, op := Op.call { callee := Callee.value (Operand.func 89), args := #[Operand.tmp 28, Operand.tmp 30], argTypes := #[74, 74] }, type := 74, pos := "ref.go:107", after := #[{ on := 3, ground := Ground.data }, { on := 5, ground := Ground.data }], guard := none }) rfl (fun K hK => ?_) AllReadyH.nil
  go_simp
  refine Calls.mono (HhC.out _) ?_; rintro e w9 ⟨rfl, hb⟩
  refine hK.out _ _ (MK.out _ ((hHeld.1).mod (Mod.of_below hb Nil) (fun hf => hf)) ((hHeld.2.2.1).mod (Mod.of_below hb Nil) (fun hf => hf)) (by obtain ⟨cs, h1, h2⟩ := hHeld.2.2.2.2.1; exact ⟨cs, (h1).mod (Mod.of_below hb Nil) (fun hf => hf), h2⟩) (hHeld.2.2.2.2.2.trans hb)) (fun hHeld => ?_)
  clear hK K
  try simp only [Act.put, List.setIfInBounds_toArray, List.set_cons_zero, List.set_cons_succ]
  refine wpAnyH_take (i := 7) (oi := { dst := some 32, op := Op.build 76 #[(0, Operand.tmp 26), (1, Operand.tmp 31)], type := 76, pos := "ref.go:107", after := #[{ on := 1, ground := Ground.data }, { on := 6, ground := Ground.data }], guard := none }) (v := .agg C) rfl (by kernel_rfl) (by kernel_rfl) (by kernel_rfl) (fun _ _ _ h => h) (Or.inl ⟨by rfl, fun W hW => exec_build_C HC HE3 _ _ rfl rfl rfl⟩) hHeld ?_
  try simp only [Act.put, List.setIfInBounds_toArray, List.set_cons_zero, List.set_cons_succ]
  obtain ⟨cs, hcs, hcz⟩ := hHeld.2.2.2.2.1
  refine wpAnyH_ready (rs := [8]) (by kernel_rfl) (by simp) ?_
  refine AllReadyH.cons (o := { dst := none, op := Op.store 76 (Operand.tmp 4) (Operand.tmp 32), type := 0, pos := "ref.go:107", after := #[{ on := 7, ground := Ground.data }, { on := 6, ground := Ground.chain }, { on := 0, ground := Ground.phase }, { on := 1, ground := Ground.phase }, { on := 2, ground := Ground.phase }, { on := 3, ground := Ground.phase }, { on := 4, ground := Ground.phase }, { on := 5, ground := Ground.phase }, { on := 6, ground := Ground.phase }, { on := 7, ground := Ground.phase }], guard := none }) rfl (fun K hK => ?_) AllReadyH.nil
  refine (if_pos (by rfl)).mpr ?_
  refine wp_store_row 76 _ _ rfl (w.heap.size + 1 + 1) C rfl rfl 76 cs hcs (size_Bn (sizeC HC)) (by rw [hcz, sizeC HC]) (oneC HC) ?_
  refine hK.out _ _ (MK.out _ (hHeld.1.farRow (by omega) C) (hHeld.2.2.1.farRow (by omega) C) ⟨C, hcs.putRow C, sizeC HC⟩ (hHeld.2.2.2.2.2.setRow (by omega) C)) (fun hHeld => ?_)
  clear hK K
  try simp only [Act.put, List.setIfInBounds_toArray, List.set_cons_zero, List.set_cons_succ]
  refine wpAnyH_done (by kernel_rfl) ?_ _
  refine NoPanic.normal ?_
  have UPX := hHeld.2.2.2.2.2
  go_wp2_with fail
  exact bodyPost_ret (v := .agg C) (results_cell_row Tryd.results55 _ _ (w.heap.size + 1 + 1) 76 C (0, 0) _ rfl (hcs.putRow _) Tryd.underlying76 rfl (size_Bn (sizeC HC))) rfl ⟨rfl, UPX.below⟩

set_option maxRecDepth 100000 in
set_option maxHeartbeats 2000000 in
theorem sum_ft_more (w : World) (m n : Nat) (hm : m < BP 16) (hn : n < BP 16) (hl : n ≤ m) : Calls Tryd.prog 55 #[BigV false m, BigV true n] w fun e w' => e = .returned (BigV false (m - n)) ∧ Below w.heap.size w w' := by
  have hC := fun w => rsub_any w m n hm hl
  have hQ := fun w => rcmp_any w m n hm hn
  have hc : ∃ c : Int, cmpN m n = c ∧ 0 ≤ c := ⟨_, rfl, by unfold cmpN; rw [if_neg (by omega)]; split <;> decide⟩
  obtain ⟨c, hc, hc0⟩ := hc
  rw [hc] at hQ
  have hZ := fun w => rzero_any w (m - n) (Nat.lt_of_le_of_lt (Nat.sub_le _ _) hm)
  clear hc hm hn hl
  obtain ⟨k, hk⟩ : ∃ k, k = m - n := ⟨_, rfl⟩
  rw [← hk] at hC hZ ⊢
  clear hk
  obtain ⟨z, hz⟩ : ∃ z, z = decide (k = 0) := ⟨_, rfl⟩
  rw [← hz] at hZ
  clear hz
  unfold DV at hC hQ hZ
  unfold BigV
  obtain ⟨A1, hA1⟩ : ∃ X, X = bigs false m := ⟨_, rfl⟩
  obtain ⟨A2, hA2⟩ : ∃ X, X = bigs true n := ⟨_, rfl⟩
  obtain ⟨E1, hE1⟩ : ∃ X, X = digs m := ⟨_, rfl⟩
  obtain ⟨E2, hE2⟩ : ∃ X, X = digs n := ⟨_, rfl⟩
  obtain ⟨E3, hE3⟩ : ∃ X, X = digs k := ⟨_, rfl⟩
  obtain ⟨C, hC0⟩ : ∃ X, X = bigs false k := ⟨_, rfl⟩
  rw [← hE1, ← hE2, ← hE3] at hC
  rw [← hE1, ← hE2] at hQ
  rw [← hE3] at hZ
  rw [← hC0]
  rw [← hA1, ← hA2]
  have HA1 := hid hA1
  have HA2 := hid hA2
  have HE1 := hid hE1
  have HE2 := hid hE2
  have HE3 := hid hE3
  have HC := hid hC0
  have HhC := hid hC
  have HhQ := hid hQ
  have HZ := hid hZ
  clear hC hQ hZ hA1 hA2 hE1 hE2 hE3 hC0
  have h1 := ((Row.new w 76 A1).alloc (.cells A2 76)).alloc (.cells (bigs false 0) 76)
  have h2 := (Row.new (w.alloc (.cells A1 76)) 76 A2).alloc (.cells (bigs false 0) 76)
  have hR := Row.new ((w.alloc (.cells A1 76)).alloc (.cells A2 76)) 76 (bigs false 0)
  have hU := (((Up.refl w).alloc (.cells A1 76)).alloc (.cells A2 76)).alloc (.cells (bigs false 0) 76)
  simp only [alloc_size] at h2 hR
  go_enter Tryd.func55, Tryd.ntmps55
  go_upto_region 1 with fail
  obtain ⟨V, hV⟩ : ∃ V, V = ((w.alloc (.cells A1 76)).alloc (.cells A2 76)).alloc (.cells (bigs false 0) 76) := ⟨_, rfl⟩
  rw [bigs_0] at hV
  rw [← hV]
  rw [← bigs_0] at hV
  rw [← hV] at h1 h2 hR hU
  have hz : V.heap.size = w.heap.size + 1 + 1 + 1 := by rw [hV]; simp
  clear hV
  have c1 := h1.cell 0
  have c2 := h2.cell 0
  rw [zeroC HA1] at c1
  rw [zeroC HA2] at c2
  go_wp2_with (first | (refine wpList_load_E rfl HA1 HE1 (.tmp 19) rfl (w.heap.size) rfl 76 h1 ?_) | (refine wpList_load_E rfl HA2 HE2 (.tmp 21) rfl (w.heap.size + 1) rfl 76 h2 ?_))
  refine Calls.mono (HhQ.out _) ?_; rintro e w1 ⟨rfl, hb⟩
  have z1 := hb.size
  replace h1 := (h1).mod (Mod.of_below hb Nil) (fun hf => hf)
  replace h2 := (h2).mod (Mod.of_below hb Nil) (fun hf => hf)
  replace hR := (hR).mod (Mod.of_below hb Nil) (fun hf => hf)
  replace hU := hU.trans hb
  clear hb c1 c2
  go_wp2_with (first | (refine wpList_load_E rfl HA1 HE1 (.tmp 33) rfl (w.heap.size) rfl 76 h1 ?_) | (refine wpList_load_E rfl HA2 HE2 (.tmp 35) rfl (w.heap.size + 1) rfl 76 h2 ?_))
  refine Calls.mono (HhC.out _) ?_; rintro e w2 ⟨rfl, hb⟩
  have z2 := hb.size
  replace h1 := (h1).mod (Mod.of_below hb Nil) (fun hf => hf)
  replace h2 := (h2).mod (Mod.of_below hb Nil) (fun hf => hf)
  replace hR := (hR).mod (Mod.of_below hb Nil) (fun hf => hf)
  replace hU := hU.trans hb
  clear hb
  have h5 := (Row.new w2 74 #[.int .u64 0, .int .u64 0, .int .u64 0, .int .u64 0, .int .u64 0, .int .u64 0, .int .u64 0, .int .u64 0, .int .u64 0, .int .u64 0, .int .u64 0, .int .u64 0, .int .u64 0, .int .u64 0, .int .u64 0, .int .u64 0]).putRow E3
  replace h1 := (h1.alloc (.cells #[.int .u64 0, .int .u64 0, .int .u64 0, .int .u64 0, .int .u64 0, .int .u64 0, .int .u64 0, .int .u64 0, .int .u64 0, .int .u64 0, .int .u64 0, .int .u64 0, .int .u64 0, .int .u64 0, .int .u64 0, .int .u64 0] 74)).farRow (g' := w2.heap.size) (by omega) E3
  replace h2 := (h2.alloc (.cells #[.int .u64 0, .int .u64 0, .int .u64 0, .int .u64 0, .int .u64 0, .int .u64 0, .int .u64 0, .int .u64 0, .int .u64 0, .int .u64 0, .int .u64 0, .int .u64 0, .int .u64 0, .int .u64 0, .int .u64 0, .int .u64 0] 74)).farRow (g' := w2.heap.size) (by omega) E3
  replace hR := (hR.alloc (.cells #[.int .u64 0, .int .u64 0, .int .u64 0, .int .u64 0, .int .u64 0, .int .u64 0, .int .u64 0, .int .u64 0, .int .u64 0, .int .u64 0, .int .u64 0, .int .u64 0, .int .u64 0, .int .u64 0, .int .u64 0, .int .u64 0] 74)).farRow (g' := w2.heap.size) (by omega) E3
  replace hU := (hU.alloc (.cells #[.int .u64 0, .int .u64 0, .int .u64 0, .int .u64 0, .int .u64 0, .int .u64 0, .int .u64 0, .int .u64 0, .int .u64 0, .int .u64 0, .int .u64 0, .int .u64 0, .int .u64 0, .int .u64 0, .int .u64 0, .int .u64 0] 74)).setRow (p := w2.heap.size) (by omega) E3
  go_upto_region 6 with (refine wpList_store_row rfl 74 _ _ rfl (w2.heap.size) E3 rfl rfl 74 #[.int .u64 0, .int .u64 0, .int .u64 0, .int .u64 0, .int .u64 0, .int .u64 0, .int .u64 0, .int .u64 0, .int .u64 0, .int .u64 0, .int .u64 0, .int .u64 0, .int .u64 0, .int .u64 0, .int .u64 0, .int .u64 0] (Row.new w2 74 #[.int .u64 0, .int .u64 0, .int .u64 0, .int .u64 0, .int .u64 0, .int .u64 0, .int .u64 0, .int .u64 0, .int .u64 0, .int .u64 0, .int .u64 0, .int .u64 0, .int .u64 0, .int .u64 0, .int .u64 0, .int .u64 0]) (size_De HE3) (sizeE HE3).symm (oneE HE3) ?_)
  obtain ⟨V2, hV2⟩ : ∃ V2, V2 = (w2.alloc (.cells #[.int .u64 0, .int .u64 0, .int .u64 0, .int .u64 0, .int .u64 0, .int .u64 0, .int .u64 0, .int .u64 0, .int .u64 0, .int .u64 0, .int .u64 0, .int .u64 0, .int .u64 0, .int .u64 0, .int .u64 0, .int .u64 0] 74)).setRow w2.heap.size E3 := ⟨_, rfl⟩
  rw [← hV2] at h1 h2 hR h5 hU ⊢
  clear hV2
  obtain ⟨g, hg⟩ : ∃ g, g = w2.heap.size := ⟨_, rfl⟩
  rw [← hg] at h5 z2 ⊢
  clear hg
  have MK : ∀ W, Row W w.heap.size 76 A1 → Row W (w.heap.size + 1) 76 A2 → (∃ cs : Array Value, Row W (w.heap.size + 1 + 1) 76 cs ∧ cs.size = 17) → Row W g 74 E3 → Up w.heap.size w W → Row W w.heap.size 76 A1 ∧ W.cell? ⟨w.heap.size, 0, none⟩ = some (.bool false) ∧ Row W (w.heap.size + 1) 76 A2 ∧ W.cell? ⟨w.heap.size + 1, 0, none⟩ = some (.bool true) ∧ (∃ cs : Array Value, Row W (w.heap.size + 1 + 1) 76 cs ∧ cs.size = 17) ∧ Row W g 74 E3 ∧ Up w.heap.size w W := fun W h1 h2 h3 h4 h5 => ⟨h1, by rw [h1.cell, zeroC HA1], h2, by rw [h2.cell, zeroC HA2], h3, h4, h5⟩
  have MK := hid MK
  refine wp_region_noPanic ?_
  refine wp_region_held_drew (S := fun W => Row W w.heap.size 76 A1 ∧ W.cell? ⟨w.heap.size, 0, none⟩ = some (.bool false) ∧ Row W (w.heap.size + 1) 76 A2 ∧ W.cell? ⟨w.heap.size + 1, 0, none⟩ = some (.bool true) ∧ (∃ cs : Array Value, Row W (w.heap.size + 1 + 1) 76 cs ∧ cs.size = 17) ∧ Row W g 74 E3 ∧ Up w.heap.size w W) (by kernel_rfl) (MK.out _ h1.drew h2.drew ⟨_, hR.drew, bigs_size _ _⟩ h5.drew hU.drew) (fun hHeld => ?_)
  refine wpAnyH_take (i := 0) (oi := { dst := some 38, op := Op.fieldAddr 76 (Operand.tmp 2) 0, type := 0, pos := "ref.go:110", after := #[], guard := none }) (v := ?_) rfl (by kernel_rfl) (by kernel_rfl) (by kernel_rfl) (fun _ _ _ h => h) (Or.inl ⟨by rfl, ?_⟩) hHeld ?_
  rotate_left
  · intro w' hSw; (try dsimp only at hSw); go_simp <;> with_reducible rfl
  try simp only [Act.put, List.setIfInBounds_toArray, List.set_cons_zero, List.set_cons_succ]
  refine wpAnyH_take (i := 1) (oi := { dst := some 39, op := Op.load 4 (Operand.tmp 38), type := 4, pos := "ref.go:110", after := #[{ on := 0, ground := Ground.data }], guard := none }) (v := ?_) rfl (by kernel_rfl) (by kernel_rfl) (by kernel_rfl) (fun _ _ _ h => h) (Or.inl ⟨by rfl, ?_⟩) hHeld ?_
  rotate_left
  · intro w' hSw; (try dsimp only at hSw); go_simp <;> with_reducible rfl
  try simp only [Act.put, List.setIfInBounds_toArray, List.set_cons_zero, List.set_cons_succ]
  refine wpAnyH_take (i := 2) (oi := { dst := some 40, op := Op.move (Operand.tmp 39), type := 4, pos := "ref.go:110", after := #[{ on := 1, ground := Ground.data }], guard := none }) (v := ?_) rfl (by kernel_rfl) (by kernel_rfl) (by kernel_rfl) (fun _ _ _ h => h) (Or.inl ⟨by rfl, ?_⟩) hHeld ?_
  rotate_left
  · intro w' hSw; (try dsimp only at hSw); go_simp <;> with_reducible rfl
  try simp only [Act.put, List.setIfInBounds_toArray, List.set_cons_zero, List.set_cons_succ]
  refine wpAnyH_take (i := 3) (oi := { dst := some 41, op := Op.load 74 (Operand.tmp 5), type := 74, pos := "ref.go:110", after := #[{ on := 2, ground := Ground.guard }], guard := some (2, true) }) (v := undef) rfl (by kernel_rfl) (by kernel_rfl) (by kernel_rfl) (fun _ _ _ h => h) (Or.inr ⟨by rfl, rfl⟩) hHeld ?_
  try simp only [Act.put, List.setIfInBounds_toArray, List.set_cons_zero, List.set_cons_succ]
  refine wpAnyH_take (i := 4) (oi := { dst := some 42, op := Op.call { callee := Callee.value (Operand.func 64), args := #[Operand.tmp 41], argTypes := #[74] }, type := 4, pos := "ref.go:110", after := #[{ on := 3, ground := Ground.data }, { on := 2, ground := Ground.chain }, { on := 2, ground := Ground.guard }], guard := some (2, true) }) (v := undef) rfl (by kernel_rfl) (by kernel_rfl) (by kernel_rfl) (fun _ _ _ h => h) (Or.inr ⟨by rfl, rfl⟩) hHeld ?_
  try simp only [Act.put, List.setIfInBounds_toArray, List.set_cons_zero, List.set_cons_succ]
  refine wpAnyH_take (i := 5) (oi := { dst := some 43, op := Op.unOp UnOp.not 4 (Operand.tmp 42), type := 4, pos := "ref.go:110", after := #[{ on := 4, ground := Ground.data }, { on := 2, ground := Ground.guard }], guard := some (2, true) }) (v := undef) rfl (by kernel_rfl) (by kernel_rfl) (by kernel_rfl) (fun _ _ _ h => h) (Or.inr ⟨by rfl, rfl⟩) hHeld ?_
  try simp only [Act.put, List.setIfInBounds_toArray, List.set_cons_zero, List.set_cons_succ]
  refine wpAnyH_take (i := 6) (oi := { dst := some 44, op := Op.pick (Operand.tmp 40) (Operand.tmp 43) (Operand.const (Value.bool false)), type := 4, pos := "ref.go:110", after := #[{ on := 2, ground := Ground.data }, { on := 5, ground := Ground.data }], guard := none }) (v := ?_) rfl (by kernel_rfl) (by kernel_rfl) (by kernel_rfl) (fun _ _ _ h => h) (Or.inl ⟨by rfl, ?_⟩) hHeld ?_
  rotate_left
  · intro w' hSw; (try dsimp only at hSw); go_simp <;> with_reducible rfl
  try simp only [Act.put, List.setIfInBounds_toArray, List.set_cons_zero, List.set_cons_succ]
  refine wpAnyH_take (i := 7) (oi := { dst := some 45, op := Op.load 74 (Operand.tmp 5), type := 74, pos := "ref.go:110", after := #[], guard := none }) (v := .agg E3) rfl (by kernel_rfl) (by kernel_rfl) (by kernel_rfl) (fun _ _ _ h => h) (Or.inl ⟨by rfl, fun W hW => exec_load_row 74 _ rfl g rfl 74 E3 _ Tryd.underlying74 rfl (size_De HE3) W hW.2.2.2.2.2.1⟩) hHeld ?_
  try simp only [Act.put, List.setIfInBounds_toArray, List.set_cons_zero, List.set_cons_succ]
  refine wpAnyH_take (i := 8) (oi := { dst := some 46, op := Op.build 76 #[(0, Operand.tmp 44), (1, Operand.tmp 45)], type := 76, pos := "ref.go:110", after := #[{ on := 6, ground := Ground.data }, { on := 7, ground := Ground.data }], guard := none }) (v := .agg C) rfl (by kernel_rfl) (by kernel_rfl) (by kernel_rfl) (fun _ _ _ h => h) (Or.inl ⟨by rfl, fun W hW => exec_build_C HC HE3 _ _ rfl rfl rfl⟩) hHeld ?_
  try simp only [Act.put, List.setIfInBounds_toArray, List.set_cons_zero, List.set_cons_succ]
  obtain ⟨cs, hcs, hcz⟩ := hHeld.2.2.2.2.1
  refine wpAnyH_ready (rs := [9]) (by kernel_rfl) (by simp) ?_
  refine AllReadyH.cons (o := { dst := none, op := Op.store 76 (Operand.tmp 4) (Operand.tmp 46), type := 0, pos := "ref.go:110", after := #[{ on := 8, ground := Ground.data }, { on := 4, ground := Ground.chain }, { on := 0, ground := Ground.phase }, { on := 1, ground := Ground.phase }, { on := 2, ground := Ground.phase }, { on := 3, ground := Ground.phase }, { on := 4, ground := Ground.phase }, { on := 5, ground := Ground.phase }, { on := 6, ground := Ground.phase }, { on := 7, ground := Ground.phase }, { on := 8, ground := Ground.phase }], guard := none }) rfl (fun K hK => ?_) AllReadyH.nil
  refine (if_pos (by rfl)).mpr ?_
  refine wp_store_row 76 _ _ rfl (w.heap.size + 1 + 1) C rfl rfl 76 cs hcs (size_Bn (sizeC HC)) (by rw [hcz, sizeC HC]) (oneC HC) ?_
  refine hK.out _ _ (MK.out _ (hHeld.1.farRow (by omega) C) (hHeld.2.2.1.farRow (by omega) C) ⟨C, hcs.putRow C, sizeC HC⟩ (hHeld.2.2.2.2.2.1.farRow (by omega) C) (hHeld.2.2.2.2.2.2.setRow (by omega) C)) (fun hHeld => ?_)
  clear hK K
  try simp only [Act.put, List.setIfInBounds_toArray, List.set_cons_zero, List.set_cons_succ]
  refine wpAnyH_done (by kernel_rfl) ?_ _
  refine NoPanic.normal ?_
  have UPX := hHeld.2.2.2.2.2.2
  go_wp2_with fail
  exact bodyPost_ret (v := .agg C) (results_cell_row Tryd.results55 _ _ (w.heap.size + 1 + 1) 76 C (0, 0) _ rfl (hcs.putRow _) Tryd.underlying76 rfl (size_Bn (sizeC HC))) rfl ⟨rfl, UPX.below⟩

theorem rsum_any (w : World) (x y : Int) (hx : x.natAbs < BP 15) (hy : y.natAbs < BP 15) : Calls Tryd.prog 55 #[BigZ x, BigZ y] w fun e w' => e = .returned (BigZ (x + y)) ∧ Below w.heap.size w w' := by
  have h15 : BP 16 = BP 15 * 4294967296 := BP_succ 15
  have hx' : x.natAbs < BP 16 := by omega
  have hy' : y.natAbs < BP 16 := by omega
  have hxy : x.natAbs + y.natAbs < BP 16 := by omega
  by_cases h : decide (x < 0) = decide (y < 0)
  · rw [← sum_same h]
    unfold BigZ
    rw [← h]
    cases decide (x < 0) with
    | false => exact sum_ff w _ _ hxy
    | true => exact sum_tt w _ _ hxy
  · by_cases hl : x.natAbs < y.natAbs
    · rw [← sum_less h hl]
      unfold BigZ
      by_cases h1 : x < 0 <;> by_cases h2 : y < 0
      · simp [h1, h2] at h
      · simpa [h1, h2] using sum_tf_less w _ _ hx' hy' hl
      · simpa [h1, h2] using sum_ft_less w _ _ hx' hy' hl
      · simp [h1, h2] at h
    · rw [← sum_more h (by omega)]
      unfold BigZ
      by_cases h1 : x < 0 <;> by_cases h2 : y < 0
      · simp [h1, h2] at h
      · simpa [h1, h2] using sum_tf_more w _ _ hx' hy' (by omega)
      · simpa [h1, h2] using sum_ft_more w _ _ hx' hy' (by omega)
      · simp [h1, h2] at h
end Go.Proofs.YtfalllekhcocgaaDoor
