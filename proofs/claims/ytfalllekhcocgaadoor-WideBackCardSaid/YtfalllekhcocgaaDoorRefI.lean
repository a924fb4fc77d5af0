/-
  The reference's products of numbers with signs.
-/
import Derived.Test.YtfalllekhcocgaaDoorRefH
namespace Go.Proofs.YtfalllekhcocgaaDoor
open Go.RowKit

section
variable {o : Oper} {a : Act} {W : World} {C E : Array Value} {b : Bool} {n : Nat}
/-- the same steps, the cells under letters -/
theorem exec_load_E (hC : Hid (C = bigs b n)) (hE : Hid (E = digs n)) (x : Operand) (ho : o.op = .load 74 x) (g : Nat) (hx : a.eval x = .pointer (some ⟨g, 1, none⟩)) (t : TypeId) (hg : Row W g t C) :
    (execOp a.eval o).run Tryd.prog W = .ok (.value (.agg E)) W := by
  rw [hE.out]
  rw [hC.out] at hg
  exact exec_load_digs x ho g hx t b n W hg
theorem exec_build_C (hC : Hid (C = bigs b n)) (hE : Hid (E = digs n)) (x y : Operand) (ho : o.op = .build 76 #[(0, x), (1, y)]) (hx : a.eval x = .bool b) (hy : a.eval y = .agg E) :
    (execOp a.eval o).run Tryd.prog W = .ok (.value (.agg C)) W := by
  rw [hC.out]
  rw [hE.out] at hy
  exact exec_build_big x y ho b n hx hy W
theorem wpList_load_E {ops : Array Oper} {rest : List Oper} {Q : Exit → Act → World → Prop} (hgd : o.guard = none) (hC : Hid (C = bigs b n)) (hE : Hid (E = digs n)) (x : Operand) (ho : o.op = .load 74 x) (g : Nat) (hx : a.eval x = .pointer (some ⟨g, 1, none⟩)) (t : TypeId) (hg : Row W g t C)
    (h : wpList Tryd.prog ops Q rest (a.put o.dst (.agg E)) W) : wpList Tryd.prog ops Q (o :: rest) a W :=
  wpList_plain hgd fun K hK => by
    unfold Oper.wp
    rw [exec_load_E hC hE x ho g hx t hg]
    exact hK _ _ h
theorem sizeC (hC : Hid (C = bigs b n)) : C.size = 17 := by rw [hC.out]; exact bigs_size _ _
theorem sizeE (hE : Hid (E = digs n)) : E.size = 16 := by rw [hE.out]; exact digs_size _
theorem size_De (hE : Hid (E = digs n)) : (Tryd.prog.info? 74).map (·.size) = some E.size := by rw [hE.out]; exact size_Dn n
theorem oneC (hC : Hid (C = bigs b n)) : C.all (·.oneCell') = true := by rw [hC.out]; exact bigs_one _ _
theorem oneE (hE : Hid (E = digs n)) : E.all (·.oneCell') = true := by rw [hE.out]; exact digs_one _
theorem zeroC (hC : Hid (C = bigs b n)) : C[0]? = some (.bool b) := by rw [hC.out]; exact bigs_get0 _ _
end

set_option maxRecDepth 100000 in
set_option maxHeartbeats 2000000 in
theorem times_ff (w : World) (m n : Nat) (hm : m < BP 8) (hn : n < BP 7) : Calls Tryd.prog 63 #[BigV false m, BigV false n] w fun e w' => e = .returned (BigV false (m * n)) ∧ Below w.heap.size w w' := by
  have hC := fun w => rmul_any w m n hm hn
  have hmn : m * n < BP 16 := by
    have h1 : m * n ≤ m * BP 7 := Nat.mul_le_mul_left _ (Nat.le_of_lt hn)
    have h2 : m * BP 7 < BP 8 * BP 7 := Nat.mul_lt_mul_of_pos_right hm (BP_pos 7)
    rw [← BP_add] at h2
    have h3 : BP (8 + 7) ≤ BP 16 := BP_le (by decide)
    omega
  have hZ := fun w => rzero_any w (m * n) hmn
  clear hmn hm hn
  obtain ⟨k, hk⟩ : ∃ k, k = m * n := ⟨_, rfl⟩
  rw [← hk] at hC hZ ⊢
  clear hk
  obtain ⟨z, hz⟩ : ∃ z, z = decide (k = 0) := ⟨_, rfl⟩
  rw [← hz] at hZ
  clear hz
  unfold DV at hC hZ
  unfold BigV
  obtain ⟨A1, hA1⟩ : ∃ X, X = bigs false m := ⟨_, rfl⟩
  obtain ⟨A2, hA2⟩ : ∃ X, X = bigs false n := ⟨_, rfl⟩
  obtain ⟨E1, hE1⟩ : ∃ X, X = digs m := ⟨_, rfl⟩
  obtain ⟨E2, hE2⟩ : ∃ X, X = digs n := ⟨_, rfl⟩
  obtain ⟨E3, hE3⟩ : ∃ X, X = digs k := ⟨_, rfl⟩
  obtain ⟨C, hC0⟩ : ∃ X, X = bigs false k := ⟨_, rfl⟩
  rw [← hE1, ← hE2, ← hE3] at hC
  rw [← hE3] at hZ
  rw [← hC0]
  rw [← hA1, ← hA2]
  have HA1 := hid hA1
  have HA2 := hid hA2
  have HE1 := hid hE1
  have HE2 := hid hE2
  have HE3 := hid hE3
  have HC := hid hC0
  have HM := hid hC
  have HZ := hid hZ
  clear hC hZ hA1 hA2 hE1 hE2 hE3 hC0
  have h1 := ((Row.new w 76 A1).alloc (.cells A2 76)).alloc (.cells (bigs false 0) 76)
  have h2 := (Row.new (w.alloc (.cells A1 76)) 76 A2).alloc (.cells (bigs false 0) 76)
  have hR := Row.new ((w.alloc (.cells A1 76)).alloc (.cells A2 76)) 76 (bigs false 0)
  have hU := (((Up.refl w).alloc (.cells A1 76)).alloc (.cells A2 76)).alloc (.cells (bigs false 0) 76)
  simp only [alloc_size] at h2 hR
  go_enter Tryd.func63, Tryd.ntmps63
  go_upto_region 1 with fail
  obtain ⟨V, hV⟩ : ∃ V, V = ((w.alloc (.cells A1 76)).alloc (.cells A2 76)).alloc (.cells (bigs false 0) 76) := ⟨_, rfl⟩
  rw [bigs_0] at hV
  rw [← hV]
  rw [← bigs_0] at hV
  rw [← hV] at h1 h2 hR hU
  have hz : V.heap.size = w.heap.size + 1 + 1 + 1 := by rw [hV]; simp
  clear hV
  go_wp2_with (first | (refine wpList_load_E rfl HA1 HE1 (.tmp 6) rfl (w.heap.size) rfl 76 h1 ?_) | (refine wpList_load_E rfl HA2 HE2 (.tmp 8) rfl (w.heap.size + 1) rfl 76 h2 ?_))
  refine Calls.mono (HM.out _) ?_; rintro e w1 ⟨rfl, hb⟩
  have z1 := hb.size
  replace h1 := (h1).mod (Mod.of_below hb Nil) (fun hf => hf)
  replace h2 := (h2).mod (Mod.of_below hb Nil) (fun hf => hf)
  replace hR := (hR).mod (Mod.of_below hb Nil) (fun hf => hf)
  replace hU := hU.trans hb
  clear hb
  have h5 := (Row.new w1 74 #[.int .u64 0, .int .u64 0, .int .u64 0, .int .u64 0, .int .u64 0, .int .u64 0, .int .u64 0, .int .u64 0, .int .u64 0, .int .u64 0, .int .u64 0, .int .u64 0, .int .u64 0, .int .u64 0, .int .u64 0, .int .u64 0]).putRow E3
  replace h1 := (h1.alloc (.cells #[.int .u64 0, .int .u64 0, .int .u64 0, .int .u64 0, .int .u64 0, .int .u64 0, .int .u64 0, .int .u64 0, .int .u64 0, .int .u64 0, .int .u64 0, .int .u64 0, .int .u64 0, .int .u64 0, .int .u64 0, .int .u64 0] 74)).farRow (g' := w1.heap.size) (by omega) E3
  replace h2 := (h2.alloc (.cells #[.int .u64 0, .int .u64 0, .int .u64 0, .int .u64 0, .int .u64 0, .int .u64 0, .int .u64 0, .int .u64 0, .int .u64 0, .int .u64 0, .int .u64 0, .int .u64 0, .int .u64 0, .int .u64 0, .int .u64 0, .int .u64 0] 74)).farRow (g' := w1.heap.size) (by omega) E3
  replace hR := (hR.alloc (.cells #[.int .u64 0, .int .u64 0, .int .u64 0, .int .u64 0, .int .u64 0, .int .u64 0, .int .u64 0, .int .u64 0, .int .u64 0, .int .u64 0, .int .u64 0, .int .u64 0, .int .u64 0, .int .u64 0, .int .u64 0, .int .u64 0] 74)).farRow (g' := w1.heap.size) (by omega) E3
  replace hU := (hU.alloc (.cells #[.int .u64 0, .int .u64 0, .int .u64 0, .int .u64 0, .int .u64 0, .int .u64 0, .int .u64 0, .int .u64 0, .int .u64 0, .int .u64 0, .int .u64 0, .int .u64 0, .int .u64 0, .int .u64 0, .int .u64 0, .int .u64 0] 74)).setRow (p := w1.heap.size) (by omega) E3
  go_upto_region 2 with (refine wpList_store_row rfl 74 _ _ rfl (w1.heap.size) E3 rfl rfl 74 #[.int .u64 0, .int .u64 0, .int .u64 0, .int .u64 0, .int .u64 0, .int .u64 0, .int .u64 0, .int .u64 0, .int .u64 0, .int .u64 0, .int .u64 0, .int .u64 0, .int .u64 0, .int .u64 0, .int .u64 0, .int .u64 0] (Row.new w1 74 #[.int .u64 0, .int .u64 0, .int .u64 0, .int .u64 0, .int .u64 0, .int .u64 0, .int .u64 0, .int .u64 0, .int .u64 0, .int .u64 0, .int .u64 0, .int .u64 0, .int .u64 0, .int .u64 0, .int .u64 0, .int .u64 0]) (size_De HE3) (sizeE HE3).symm (oneE HE3) ?_)
  obtain ⟨V2, hV2⟩ : ∃ V2, V2 = (w1.alloc (.cells #[.int .u64 0, .int .u64 0, .int .u64 0, .int .u64 0, .int .u64 0, .int .u64 0, .int .u64 0, .int .u64 0, .int .u64 0, .int .u64 0, .int .u64 0, .int .u64 0, .int .u64 0, .int .u64 0, .int .u64 0, .int .u64 0] 74)).setRow w1.heap.size E3 := ⟨_, rfl⟩
  rw [← hV2] at h1 h2 hR h5 hU ⊢
  clear hV2
  obtain ⟨g, hg⟩ : ∃ g, g = w1.heap.size := ⟨_, rfl⟩
  rw [← hg] at h5 z1 ⊢
  clear hg
  have MK : ∀ W, Row W w.heap.size 76 A1 → Row W (w.heap.size + 1) 76 A2 → (∃ cs : Array Value, Row W (w.heap.size + 1 + 1) 76 cs ∧ cs.size = 17) → Row W g 74 E3 → Up w.heap.size w W → Row W w.heap.size 76 A1 ∧ W.cell? ⟨w.heap.size, 0, none⟩ = some (.bool false) ∧ Row W (w.heap.size + 1) 76 A2 ∧ W.cell? ⟨w.heap.size + 1, 0, none⟩ = some (.bool false) ∧ (∃ cs : Array Value, Row W (w.heap.size + 1 + 1) 76 cs ∧ cs.size = 17) ∧ Row W g 74 E3 ∧ Up w.heap.size w W := fun W h1 h2 h3 h4 h5 => ⟨h1, by rw [h1.cell, zeroC HA1], h2, by rw [h2.cell, zeroC HA2], h3, h4, h5⟩
  have MK := hid MK
  refine wp_region_noPanic ?_
  refine wp_region_held_drew (S := fun W => Row W w.heap.size 76 A1 ∧ W.cell? ⟨w.heap.size, 0, none⟩ = some (.bool false) ∧ Row W (w.heap.size + 1) 76 A2 ∧ W.cell? ⟨w.heap.size + 1, 0, none⟩ = some (.bool false) ∧ (∃ cs : Array Value, Row W (w.heap.size + 1 + 1) 76 cs ∧ cs.size = 17) ∧ Row W g 74 E3 ∧ Up w.heap.size w W) (by kernel_rfl) (MK.out _ h1.drew h2.drew ⟨_, hR.drew, bigs_size _ _⟩ h5.drew hU.drew) (fun hHeld => ?_)
  refine wpAnyH_take (i := 0) (oi := { dst := some 11, op := Op.fieldAddr 76 (Operand.tmp 2) 0, type := 0, pos := "ref.go:172", after := #[], guard := none }) (v := ?_) rfl (by kernel_rfl) (by kernel_rfl) (by kernel_rfl) (fun _ _ _ h => h) (Or.inl ⟨by rfl, ?_⟩) hHeld ?_
  rotate_left
  · intro w' hSw; (try dsimp only at hSw); go_simp <;> with_reducible rfl
  try simp only [Act.put, List.setIfInBounds_toArray, List.set_cons_zero, List.set_cons_succ]
  refine wpAnyH_take (i := 1) (oi := { dst := some 12, op := Op.load 4 (Operand.tmp 11), type := 4, pos := "ref.go:172", after := #[{ on := 0, ground := Ground.data }], guard := none }) (v := ?_) rfl (by kernel_rfl) (by kernel_rfl) (by kernel_rfl) (fun _ _ _ h => h) (Or.inl ⟨by rfl, ?_⟩) hHeld ?_
  rotate_left
  · intro w' hSw; (try dsimp only at hSw); go_simp <;> with_reducible rfl
  try simp only [Act.put, List.setIfInBounds_toArray, List.set_cons_zero, List.set_cons_succ]
  refine wpAnyH_take (i := 2) (oi := { dst := some 13, op := Op.fieldAddr 76 (Operand.tmp 3) 0, type := 0, pos := "ref.go:172", after := #[], guard := none }) (v := ?_) rfl (by kernel_rfl) (by kernel_rfl) (by kernel_rfl) (fun _ _ _ h => h) (Or.inl ⟨by rfl, ?_⟩) hHeld ?_
  rotate_left
  · intro w' hSw; (try dsimp only at hSw); go_simp <;> with_reducible rfl
  try simp only [Act.put, List.setIfInBounds_toArray, List.set_cons_zero, List.set_cons_succ]
  refine wpAnyH_take (i := 3) (oi := { dst := some 14, op := Op.load 4 (Operand.tmp 13), type := 4, pos := "ref.go:172", after := #[{ on := 2, ground := Ground.data }], guard := none }) (v := ?_) rfl (by kernel_rfl) (by kernel_rfl) (by kernel_rfl) (fun _ _ _ h => h) (Or.inl ⟨by rfl, ?_⟩) hHeld ?_
  rotate_left
  · intro w' hSw; (try dsimp only at hSw); go_simp <;> with_reducible rfl
  try simp only [Act.put, List.setIfInBounds_toArray, List.set_cons_zero, List.set_cons_succ]
  refine wpAnyH_take (i := 4) (oi := { dst := some 15, op := Op.binOp BinOp.neq 4 (Operand.tmp 12) (Operand.tmp 14) 4, type := 4, pos := "ref.go:172", after := #[{ on := 1, ground := Ground.data }, { on := 3, ground := Ground.data }], guard := none }) (v := ?_) rfl (by kernel_rfl) (by kernel_rfl) (by kernel_rfl) (fun _ _ _ h => h) (Or.inl ⟨by rfl, ?_⟩) hHeld ?_
  rotate_left
  · intro w' hSw; (try dsimp only at hSw); go_simp <;> with_reducible rfl
  try simp only [Act.put, List.setIfInBounds_toArray, List.set_cons_zero, List.set_cons_succ]
  refine wpAnyH_take (i := 5) (oi := { dst := some 16, op := Op.move (Operand.tmp 15), type := 4, pos := "ref.go:172", after := #[{ on := 4, ground := Ground.data }], guard := none }) (v := ?_) rfl (by kernel_rfl) (by kernel_rfl) (by kernel_rfl) (fun _ _ _ h => h) (Or.inl ⟨by rfl, ?_⟩) hHeld ?_
  rotate_left
  · intro w' hSw; (try dsimp only at hSw); go_simp <;> with_reducible rfl
  try simp only [Act.put, List.setIfInBounds_toArray, List.set_cons_zero, List.set_cons_succ]
  refine wpAnyH_take (i := 6) (oi := { dst := some 17, op := Op.load 74 (Operand.tmp 5), type := 74, pos := "ref.go:172", after := #[{ on := 5, ground := Ground.guard }], guard := some (5, true) }) (v := undef) rfl (by kernel_rfl) (by kernel_rfl) (by kernel_rfl) (fun _ _ _ h => h) (Or.inr ⟨by rfl, rfl⟩) hHeld ?_
  try simp only [Act.put, List.setIfInBounds_toArray, List.set_cons_zero, List.set_cons_succ]
  refine wpAnyH_take (i := 7) (oi := { dst := some 18, op := Op.call { callee := Callee.value (Operand.func 64), args := #[Operand.tmp 17], argTypes := #[74] }, type := 4, pos := "ref.go:172", after := #[{ on := 6, ground := Ground.data }, { on := 5, ground := Ground.chain }, { on := 5, ground := Ground.guard }], guard := some (5, true) }) (v := undef) rfl (by kernel_rfl) (by kernel_rfl) (by kernel_rfl) (fun _ _ _ h => h) (Or.inr ⟨by rfl, rfl⟩) hHeld ?_
  try simp only [Act.put, List.setIfInBounds_toArray, List.set_cons_zero, List.set_cons_succ]
  refine wpAnyH_take (i := 8) (oi := { dst := some 19, op := Op.unOp UnOp.not 4 (Operand.tmp 18), type := 4, pos := "ref.go:172", after := #[{ on := 7, ground := Ground.data }, { on := 5, ground := Ground.guard }], guard := some (5, true) }) (v := undef) rfl (by kernel_rfl) (by kernel_rfl) (by kernel_rfl) (fun _ _ _ h => h) (Or.inr ⟨by rfl, rfl⟩) hHeld ?_
  try simp only [Act.put, List.setIfInBounds_toArray, List.set_cons_zero, List.set_cons_succ]
  refine wpAnyH_take (i := 9) (oi := { dst := some 20, op := Op.pick (Operand.tmp 16) (Operand.tmp 19) (Operand.const (Value.bool false)), type := 4, pos := "ref.go:172", after := #[{ on := 5, ground := Ground.data }, { on := 8, ground := Ground.data }], guard := none }) (v := ?_) rfl (by kernel_rfl) (by kernel_rfl) (by kernel_rfl) (fun _ _ _ h => h) (Or.inl ⟨by rfl, ?_⟩) hHeld ?_
  rotate_left
  · intro w' hSw; (try dsimp only at hSw); go_simp <;> with_reducible rfl
  try simp only [Act.put, List.setIfInBounds_toArray, List.set_cons_zero, List.set_cons_succ]
  refine wpAnyH_take (i := 10) (oi := { dst := some 21, op := Op.load 74 (Operand.tmp 5), type := 74, pos := "ref.go:172", after := #[], guard := none }) (v := .agg E3) rfl (by kernel_rfl) (by kernel_rfl) (by kernel_rfl) (fun _ _ _ h => h) (Or.inl ⟨by rfl, fun W hW => exec_load_row 74 _ rfl g rfl 74 E3 _ Tryd.underlying74 rfl (size_De HE3) W hW.2.2.2.2.2.1⟩) hHeld ?_
  try simp only [Act.put, List.setIfInBounds_toArray, List.set_cons_zero, List.set_cons_succ]
  refine wpAnyH_take (i := 11) (oi := { dst := some 22, op := Op.build 76 #[(0, Operand.tmp 20), (1, Operand.tmp 21)], type := 76, pos := "ref.go:172", after := #[{ on := 9, ground := Ground.data }, { on := 10, ground := Ground.data }], guard := none }) (v := .agg C) rfl (by kernel_rfl) (by kernel_rfl) (by kernel_rfl) (fun _ _ _ h => h) (Or.inl ⟨by rfl, fun W hW => exec_build_C HC HE3 _ _ rfl rfl rfl⟩) hHeld ?_
  try simp only [Act.put, List.setIfInBounds_toArray, List.set_cons_zero, List.set_cons_succ]
  obtain ⟨cs, hcs, hcz⟩ := hHeld.2.2.2.2.1
  refine wpAnyH_ready (rs := [12]) (by kernel_rfl) (by simp) ?_
  refine AllReadyH.cons (o := { dst := none, op := Op.store 76 (Operand.tmp 4) (Operand.tmp 22), type := 0, pos := "ref.go:172", after := #[{ on := 11, ground := Ground.data }, { on := 7, ground := Ground.chain }, { on := 0, ground := Ground.phase }, { on := 1, ground := Ground.phase }, { on := 2, ground := Ground.phase }, { on := 3, ground := Ground.phase }, { on := 4, ground := Ground.phase }, { on := 5, ground := Ground.phase }, { on := 6, ground := Ground.phase }, { on := 7, ground := Ground.phase }, { on := 8, ground := Ground.phase }, { on := 9, ground := Ground.phase }, { on := 10, ground := Ground.phase }, { on := 11, ground := Ground.phase }], guard := none }) rfl (fun K hK => ?_) AllReadyH.nil
  refine (if_pos (by rfl)).mpr ?_
  refine wp_store_row 76 _ _ rfl (w.heap.size + 1 + 1) C rfl rfl 76 cs hcs (size_Bn (sizeC HC)) (by rw [hcz, sizeC HC]) (oneC HC) ?_
  refine hK.out _ _ (MK.out _ (hHeld.1.farRow (by omega) C) (hHeld.2.2.1.farRow (by omega) C) ⟨C, hcs.putRow C, sizeC HC⟩ (hHeld.2.2.2.2.2.1.farRow (by omega) C) (hHeld.2.2.2.2.2.2.setRow (by omega) C)) (fun hHeld => ?_)
  clear hK K
  try simp only [Act.put, List.setIfInBounds_toArray, List.set_cons_zero, List.set_cons_succ]
  refine wpAnyH_done (by kernel_rfl) ?_ _
  refine NoPanic.normal ?_
  go_wp2_with fail
  exact bodyPost_ret (v := .agg C) (results_cell_row Tryd.results63 _ _ (w.heap.size + 1 + 1) 76 C (0, 0) _ rfl (hcs.putRow _) Tryd.underlying76 rfl (size_Bn (sizeC HC))) rfl ⟨rfl, hHeld.2.2.2.2.2.2.below⟩

set_option maxRecDepth 100000 in
set_option maxHeartbeats 2000000 in
theorem times_tt (w : World) (m n : Nat) (hm : m < BP 8) (hn : n < BP 7) : Calls Tryd.prog 63 #[BigV true m, BigV true n] w fun e w' => e = .returned (BigV false (m * n)) ∧ Below w.heap.size w w' := by
  have hC := fun w => rmul_any w m n hm hn
  have hmn : m * n < BP 16 := by
    have h1 : m * n ≤ m * BP 7 := Nat.mul_le_mul_left _ (Nat.le_of_lt hn)
    have h2 : m * BP 7 < BP 8 * BP 7 := Nat.mul_lt_mul_of_pos_right hm (BP_pos 7)
    rw [← BP_add] at h2
    have h3 : BP (8 + 7) ≤ BP 16 := BP_le (by decide)
    omega
  have hZ := fun w => rzero_any w (m * n) hmn
  clear hmn hm hn
  obtain ⟨k, hk⟩ : ∃ k, k = m * n := ⟨_, rfl⟩
  rw [← hk] at hC hZ ⊢
  clear hk
  obtain ⟨z, hz⟩ : ∃ z, z = decide (k = 0) := ⟨_, rfl⟩
  rw [← hz] at hZ
  clear hz
  unfold DV at hC hZ
  unfold BigV
  obtain ⟨A1, hA1⟩ : ∃ X, X = bigs true m := ⟨_, rfl⟩
  obtain ⟨A2, hA2⟩ : ∃ X, X = bigs true n := ⟨_, rfl⟩
  obtain ⟨E1, hE1⟩ : ∃ X, X = digs m := ⟨_, rfl⟩
  obtain ⟨E2, hE2⟩ : ∃ X, X = digs n := ⟨_, rfl⟩
  obtain ⟨E3, hE3⟩ : ∃ X, X = digs k := ⟨_, rfl⟩
  obtain ⟨C, hC0⟩ : ∃ X, X = bigs false k := ⟨_, rfl⟩
  rw [← hE1, ← hE2, ← hE3] at hC
  rw [← hE3] at hZ
  rw [← hC0]
  rw [← hA1, ← hA2]
  have HA1 := hid hA1
  have HA2 := hid hA2
  have HE1 := hid hE1
  have HE2 := hid hE2
  have HE3 := hid hE3
  have HC := hid hC0
  have HM := hid hC
  have HZ := hid hZ
  clear hC hZ hA1 hA2 hE1 hE2 hE3 hC0
  have h1 := ((Row.new w 76 A1).alloc (.cells A2 76)).alloc (.cells (bigs false 0) 76)
  have h2 := (Row.new (w.alloc (.cells A1 76)) 76 A2).alloc (.cells (bigs false 0) 76)
  have hR := Row.new ((w.alloc (.cells A1 76)).alloc (.cells A2 76)) 76 (bigs false 0)
  have hU := (((Up.refl w).alloc (.cells A1 76)).alloc (.cells A2 76)).alloc (.cells (bigs false 0) 76)
  simp only [alloc_size] at h2 hR
  go_enter Tryd.func63, Tryd.ntmps63
  go_upto_region 1 with fail
  obtain ⟨V, hV⟩ : ∃ V, V = ((w.alloc (.cells A1 76)).alloc (.cells A2 76)).alloc (.cells (bigs false 0) 76) := ⟨_, rfl⟩
  rw [bigs_0] at hV
  rw [← hV]
  rw [← bigs_0] at hV
  rw [← hV] at h1 h2 hR hU
  have hz : V.heap.size = w.heap.size + 1 + 1 + 1 := by rw [hV]; simp
  clear hV
  go_wp2_with (first | (refine wpList_load_E rfl HA1 HE1 (.tmp 6) rfl (w.heap.size) rfl 76 h1 ?_) | (refine wpList_load_E rfl HA2 HE2 (.tmp 8) rfl (w.heap.size + 1) rfl 76 h2 ?_))
  refine Calls.mono (HM.out _) ?_; rintro e w1 ⟨rfl, hb⟩
  have z1 := hb.size
  replace h1 := (h1).mod (Mod.of_below hb Nil) (fun hf => hf)
  replace h2 := (h2).mod (Mod.of_below hb Nil) (fun hf => hf)
  replace hR := (hR).mod (Mod.of_below hb Nil) (fun hf => hf)
  replace hU := hU.trans hb
  clear hb
  have h5 := (Row.new w1 74 #[.int .u64 0, .int .u64 0, .int .u64 0, .int .u64 0, .int .u64 0, .int .u64 0, .int .u64 0, .int .u64 0, .int .u64 0, .int .u64 0, .int .u64 0, .int .u64 0, .int .u64 0, .int .u64 0, .int .u64 0, .int .u64 0]).putRow E3
  replace h1 := (h1.alloc (.cells #[.int .u64 0, .int .u64 0, .int .u64 0, .int .u64 0, .int .u64 0, .int .u64 0, .int .u64 0, .int .u64 0, .int .u64 0, .int .u64 0, .int .u64 0, .int .u64 0, .int .u64 0, .int .u64 0, .int .u64 0, .int .u64 0] 74)).farRow (g' := w1.heap.size) (by omega) E3
  replace h2 := (h2.alloc (.cells #[.int .u64 0, .int .u64 0, .int .u64 0, .int .u64 0, .int .u64 0, .int .u64 0, .int .u64 0, .int .u64 0, .int .u64 0, .int .u64 0, .int .u64 0, .int .u64 0, .int .u64 0, .int .u64 0, .int .u64 0, .int .u64 0] 74)).farRow (g' := w1.heap.size) (by omega) E3
  replace hR := (hR.alloc (.cells #[.int .u64 0, .int .u64 0, .int .u64 0, .int .u64 0, .int .u64 0, .int .u64 0, .int .u64 0, .int .u64 0, .int .u64 0, .int .u64 0, .int .u64 0, .int .u64 0, .int .u64 0, .int .u64 0, .int .u64 0, .int .u64 0] 74)).farRow (g' := w1.heap.size) (by omega) E3
  replace hU := (hU.alloc (.cells #[.int .u64 0, .int .u64 0, .int .u64 0, .int .u64 0, .int .u64 0, .int .u64 0, .int .u64 0, .int .u64 0, .int .u64 0, .int .u64 0, .int .u64 0, .int .u64 0, .int .u64 0, .int .u64 0, .int .u64 0, .int .u64 0] 74)).setRow (p := w1.heap.size) (by omega) E3
  go_upto_region 2 with (refine wpList_store_row rfl 74 _ _ rfl (w1.heap.size) E3 rfl rfl 74 #[.int .u64 0, .int .u64 0, .int .u64 0, .int .u64 0, .int .u64 0, .int .u64 0, .int .u64 0, .int .u64 0, .int .u64 0, .int .u64 0, .int .u64 0, .int .u64 0, .int .u64 0, .int .u64 0, .int .u64 0, .int .u64 0] (Row.new w1 74 #[.int .u64 0, .int .u64 0, .int .u64 0, .int .u64 0, .int .u64 0, .int .u64 0, .int .u64 0, .int .u64 0, .int .u64 0, .int .u64 0, .int .u64 0, .int .u64 0, .int .u64 0, .int .u64 0, .int .u64 0, .int .u64 0]) (size_De HE3) (sizeE HE3).symm (oneE HE3) ?_)
  obtain ⟨V2, hV2⟩ : ∃ V2, V2 = (w1.alloc (.cells #[.int .u64 0, .int .u64 0, .int .u64 0, .int .u64 0, .int .u64 0, .int .u64 0, .int .u64 0, .int .u64 0, .int .u64 0, .int .u64 0, .int .u64 0, .int .u64 0, .int .u64 0, .int .u64 0, .int .u64 0, .int .u64 0] 74)).setRow w1.heap.size E3 := ⟨_, rfl⟩
  rw [← hV2] at h1 h2 hR h5 hU ⊢
  clear hV2
  obtain ⟨g, hg⟩ : ∃ g, g = w1.heap.size := ⟨_, rfl⟩
  rw [← hg] at h5 z1 ⊢
  clear hg
  have MK : ∀ W, Row W w.heap.size 76 A1 → Row W (w.heap.size + 1) 76 A2 → (∃ cs : Array Value, Row W (w.heap.size + 1 + 1) 76 cs ∧ cs.size = 17) → Row W g 74 E3 → Up w.heap.size w W → Row W w.heap.size 76 A1 ∧ W.cell? ⟨w.heap.size, 0, none⟩ = some (.bool true) ∧ Row W (w.heap.size + 1) 76 A2 ∧ W.cell? ⟨w.heap.size + 1, 0, none⟩ = some (.bool true) ∧ (∃ cs : Array Value, Row W (w.heap.size + 1 + 1) 76 cs ∧ cs.size = 17) ∧ Row W g 74 E3 ∧ Up w.heap.size w W := fun W h1 h2 h3 h4 h5 => ⟨h1, by rw [h1.cell, zeroC HA1], h2, by rw [h2.cell, zeroC HA2], h3, h4, h5⟩
  have MK := hid MK
  refine wp_region_noPanic ?_
  refine wp_region_held_drew (S := fun W => Row W w.heap.size 76 A1 ∧ W.cell? ⟨w.heap.size, 0, none⟩ = some (.bool true) ∧ Row W (w.heap.size + 1) 76 A2 ∧ W.cell? ⟨w.heap.size + 1, 0, none⟩ = some (.bool true) ∧ (∃ cs : Array Value, Row W (w.heap.size + 1 + 1) 76 cs ∧ cs.size = 17) ∧ Row W g 74 E3 ∧ Up w.heap.size w W) (by kernel_rfl) (MK.out _ h1.drew h2.drew ⟨_, hR.drew, bigs_size _ _⟩ h5.drew hU.drew) (fun hHeld => ?_)
  refine wpAnyH_take (i := 0) (oi := { dst := some 11, op := Op.fieldAddr 76 (Operand.tmp 2) 0, type := 0, pos := "ref.go:172", after := #[], guard := none }) (v := ?_) rfl (by kernel_rfl) (by kernel_rfl) (by kernel_rfl) (fun _ _ _ h => h) (Or.inl ⟨by rfl, ?_⟩) hHeld ?_
  rotate_left
  · intro w' hSw; (try dsimp only at hSw); go_simp <;> with_reducible rfl
  try simp only [Act.put, List.setIfInBounds_toArray, List.set_cons_zero, List.set_cons_succ]
  refine wpAnyH_take (i := 1) (oi := { dst := some 12, op := Op.load 4 (Operand.tmp 11), type := 4, pos := "ref.go:172", after := #[{ on := 0, ground := Ground.data }], guard := none }) (v := ?_) rfl (by kernel_rfl) (by kernel_rfl) (by kernel_rfl) (fun _ _ _ h => h) (Or.inl ⟨by rfl, ?_⟩) hHeld ?_
  rotate_left
  · intro w' hSw; (try dsimp only at hSw); go_simp <;> with_reducible rfl
  try simp only [Act.put, List.setIfInBounds_toArray, List.set_cons_zero, List.set_cons_succ]
  refine wpAnyH_take (i := 2) (oi := { dst := some 13, op := Op.fieldAddr 76 (Operand.tmp 3) 0, type := 0, pos := "ref.go:172", after := #[], guard := none }) (v := ?_) rfl (by kernel_rfl) (by kernel_rfl) (by kernel_rfl) (fun _ _ _ h => h) (Or.inl ⟨by rfl, ?_⟩) hHeld ?_
  rotate_left
  · intro w' hSw; (try dsimp only at hSw); go_simp <;> with_reducible rfl
  try simp only [Act.put, List.setIfInBounds_toArray, List.set_cons_zero, List.set_cons_succ]
  refine wpAnyH_take (i := 3) (oi := { dst := some 14, op := Op.load 4 (Operand.tmp 13), type := 4, pos := "ref.go:172", after := #[{ on := 2, ground := Ground.data }], guard := none }) (v := ?_) rfl (by kernel_rfl) (by kernel_rfl) (by kernel_rfl) (fun _ _ _ h => h) (Or.inl ⟨by rfl, ?_⟩) hHeld ?_
  rotate_left
  · intro w' hSw; (try dsimp only at hSw); go_simp <;> with_reducible rfl
  try simp only [Act.put, List.setIfInBounds_toArray, List.set_cons_zero, List.set_cons_succ]
  refine wpAnyH_take (i := 4) (oi := { dst := some 15, op := Op.binOp BinOp.neq 4 (Operand.tmp 12) (Operand.tmp 14) 4, type := 4, pos := "ref.go:172", after := #[{ on := 1, ground := Ground.data }, { on := 3, ground := Ground.data }], guard := none }) (v := ?_) rfl (by kernel_rfl) (by kernel_rfl) (by kernel_rfl) (fun _ _ _ h => h) (Or.inl ⟨by rfl, ?_⟩) hHeld ?_
  rotate_left
  · intro w' hSw; (try dsimp only at hSw); go_simp <;> with_reducible rfl
  try simp only [Act.put, List.setIfInBounds_toArray, List.set_cons_zero, List.set_cons_succ]
  refine wpAnyH_take (i := 5) (oi := { dst := some 16, op := Op.move (Operand.tmp 15), type := 4, pos := "ref.go:172", after := #[{ on := 4, ground := Ground.data }], guard := none }) (v := ?_) rfl (by kernel_rfl) (by kernel_rfl) (by kernel_rfl) (fun _ _ _ h => h) (Or.inl ⟨by rfl, ?_⟩) hHeld ?_
  rotate_left
  · intro w' hSw; (try dsimp only at hSw); go_simp <;> with_reducible rfl
  try simp only [Act.put, List.setIfInBounds_toArray, List.set_cons_zero, List.set_cons_succ]
  refine wpAnyH_take (i := 6) (oi := { dst := some 17, op := Op.load 74 (Operand.tmp 5), type := 74, pos := "ref.go:172", after := #[{ on := 5, ground := Ground.guard }], guard := some (5, true) }) (v := undef) rfl (by kernel_rfl) (by kernel_rfl) (by kernel_rfl) (fun _ _ _ h => h) (Or.inr ⟨by rfl, rfl⟩) hHeld ?_
  try simp only [Act.put, List.setIfInBounds_toArray, List.set_cons_zero, List.set_cons_succ]
  refine wpAnyH_take (i := 7) (oi := { dst := some 18, op := Op.call { callee := Callee.value (Operand.func 64), args := #[Operand.tmp 17], argTypes := #[74] }, type := 4, pos := "ref.go:172", after := #[{ on := 6, ground := Ground.data }, { on := 5, ground := Ground.chain }, { on := 5, ground := Ground.guard }], guard := some (5, true) }) (v := undef) rfl (by kernel_rfl) (by kernel_rfl) (by kernel_rfl) (fun _ _ _ h => h) (Or.inr ⟨by rfl, rfl⟩) hHeld ?_
  try simp only [Act.put, List.setIfInBounds_toArray, List.set_cons_zero, List.set_cons_succ]
  refine wpAnyH_take (i := 8) (oi := { dst := some 19, op := Op.unOp UnOp.not 4 (Operand.tmp 18), type := 4, pos := "ref.go:172", after := #[{ on := 7, ground := Ground.data }, { on := 5, ground := Ground.guard }], guard := some (5, true) }) (v := undef) rfl (by kernel_rfl) (by kernel_rfl) (by kernel_rfl) (fun _ _ _ h => h) (Or.inr ⟨by rfl, rfl⟩) hHeld ?_
  try simp only [Act.put, List.setIfInBounds_toArray, List.set_cons_zero, List.set_cons_succ]
  refine wpAnyH_take (i := 9) (oi := { dst := some 20, op := Op.pick (Operand.tmp 16) (Operand.tmp 19) (Operand.const (Value.bool false)), type := 4, pos := "ref.go:172", after := #[{ on := 5, ground := Ground.data }, { on := 8, ground := Ground.data }], guard := none }) (v := ?_) rfl (by kernel_rfl) (by kernel_rfl) (by kernel_rfl) (fun _ _ _ h => h) (Or.inl ⟨by rfl, ?_⟩) hHeld ?_
  rotate_left
  · intro w' hSw; (try dsimp only at hSw); go_simp <;> with_reducible rfl
  try simp only [Act.put, List.setIfInBounds_toArray, List.set_cons_zero, List.set_cons_succ]
  refine wpAnyH_take (i := 10) (oi := { dst := some 21, op := Op.load 74 (Operand.tmp 5), type := 74, pos := "ref.go:172", after := #[], guard := none }) (v := .agg E3) rfl (by kernel_rfl) (by kernel_rfl) (by kernel_rfl) (fun _ _ _ h => h) (Or.inl ⟨by rfl, fun W hW => exec_load_row 74 _ rfl g rfl 74 E3 _ Tryd.underlying74 rfl (size_De HE3) W hW.2.2.2.2.2.1⟩) hHeld ?_
  try simp only [Act.put, List.setIfInBounds_toArray, List.set_cons_zero, List.set_cons_succ]
  refine wpAnyH_take (i := 11) (oi := { dst := some 22, op := Op.build 76 #[(0, Operand.tmp 20), (1, Operand.tmp 21)], type := 76, pos := "ref.go:172", after := #[{ on := 9, ground := Ground.data }, { on := 10, ground := Ground.data }], guard := none }) (v := .agg C) rfl (by kernel_rfl) (by kernel_rfl) (by kernel_rfl) (fun _ _ _ h => h) (Or.inl ⟨by rfl, fun W hW => exec_build_C HC HE3 _ _ rfl rfl rfl⟩) hHeld ?_
  try simp only [Act.put, List.setIfInBounds_toArray, List.set_cons_zero, List.set_cons_succ]
  obtain ⟨cs, hcs, hcz⟩ := hHeld.2.2.2.2.1
  refine wpAnyH_ready (rs := [12]) (by kernel_rfl) (by simp) ?_
  refine AllReadyH.cons (o := { dst := none, op := Op.store 76 (Operand.tmp 4) (Operand.tmp 22), type := 0, pos := "ref.go:172", after := #[{ on := 11, ground := Ground.data }, { on := 7, ground := Ground.chain }, { on := 0, ground := Ground.phase }, { on := 1, ground := Ground.phase }, { on := 2, ground := Ground.phase }, { on := 3, ground := Ground.phase }, { on := 4, ground := Ground.phase }, { on := 5, ground := Ground.phase }, { on := 6, ground := Ground.phase }, { on := 7, ground := Ground.phase }, { on := 8, ground := Ground.phase }, { on := 9, ground := Ground.phase }, { on := 10, ground := Ground.phase }, { on := 11, ground := Ground.phase }], guard := none }) rfl (fun K hK => ?_) AllReadyH.nil
  refine (if_pos (by rfl)).mpr ?_
  refine wp_store_row 76 _ _ rfl (w.heap.size + 1 + 1) C rfl rfl 76 cs hcs (size_Bn (sizeC HC)) (by rw [hcz, sizeC HC]) (oneC HC) ?_
  refine hK.out _ _ (MK.out _ (hHeld.1.farRow (by omega) C) (hHeld.2.2.1.farRow (by omega) C) ⟨C, hcs.putRow C, sizeC HC⟩ (hHeld.2.2.2.2.2.1.farRow (by omega) C) (hHeld.2.2.2.2.2.2.setRow (by omega) C)) (fun hHeld => ?_)
  clear hK K
  try simp only [Act.put, List.setIfInBounds_toArray, List.set_cons_zero, List.set_cons_succ]
  refine wpAnyH_done (by kernel_rfl) ?_ _
  refine NoPanic.normal ?_
  go_wp2_with fail
  exact bodyPost_ret (v := .agg C) (results_cell_row Tryd.results63 _ _ (w.heap.size + 1 + 1) 76 C (0, 0) _ rfl (hcs.putRow _) Tryd.underlying76 rfl (size_Bn (sizeC HC))) rfl ⟨rfl, hHeld.2.2.2.2.2.2.below⟩

set_option maxRecDepth 100000 in
set_option maxHeartbeats 2000000 in
theorem times_ft (w : World) (m n : Nat) (hm : m < BP 8) (hn : n < BP 7) : Calls Tryd.prog 63 #[BigV false m, BigV true n] w fun e w' => e = .returned (BigV (!decide (m * n = 0)) (m * n)) ∧ Below w.heap.size w w' := by
  have hC := fun w => rmul_any w m n hm hn
  have hmn : m * n < BP 16 := by
    have h1 : m * n ≤ m * BP 7 := Nat.mul_le_mul_left _ (Nat.le_of_lt hn)
    have h2 : m * BP 7 < BP 8 * BP 7 := Nat.mul_lt_mul_of_pos_right hm (BP_pos 7)
    rw [← BP_add] at h2
    have h3 : BP (8 + 7) ≤ BP 16 := BP_le (by decide)
    omega
  have hZ := fun w => rzero_any w (m * n) hmn
  clear hmn hm hn
  obtain ⟨k, hk⟩ : ∃ k, k = m * n := ⟨_, rfl⟩
  rw [← hk] at hC hZ ⊢
  clear hk
  obtain ⟨z, hz⟩ : ∃ z, z = decide (k = 0) := ⟨_, rfl⟩
  rw [← hz] at hZ
  rw [← hz]
  clear hz
  unfold DV at hC hZ
  unfold BigV
  obtain ⟨A1, hA1⟩ : ∃ X, X = bigs false m := ⟨_, rfl⟩
  obtain ⟨A2, hA2⟩ : ∃ X, X = bigs true n := ⟨_, rfl⟩
  obtain ⟨E1, hE1⟩ : ∃ X, X = digs m := ⟨_, rfl⟩
  obtain ⟨E2, hE2⟩ : ∃ X, X = digs n := ⟨_, rfl⟩
  obtain ⟨E3, hE3⟩ : ∃ X, X = digs k := ⟨_, rfl⟩
  obtain ⟨C, hC0⟩ : ∃ X, X = bigs (!z) k := ⟨_, rfl⟩
  rw [← hE1, ← hE2, ← hE3] at hC
  rw [← hE3] at hZ
  rw [← hC0]
  rw [← hA1, ← hA2]
  have HA1 := hid hA1
  have HA2 := hid hA2
  have HE1 := hid hE1
  have HE2 := hid hE2
  have HE3 := hid hE3
  have HC := hid hC0
  have HM := hid hC
  have HZ := hid hZ
  clear hC hZ hA1 hA2 hE1 hE2 hE3 hC0
  have h1 := ((Row.new w 76 A1).alloc (.cells A2 76)).alloc (.cells (bigs false 0) 76)
  have h2 := (Row.new (w.alloc (.cells A1 76)) 76 A2).alloc (.cells (bigs false 0) 76)
  have hR := Row.new ((w.alloc (.cells A1 76)).alloc (.cells A2 76)) 76 (bigs false 0)
  have hU := (((Up.refl w).alloc (.cells A1 76)).alloc (.cells A2 76)).alloc (.cells (bigs false 0) 76)
  simp only [alloc_size] at h2 hR
  go_enter Tryd.func63, Tryd.ntmps63
  go_upto_region 1 with fail
  obtain ⟨V, hV⟩ : ∃ V, V = ((w.alloc (.cells A1 76)).alloc (.cells A2 76)).alloc (.cells (bigs false 0) 76) := ⟨_, rfl⟩
  rw [bigs_0] at hV
  rw [← hV]
  rw [← bigs_0] at hV
  rw [← hV] at h1 h2 hR hU
  have hz : V.heap.size = w.heap.size + 1 + 1 + 1 := by rw [hV]; simp
  clear hV
  go_wp2_with (first | (refine wpList_load_E rfl HA1 HE1 (.tmp 6) rfl (w.heap.size) rfl 76 h1 ?_) | (refine wpList_load_E rfl HA2 HE2 (.tmp 8) rfl (w.heap.size + 1) rfl 76 h2 ?_))
  refine Calls.mono (HM.out _) ?_; rintro e w1 ⟨rfl, hb⟩
  have z1 := hb.size
  replace h1 := (h1).mod (Mod.of_below hb Nil) (fun hf => hf)
  replace h2 := (h2).mod (Mod.of_below hb Nil) (fun hf => hf)
  replace hR := (hR).mod (Mod.of_below hb Nil) (fun hf => hf)
  replace hU := hU.trans hb
  clear hb
  have h5 := (Row.new w1 74 #[.int .u64 0, .int .u64 0, .int .u64 0, .int .u64 0, .int .u64 0, .int .u64 0, .int .u64 0, .int .u64 0, .int .u64 0, .int .u64 0, .int .u64 0, .int .u64 0, .int .u64 0, .int .u64 0, .int .u64 0, .int .u64 0]).putRow E3
  replace h1 := (h1.alloc (.cells #[.int .u64 0, .int .u64 0, .int .u64 0, .int .u64 0, .int .u64 0, .int .u64 0, .int .u64 0, .int .u64 0, .int .u64 0, .int .u64 0, .int .u64 0, .int .u64 0, .int .u64 0, .int .u64 0, .int .u64 0, .int .u64 0] 74)).farRow (g' := w1.heap.size) (by omega) E3
  replace h2 := (h2.alloc (.cells #[.int .u64 0, .int .u64 0, .int .u64 0, .int .u64 0, .int .u64 0, .int .u64 0, .int .u64 0, .int .u64 0, .int .u64 0, .int .u64 0, .int .u64 0, .int .u64 0, .int .u64 0, .int .u64 0, .int .u64 0, .int .u64 0] 74)).farRow (g' := w1.heap.size) (by omega) E3
  replace hR := (hR.alloc (.cells #[.int .u64 0, .int .u64 0, .int .u64 0, .int .u64 0, .int .u64 0, .int .u64 0, .int .u64 0, .int .u64 0, .int .u64 0, .int .u64 0, .int .u64 0, .int .u64 0, .int .u64 0, .int .u64 0, .int .u64 0, .int .u64 0] 74)).farRow (g' := w1.heap.size) (by omega) E3
  replace hU := (hU.alloc (.cells #[.int .u64 0, .int .u64 0, .int .u64 0, .int .u64 0, .int .u64 0, .int .u64 0, .int .u64 0, .int .u64 0, .int .u64 0, .int .u64 0, .int .u64 0, .int .u64 0, .int .u64 0, .int .u64 0, .int .u64 0, .int .u64 0] 74)).setRow (p := w1.heap.size) (by omega) E3
  go_upto_region 2 with (refine wpList_store_row rfl 74 _ _ rfl (w1.heap.size) E3 rfl rfl 74 #[.int .u64 0, .int .u64 0, .int .u64 0, .int .u64 0, .int .u64 0, .int .u64 0, .int .u64 0, .int .u64 0, .int .u64 0, .int .u64 0, .int .u64 0, .int .u64 0, .int .u64 0, .int .u64 0, .int .u64 0, .int .u64 0] (Row.new w1 74 #[.int .u64 0, .int .u64 0, .int .u64 0, .int .u64 0, .int .u64 0, .int .u64 0, .int .u64 0, .int .u64 0, .int .u64 0, .int .u64 0, .int .u64 0, .int .u64 0, .int .u64 0, .int .u64 0, .int .u64 0, .int .u64 0]) (size_De HE3) (sizeE HE3).symm (oneE HE3) ?_)
  obtain ⟨V2, hV2⟩ : ∃ V2, V2 = (w1.alloc (.cells #[.int .u64 0, .int .u64 0, .int .u64 0, .int .u64 0, .int .u64 0, .int .u64 0, .int .u64 0, .int .u64 0, .int .u64 0, .int .u64 0, .int .u64 0, .int .u64 0, .int .u64 0, .int .u64 0, .int .u64 0, .int .u64 0] 74)).setRow w1.heap.size E3 := ⟨_, rfl⟩
  rw [← hV2] at h1 h2 hR h5 hU ⊢
  clear hV2
  obtain ⟨g, hg⟩ : ∃ g, g = w1.heap.size := ⟨_, rfl⟩
  rw [← hg] at h5 z1 ⊢
  clear hg
  have MK : ∀ W, Row W w.heap.size 76 A1 → Row W (w.heap.size + 1) 76 A2 → (∃ cs : Array Value, Row W (w.heap.size + 1 + 1) 76 cs ∧ cs.size = 17) → Row W g 74 E3 → Up w.heap.size w W → Row W w.heap.size 76 A1 ∧ W.cell? ⟨w.heap.size, 0, none⟩ = some (.bool false) ∧ Row W (w.heap.size + 1) 76 A2 ∧ W.cell? ⟨w.heap.size + 1, 0, none⟩ = some (.bool true) ∧ (∃ cs : Array Value, Row W (w.heap.size + 1 + 1) 76 cs ∧ cs.size = 17) ∧ Row W g 74 E3 ∧ Up w.heap.size w W := fun W h1 h2 h3 h4 h5 => ⟨h1, by rw [h1.cell, zeroC HA1], h2, by rw [h2.cell, zeroC HA2], h3, h4, h5⟩
  have MK := hid MK
  refine wp_region_noPanic ?_
  refine wp_region_held_drew (S := fun W => Row W w.heap.size 76 A1 ∧ W.cell? ⟨w.heap.size, 0, none⟩ = some (.bool false) ∧ Row W (w.heap.size + 1) 76 A2 ∧ W.cell? ⟨w.heap.size + 1, 0, none⟩ = some (.bool true) ∧ (∃ cs : Array Value, Row W (w.heap.size + 1 + 1) 76 cs ∧ cs.size = 17) ∧ Row W g 74 E3 ∧ Up w.heap.size w W) (by kernel_rfl) (MK.out _ h1.drew h2.drew ⟨_, hR.drew, bigs_size _ _⟩ h5.drew hU.drew) (fun hHeld => ?_)
  refine wpAnyH_take (i := 0) (oi := { dst := some 11, op := Op.fieldAddr 76 (Operand.tmp 2) 0, type := 0, pos := "ref.go:172", after := #[], guard := none }) (v := ?_) rfl (by kernel_rfl) (by kernel_rfl) (by kernel_rfl) (fun _ _ _ h => h) (Or.inl ⟨by rfl, ?_⟩) hHeld ?_
  rotate_left
  · intro w' hSw; (try dsimp only at hSw); go_simp <;> with_reducible rfl
  try simp only [Act.put, List.setIfInBounds_toArray, List.set_cons_zero, List.set_cons_succ]
  refine wpAnyH_take (i := 1) (oi := { dst := some 12, op := Op.load 4 (Operand.tmp 11), type := 4, pos := "ref.go:172", after := #[{ on := 0, ground := Ground.data }], guard := none }) (v := ?_) rfl (by kernel_rfl) (by kernel_rfl) (by kernel_rfl) (fun _ _ _ h => h) (Or.inl ⟨by rfl, ?_⟩) hHeld ?_
  rotate_left
  · intro w' hSw; (try dsimp only at hSw); go_simp <;> with_reducible rfl
  try simp only [Act.put, List.setIfInBounds_toArray, List.set_cons_zero, List.set_cons_succ]
  refine wpAnyH_take (i := 2) (oi := { dst := some 13, op := Op.fieldAddr 76 (Operand.tmp 3) 0, type := 0, pos := "ref.go:172", after := #[], guard := none }) (v := ?_) rfl (by kernel_rfl) (by kernel_rfl) (by kernel_rfl) (fun _ _ _ h => h) (Or.inl ⟨by rfl, ?_⟩) hHeld ?_
  rotate_left
  · intro w' hSw; (try dsimp only at hSw); go_simp <;> with_reducible rfl
  try simp only [Act.put, List.setIfInBounds_toArray, List.set_cons_zero, List.set_cons_succ]
  refine wpAnyH_take (i := 3) (oi := { dst := some 14, op := Op.load 4 (Operand.tmp 13), type := 4, pos := "ref.go:172", after := #[{ on := 2, ground := Ground.data }], guard := none }) (v := ?_) rfl (by kernel_rfl) (by kernel_rfl) (by kernel_rfl) (fun _ _ _ h => h) (Or.inl ⟨by rfl, ?_⟩) hHeld ?_
  rotate_left
  · intro w' hSw; (try dsimp only at hSw); go_simp <;> with_reducible rfl
  try simp only [Act.put, List.setIfInBounds_toArray, List.set_cons_zero, List.set_cons_succ]
  refine wpAnyH_take (i := 4) (oi := { dst := some 15, op := Op.binOp BinOp.neq 4 (Operand.tmp 12) (Operand.tmp 14) 4, type := 4, pos := "ref.go:172", after := #[{ on := 1, ground := Ground.data }, { on := 3, ground := Ground.data }], guard := none }) (v := ?_) rfl (by kernel_rfl) (by kernel_rfl) (by kernel_rfl) (fun _ _ _ h => h) (Or.inl ⟨by rfl, ?_⟩) hHeld ?_
  rotate_left
  · intro w' hSw; (try dsimp only at hSw); go_simp <;> with_reducible rfl
  try simp only [Act.put, List.setIfInBounds_toArray, List.set_cons_zero, List.set_cons_succ]
  refine wpAnyH_take (i := 5) (oi := { dst := some 16, op := Op.move (Operand.tmp 15), type := 4, pos := "ref.go:172", after := #[{ on := 4, ground := Ground.data }], guard := none }) (v := ?_) rfl (by kernel_rfl) (by kernel_rfl) (by kernel_rfl) (fun _ _ _ h => h) (Or.inl ⟨by rfl, ?_⟩) hHeld ?_
  rotate_left
  · intro w' hSw; (try dsimp only at hSw); go_simp <;> with_reducible rfl
  try simp only [Act.put, List.setIfInBounds_toArray, List.set_cons_zero, List.set_cons_succ]
  refine wpAnyH_take (i := 6) (oi := { dst := some 17, op := Op.load 74 (Operand.tmp 5), type := 74, pos := "ref.go:172", after := #[{ on := 5, ground := Ground.guard }], guard := some (5, true) }) (v := .agg E3) rfl (by kernel_rfl) (by kernel_rfl) (by kernel_rfl) (fun _ _ _ h => h) (Or.inl ⟨by rfl, fun W hW => exec_load_row 74 _ rfl g rfl 74 E3 _ Tryd.underlying74 rfl (size_De HE3) W hW.2.2.2.2.2.1⟩) hHeld ?_
  try simp only [Act.put, List.setIfInBounds_toArray, List.set_cons_zero, List.set_cons_succ]
  refine wpAnyH_take (i := 10) (oi := { dst := some 21, op := Op.load 74 (Operand.tmp 5), type := 74, pos := "ref.go:172", after := #[], guard := none }) (v := .agg E3) rfl (by kernel_rfl) (by kernel_rfl) (by kernel_rfl) (fun _ _ _ h => h) (Or.inl ⟨by rfl, fun W hW => exec_load_row 74 _ rfl g rfl 74 E3 _ Tryd.underlying74 rfl (size_De HE3) W hW.2.2.2.2.2.1⟩) hHeld ?_
  try simp only [Act.put, List.setIfInBounds_toArray, List.set_cons_zero, List.set_cons_succ]
  refine wpAnyH_ready (rs := [7]) (by kernel_rfl) (by simp) ?_
  refine AllReadyH.cons (o := { dst := some 18, op := Op.call { callee := Callee.value (Operand.func 64), args := #[Operand.tmp 17], argTypes := #[74] }, type := 4, pos := "ref.go:172", after := #[{ on := 6, ground := Ground.data }, { on := 5, ground := Ground.chain }, { on := 5, ground := Ground.guard }], guard := some (5, true) }) rfl (fun K hK => ?_) AllReadyH.nil
  go_simp
  refine Calls.mono (HZ.out _) ?_; rintro e w2 ⟨rfl, hb⟩
  refine hK.out _ _ (MK.out _ ((hHeld.1).mod (Mod.of_below hb Nil) (fun hf => hf)) ((hHeld.2.2.1).mod (Mod.of_below hb Nil) (fun hf => hf)) (by obtain ⟨cs, h1, h2⟩ := hHeld.2.2.2.2.1; exact ⟨cs, (h1).mod (Mod.of_below hb Nil) (fun hf => hf), h2⟩) ((hHeld.2.2.2.2.2.1).mod (Mod.of_below hb Nil) (fun hf => hf)) (hHeld.2.2.2.2.2.2.trans hb)) (fun hHeld => ?_)
  clear hK K
  try simp only [Act.put, List.setIfInBounds_toArray, List.set_cons_zero, List.set_cons_succ]
  refine wpAnyH_take (i := 8) (oi := { dst := some 19, op := Op.unOp UnOp.not 4 (Operand.tmp 18), type := 4, pos := "ref.go:172", after := #[{ on := 7, ground := Ground.data }, { on := 5, ground := Ground.guard }], guard := some (5, true) }) (v := ?_) rfl (by kernel_rfl) (by kernel_rfl) (by kernel_rfl) (fun _ _ _ h => h) (Or.inl ⟨by rfl, ?_⟩) hHeld ?_
  rotate_left
  · intro w' hSw; (try dsimp only at hSw); go_simp <;> with_reducible rfl
  try simp only [Act.put, List.setIfInBounds_toArray, List.set_cons_zero, List.set_cons_succ]
  refine wpAnyH_take (i := 9) (oi := { dst := some 20, op := Op.pick (Operand.tmp 16) (Operand.tmp 19) (Operand.const (Value.bool false)), type := 4, pos := "ref.go:172", after := #[{ on := 5, ground := Ground.data }, { on := 8, ground := Ground.data }], guard := none }) (v := ?_) rfl (by kernel_rfl) (by kernel_rfl) (by kernel_rfl) (fun _ _ _ h => h) (Or.inl ⟨by rfl, ?_⟩) hHeld ?_
  rotate_left
  · intro w' hSw; (try dsimp only at hSw); go_simp <;> with_reducible rfl
  try simp only [Act.put, List.setIfInBounds_toArray, List.set_cons_zero, List.set_cons_succ]
  refine wpAnyH_take (i := 11) (oi := { dst := some 22, op := Op.build 76 #[(0, Operand.tmp 20), (1, Operand.tmp 21)], type := 76, pos := "ref.go:172", after := #[{ on := 9, ground := Ground.data }, { on := 10, ground := Ground.data }], guard := none }) (v := .agg C) rfl (by kernel_rfl) (by kernel_rfl) (by kernel_rfl) (fun _ _ _ h => h) (Or.inl ⟨by rfl, fun W hW => exec_build_C HC HE3 _ _ rfl rfl rfl⟩) hHeld ?_
  try simp only [Act.put, List.setIfInBounds_toArray, List.set_cons_zero, List.set_cons_succ]
  obtain ⟨cs, hcs, hcz⟩ := hHeld.2.2.2.2.1
  refine wpAnyH_ready (rs := [12]) (by kernel_rfl) (by simp) ?_
  refine AllReadyH.cons (o := { dst := none, op := Op.store 76 (Operand.tmp 4) (Operand.tmp 22), type := 0, pos := "ref.go:172", after := #[{ on := 11, ground := Ground.data }, { on := 7, ground := Ground.chain }, { on := 0, ground := Ground.phase }, { on := 1, ground := Ground.phase }, { on := 2, ground := Ground.phase }, { on := 3, ground := Ground.phase }, { on := 4, ground := Ground.phase }, { on := 5, ground := Ground.phase }, { on := 6, ground := Ground.phase }, { on := 7, ground := Ground.phase }, { on := 8, ground := Ground.phase }, { on := 9, ground := Ground.phase }, { on := 10, ground := Ground.phase }, { on := 11, ground := Ground.phase }], guard := none }) rfl (fun K hK => ?_) AllReadyH.nil
  refine (if_pos (by rfl)).mpr ?_
  refine wp_store_row 76 _ _ rfl (w.heap.size + 1 + 1) C rfl rfl 76 cs hcs (size_Bn (sizeC HC)) (by rw [hcz, sizeC HC]) (oneC HC) ?_
  refine hK.out _ _ (MK.out _ (hHeld.1.farRow (by omega) C) (hHeld.2.2.1.farRow (by omega) C) ⟨C, hcs.putRow C, sizeC HC⟩ (hHeld.2.2.2.2.2.1.farRow (by omega) C) (hHeld.2.2.2.2.2.2.setRow (by omega) C)) (fun hHeld => ?_)
  clear hK K
  try simp only [Act.put, List.setIfInBounds_toArray, List.set_cons_zero, List.set_cons_succ]
  refine wpAnyH_done (by kernel_rfl) ?_ _
  refine NoPanic.normal ?_
  go_wp2_with fail
  exact bodyPost_ret (v := .agg C) (results_cell_row Tryd.results63 _ _ (w.heap.size + 1 + 1) 76 C (0, 0) _ rfl (hcs.putRow _) Tryd.underlying76 rfl (size_Bn (sizeC HC))) rfl ⟨rfl, hHeld.2.2.2.2.2.2.below⟩

set_option maxRecDepth 100000 in
set_option maxHeartbeats 2000000 in
theorem times_tf (w : World) (m n : Nat) (hm : m < BP 8) (hn : n < BP 7) : Calls Tryd.prog 63 #[BigV true m, BigV false n] w fun e w' => e = .returned (BigV (!decide (m * n = 0)) (m * n)) ∧ Below w.heap.size w w' := by
  have hC := fun w => rmul_any w m n hm hn
  have hmn : m * n < BP 16 := by
    have h1 : m * n ≤ m * BP 7 := Nat.mul_le_mul_left _ (Nat.le_of_lt hn)
    have h2 : m * BP 7 < BP 8 * BP 7 := Nat.mul_lt_mul_of_pos_right hm (BP_pos 7)
    rw [← BP_add] at h2
    have h3 : BP (8 + 7) ≤ BP 16 := BP_le (by decide)
    omega
  have hZ := fun w => rzero_any w (m * n) hmn
  clear hmn hm hn
  obtain ⟨k, hk⟩ : ∃ k, k = m * n := ⟨_, rfl⟩
  rw [← hk] at hC hZ ⊢
  clear hk
  obtain ⟨z, hz⟩ : ∃ z, z = decide (k = 0) := ⟨_, rfl⟩
  rw [← hz] at hZ
  rw [← hz]
  clear hz
  unfold DV at hC hZ
  unfold BigV
  obtain ⟨A1, hA1⟩ : ∃ X, X = bigs true m := ⟨_, rfl⟩
  obtain ⟨A2, hA2⟩ : ∃ X, X = bigs false n := ⟨_, rfl⟩
  obtain ⟨E1, hE1⟩ : ∃ X, X = digs m := ⟨_, rfl⟩
  obtain ⟨E2, hE2⟩ : ∃ X, X = digs n := ⟨_, rfl⟩
  obtain ⟨E3, hE3⟩ : ∃ X, X = digs k := ⟨_, rfl⟩
  obtain ⟨C, hC0⟩ : ∃ X, X = bigs (!z) k := ⟨_, rfl⟩
  rw [← hE1, ← hE2, ← hE3] at hC
  rw [← hE3] at hZ
  rw [← hC0]
  rw [← hA1, ← hA2]
  have HA1 := hid hA1
  have HA2 := hid hA2
  have HE1 := hid hE1
  have HE2 := hid hE2
  have HE3 := hid hE3
  have HC := hid hC0
  have HM := hid hC
  have HZ := hid hZ
  clear hC hZ hA1 hA2 hE1 hE2 hE3 hC0
  have h1 := ((Row.new w 76 A1).alloc (.cells A2 76)).alloc (.cells (bigs false 0) 76)
  have h2 := (Row.new (w.alloc (.cells A1 76)) 76 A2).alloc (.cells (bigs false 0) 76)
  have hR := Row.new ((w.alloc (.cells A1 76)).alloc (.cells A2 76)) 76 (bigs false 0)
  have hU := (((Up.refl w).alloc (.cells A1 76)).alloc (.cells A2 76)).alloc (.cells (bigs false 0) 76)
  simp only [alloc_size] at h2 hR
  go_enter Tryd.func63, Tryd.ntmps63
  go_upto_region 1 with fail
  obtain ⟨V, hV⟩ : ∃ V, V = ((w.alloc (.cells A1 76)).alloc (.cells A2 76)).alloc (.cells (bigs false 0) 76) := ⟨_, rfl⟩
  rw [bigs_0] at hV
  rw [← hV]
  rw [← bigs_0] at hV
  rw [← hV] at h1 h2 hR hU
  have hz : V.heap.size = w.heap.size + 1 + 1 + 1 := by rw [hV]; simp
  clear hV
  go_wp2_with (first | (refine wpList_load_E rfl HA1 HE1 (.tmp 6) rfl (w.heap.size) rfl 76 h1 ?_) | (refine wpList_load_E rfl HA2 HE2 (.tmp 8) rfl (w.heap.size + 1) rfl 76 h2 ?_))
  refine Calls.mono (HM.out _) ?_; rintro e w1 ⟨rfl, hb⟩
  have z1 := hb.size
  replace h1 := (h1).mod (Mod.of_below hb Nil) (fun hf => hf)
  replace h2 := (h2).mod (Mod.of_below hb Nil) (fun hf => hf)
  replace hR := (hR).mod (Mod.of_below hb Nil) (fun hf => hf)
  replace hU := hU.trans hb
  clear hb
  have h5 := (Row.new w1 74 #[.int .u64 0, .int .u64 0, .int .u64 0, .int .u64 0, .int .u64 0, .int .u64 0, .int .u64 0, .int .u64 0, .int .u64 0, .int .u64 0, .int .u64 0, .int .u64 0, .int .u64 0, .int .u64 0, .int .u64 0, .int .u64 0]).putRow E3
  replace h1 := (h1.alloc (.cells #[.int .u64 0, .int .u64 0, .int .u64 0, .int .u64 0, .int .u64 0, .int .u64 0, .int .u64 0, .int .u64 0, .int .u64 0, .int .u64 0, .int .u64 0, .int .u64 0, .int .u64 0, .int .u64 0, .int .u64 0, .int .u64 0] 74)).farRow (g' := w1.heap.size) (by omega) E3
  replace h2 := (h2.alloc (.cells #[.int .u64 0, .int .u64 0, .int .u64 0, .int .u64 0, .int .u64 0, .int .u64 0, .int .u64 0, .int .u64 0, .int .u64 0, .int .u64 0, .int .u64 0, .int .u64 0, .int .u64 0, .int .u64 0, .int .u64 0, .int .u64 0] 74)).farRow (g' := w1.heap.size) (by omega) E3
  replace hR := (hR.alloc (.cells #[.int .u64 0, .int .u64 0, .int .u64 0, .int .u64 0, .int .u64 0, .int .u64 0, .int .u64 0, .int .u64 0, .int .u64 0, .int .u64 0, .int .u64 0, .int .u64 0, .int .u64 0, .int .u64 0, .int .u64 0, .int .u64 0] 74)).farRow (g' := w1.heap.size) (by omega) E3
  replace hU := (hU.alloc (.cells #[.int .u64 0, .int .u64 0, .int .u64 0, .int .u64 0, .int .u64 0, .int .u64 0, .int .u64 0, .int .u64 0, .int .u64 0, .int .u64 0, .int .u64 0, .int .u64 0, .int .u64 0, .int .u64 0, .int .u64 0, .int .u64 0] 74)).setRow (p := w1.heap.size) (by omega) E3
  go_upto_region 2 with (refine wpList_store_row rfl 74 _ _ rfl (w1.heap.size) E3 rfl rfl 74 #[.int .u64 0, .int .u64 0, .int .u64 0, .int .u64 0, .int .u64 0, .int .u64 0, .int .u64 0, .int .u64 0, .int .u64 0, .int .u64 0, .int .u64 0, .int .u64 0, .int .u64 0, .int .u64 0, .int .u64 0, .int .u64 0] (Row.new w1 74 #[.int .u64 0, .int .u64 0, .int .u64 0, .int .u64 0, .int .u64 0, .int .u64 0, .int .u64 0, .int .u64 0, .int .u64 0, .int .u64 0, .int .u64 0, .int .u64 0, .int .u64 0, .int .u64 0, .int .u64 0, .int .u64 0]) (size_De HE3) (sizeE HE3).symm (oneE HE3) ?_)
  obtain ⟨V2, hV2⟩ : ∃ V2, V2 = (w1.alloc (.cells #[.int .u64 0, .int .u64 0, .int .u64 0, .int .u64 0, .int .u64 0, .int .u64 0, .int .u64 0, .int .u64 0, .int .u64 0, .int .u64 0, .int .u64 0, .int .u64 0, .int .u64 0, .int .u64 0, .int .u64 0, .int .u64 0] 74)).setRow w1.heap.size E3 := ⟨_, rfl⟩
  rw [← hV2] at h1 h2 hR h5 hU ⊢
  clear hV2
  obtain ⟨g, hg⟩ : ∃ g, g = w1.heap.size := ⟨_, rfl⟩
  rw [← hg] at h5 z1 ⊢
  clear hg
  have MK : ∀ W, Row W w.heap.size 76 A1 → Row W (w.heap.size + 1) 76 A2 → (∃ cs : Array Value, Row W (w.heap.size + 1 + 1) 76 cs ∧ cs.size = 17) → Row W g 74 E3 → Up w.heap.size w W → Row W w.heap.size 76 A1 ∧ W.cell? ⟨w.heap.size, 0, none⟩ = some (.bool true) ∧ Row W (w.heap.size + 1) 76 A2 ∧ W.cell? ⟨w.heap.size + 1, 0, none⟩ = some (.bool false) ∧ (∃ cs : Array Value, Row W (w.heap.size + 1 + 1) 76 cs ∧ cs.size = 17) ∧ Row W g 74 E3 ∧ Up w.heap.size w W := fun W h1 h2 h3 h4 h5 => ⟨h1, by rw [h1.cell, zeroC HA1], h2, by rw [h2.cell, zeroC HA2], h3, h4, h5⟩
  have MK := hid MK
  refine wp_region_noPanic ?_
  refine wp_region_held_drew (S := fun W => Row W w.heap.size 76 A1 ∧ W.cell? ⟨w.heap.size, 0, none⟩ = some (.bool true) ∧ Row W (w.heap.size + 1) 76 A2 ∧ W.cell? ⟨w.heap.size + 1, 0, none⟩ = some (.bool false) ∧ (∃ cs : Array Value, Row W (w.heap.size + 1 + 1) 76 cs ∧ cs.size = 17) ∧ Row W g 74 E3 ∧ Up w.heap.size w W) (by kernel_rfl) (MK.out _ h1.drew h2.drew ⟨_, hR.drew, bigs_size _ _⟩ h5.drew hU.drew) (fun hHeld => ?_)
  refine wpAnyH_take (i := 0) (oi := { dst := some 11, op := Op.fieldAddr 76 (Operand.tmp 2) 0, type := 0, pos := "ref.go:172", after := #[], guard := none }) (v := ?_) rfl (by kernel_rfl) (by kernel_rfl) (by kernel_rfl) (fun _ _ _ h => h) (Or.inl ⟨by rfl, ?_⟩) hHeld ?_
  rotate_left
  · intro w' hSw; (try dsimp only at hSw); go_simp <;> with_reducible rfl
  try simp only [Act.put, List.setIfInBounds_toArray, List.set_cons_zero, List.set_cons_succ]
  refine wpAnyH_take (i := 1) (oi := { dst := some 12, op := Op.load 4 (Operand.tmp 11), type := 4, pos := "ref.go:172", after := #[{ on := 0, ground := Ground.data }], guard := none }) (v := ?_) rfl (by kernel_rfl) (by kernel_rfl) (by kernel_rfl) (fun _ _ _ h => h) (Or.inl ⟨by rfl, ?_⟩) hHeld ?_
  rotate_left
  · intro w' hSw; (try dsimp only at hSw); go_simp <;> with_reducible rfl
  try simp only [Act.put, List.setIfInBounds_toArray, List.set_cons_zero, List.set_cons_succ]
  refine wpAnyH_take (i := 2) (oi := { dst := some 13, op := Op.fieldAddr 76 (Operand.tmp 3) 0, type := 0, pos := "ref.go:172", after := #[], guard := none }) (v := ?_) rfl (by kernel_rfl) (by kernel_rfl) (by kernel_rfl) (fun _ _ _ h => h) (Or.inl ⟨by rfl, ?_⟩) hHeld ?_
  rotate_left
  · intro w' hSw; (try dsimp only at hSw); go_simp <;> with_reducible rfl
  try simp only [Act.put, List.setIfInBounds_toArray, List.set_cons_zero, List.set_cons_succ]
  refine wpAnyH_take (i := 3) (oi := { dst := some 14, op := Op.load 4 (Operand.tmp 13), type := 4, pos := "ref.go:172", after := #[{ on := 2, ground := Ground.data }], guard := none }) (v := ?_) rfl (by kernel_rfl) (by kernel_rfl) (by kernel_rfl) (fun _ _ _ h => h) (Or.inl ⟨by rfl, ?_⟩) hHeld ?_
  rotate_left
  · intro w' hSw; (try dsimp only at hSw); go_simp <;> with_reducible rfl
  try simp only [Act.put, List.setIfInBounds_toArray, List.set_cons_zero, List.set_cons_succ]
  refine wpAnyH_take (i := 4) (oi := { dst := some 15, op := Op.binOp BinOp.neq 4 (Operand.tmp 12) (Operand.tmp 14) 4, type := 4, pos := "ref.go:172", after := #[{ on := 1, ground := Ground.data }, { on := 3, ground := Ground.data }], guard := none }) (v := ?_) rfl (by kernel_rfl) (by kernel_rfl) (by kernel_rfl) (fun _ _ _ h => h) (Or.inl ⟨by rfl, ?_⟩) hHeld ?_
  rotate_left
  · intro w' hSw; (try dsimp only at hSw); go_simp <;> with_reducible rfl
  try simp only [Act.put, List.setIfInBounds_toArray, List.set_cons_zero, List.set_cons_succ]
  refine wpAnyH_take (i := 5) (oi := { dst := some 16, op := Op.move (Operand.tmp 15), type := 4, pos := "ref.go:172", after := #[{ on := 4, ground := Ground.data }], guard := none }) (v := ?_) rfl (by kernel_rfl) (by kernel_rfl) (by kernel_rfl) (fun _ _ _ h => h) (Or.inl ⟨by rfl, ?_⟩) hHeld ?_
  rotate_left
  · intro w' hSw; (try dsimp only at hSw); go_simp <;> with_reducible rfl
  try simp only [Act.put, List.setIfInBounds_toArray, List.set_cons_zero, List.set_cons_succ]
  refine wpAnyH_take (i := 6) (oi := { dst := some 17, op := Op.load 74 (Operand.tmp 5), type := 74, pos := "ref.go:172", after := #[{ on := 5, ground := Ground.guard }], guard := some (5, true) }) (v := .agg E3) rfl (by kernel_rfl) (by kernel_rfl) (by kernel_rfl) (fun _ _ _ h => h) (Or.inl ⟨by rfl, fun W hW => exec_load_row 74 _ rfl g rfl 74 E3 _ Tryd.underlying74 rfl (size_De HE3) W hW.2.2.2.2.2.1⟩) hHeld ?_
  try simp only [Act.put, List.setIfInBounds_toArray, List.set_cons_zero, List.set_cons_succ]
  refine wpAnyH_take (i := 10) (oi := { dst := some 21, op := Op.load 74 (Operand.tmp 5), type := 74, pos := "ref.go:172", after := #[], guard := none }) (v := .agg E3) rfl (by kernel_rfl) (by kernel_rfl) (by kernel_rfl) (fun _ _ _ h => h) (Or.inl ⟨by rfl, fun W hW => exec_load_row 74 _ rfl g rfl 74 E3 _ Tryd.underlying74 rfl (size_De HE3) W hW.2.2.2.2.2.1⟩) hHeld ?_
  try simp only [Act.put, List.setIfInBounds_toArray, List.set_cons_zero, List.set_cons_succ]
  refine wpAnyH_ready (rs := [7]) (by kernel_rfl) (by simp) ?_
  refine AllReadyH.cons (o := { dst := some 18, op := Op.call { callee := Callee.value (Operand.func 64), args := #[Operand.tmp 17], argTypes := #[74] }, type := 4, pos := "ref.go:172", after := #[{ on := 6, ground := Ground.data }, { on := 5, ground := Ground.chain }, { on := 5, ground := Ground.guard }], guard := some (5, true) }) rfl (fun K hK => ?_) AllReadyH.nil
  go_simp
  refine Calls.mono (HZ.out _) ?_; rintro e w2 ⟨rfl, hb⟩
  refine hK.out _ _ (MK.out _ ((hHeld.1).mod (Mod.of_below hb Nil) (fun hf => hf)) ((hHeld.2.2.1).mod (Mod.of_below hb Nil) (fun hf => hf)) (by obtain ⟨cs, h1, h2⟩ := hHeld.2.2.2.2.1; exact ⟨cs, (h1).mod (Mod.of_below hb Nil) (fun hf => hf), h2⟩) ((hHeld.2.2.2.2.2.1).mod (Mod.of_below hb Nil) (fun hf => hf)) (hHeld.2.2.2.2.2.2.trans hb)) (fun hHeld => ?_)
  clear hK K
  try simp only [Act.put, List.setIfInBounds_toArray, List.set_cons_zero, List.set_cons_succ]
  refine wpAnyH_take (i := 8) (oi := { dst := some 19, op := Op.unOp UnOp.not 4 (Operand.tmp 18), type := 4, pos := "ref.go:172", after := #[{ on := 7, ground := Ground.data }, { on := 5, ground := Ground.guard }], guard := some (5, true) }) (v := ?_) rfl (by kernel_rfl) (by kernel_rfl) (by kernel_rfl) (fun _ _ _ h => h) (Or.inl ⟨by rfl, ?_⟩) hHeld ?_
  rotate_left
  · intro w' hSw; (try dsimp only at hSw); go_simp <;> with_reducible rfl
  try simp only [Act.put, List.setIfInBounds_toArray, List.set_cons_zero, List.set_cons_succ]
  refine wpAnyH_take (i := 9) (oi := { dst := some 20, op := Op.pick (Operand.tmp 16) (Operand.tmp 19) (Operand.const (Value.bool false)), type := 4, pos := "ref.go:172", after := #[{ on := 5, ground := Ground.data }, { on := 8, ground := Ground.data }], guard := none }) (v := ?_) rfl (by kernel_rfl) (by kernel_rfl) (by kernel_rfl) (fun _ _ _ h => h) (Or.inl ⟨by rfl, ?_⟩) hHeld ?_
  rotate_left
  · intro w' hSw; (try dsimp only at hSw); go_simp <;> with_reducible rfl
  try simp only [Act.put, List.setIfInBounds_toArray, List.set_cons_zero, List.set_cons_succ]
  refine wpAnyH_take (i := 11) (oi := { dst := some 22, op := Op.build 76 #[(0, Operand.tmp 20), (1, Operand.tmp 21)], type := 76, pos := "ref.go:172", after := #[{ on := 9, ground := Ground.data }, { on := 10, ground := Ground.data }], guard := none }) (v := .agg C) rfl (by kernel_rfl) (by kernel_rfl) (by kernel_rfl) (fun _ _ _ h => h) (Or.inl ⟨by rfl, fun W hW => exec_build_C HC HE3 _ _ rfl rfl rfl⟩) hHeld ?_
  try simp only [Act.put, List.setIfInBounds_toArray, List.set_cons_zero, List.set_cons_succ]
  obtain ⟨cs, hcs, hcz⟩ := hHeld.2.2.2.2.1
  refine wpAnyH_ready (rs := [12]) (by kernel_rfl) (by simp) ?_
  refine AllReadyH.cons (o := { dst := none, op := Op.store 76 (Operand.tmp 4) (Operand.tmp 22), type := 0, pos := "ref.go:172", after := #[{ on := 11, ground := Ground.data }, { on := 7, ground := Ground.chain }, { on := 0, ground := Ground.phase }, { on := 1, ground := Ground.phase }, { on := 2, ground := Ground.phase }, { on := 3, ground := Ground.phase }, { on := 4, ground := Ground.phase }, { on := 5, ground := Ground.phase }, { on := 6, ground := Ground.phase }, { on := 7, ground := Ground.phase }, { on := 8, ground := Ground.phase }, { on := 9, ground := Ground.phase }, { on := 10, ground := Ground.phase }, { on := 11, ground := Ground.phase }], guard := none }) rfl (fun K hK => ?_) AllReadyH.nil
  refine (if_pos (by rfl)).mpr ?_
  refine wp_store_row 76 _ _ rfl (w.heap.size + 1 + 1) C rfl rfl 76 cs hcs (size_Bn (sizeC HC)) (by rw [hcz, sizeC HC]) (oneC HC) ?_
  refine hK.out _ _ (MK.out _ (hHeld.1.farRow (by omega) C) (hHeld.2.2.1.farRow (by omega) C) ⟨C, hcs.putRow C, sizeC HC⟩ (hHeld.2.2.2.2.2.1.farRow (by omega) C) (hHeld.2.2.2.2.2.2.setRow (by omega) C)) (fun hHeld => ?_)
  clear hK K
  try simp only [Act.put, List.setIfInBounds_toArray, List.set_cons_zero, List.set_cons_succ]
  refine wpAnyH_done (by kernel_rfl) ?_ _
  refine NoPanic.normal ?_
  go_wp2_with fail
  exact bodyPost_ret (v := .agg C) (results_cell_row Tryd.results63 _ _ (w.heap.size + 1 + 1) 76 C (0, 0) _ rfl (hcs.putRow _) Tryd.underlying76 rfl (size_Bn (sizeC HC))) rfl ⟨rfl, hHeld.2.2.2.2.2.2.below⟩

theorem rtimes_any (w : World) (x y : Int) (hx : x.natAbs < BP 8) (hy : y.natAbs < BP 7) : Calls Tryd.prog 63 #[BigZ x, BigZ y] w fun e w' => e = .returned (BigZ (x * y)) ∧ Below w.heap.size w w' := by
  rw [← times_z]
  unfold BigZ
  by_cases h1 : x < 0 <;> by_cases h2 : y < 0
  · simpa [h1, h2, BigZ] using times_tt w _ _ hx hy
  · simpa [h1, h2, BigZ] using times_tf w _ _ hx hy
  · simpa [h1, h2, BigZ] using times_ft w _ _ hx hy
  · simpa [h1, h2, BigZ] using times_ff w _ _ hx hy
end Go.Proofs.YtfalllekhcocgaaDoor
