/-
  The reference's Div of numbers of two words.
-/
import Derived.Test.YtfalllekhcocgaaDoorRefM
import Derived.Test.YtfalllekhcocgaaDoorDivAny
namespace Go.Proofs.YtfalllekhcocgaaDoor
open Go.RowKit

theorem neg_big (k : Nat) : BigV (!decide (k = 0)) k = BigZ (-(k : Int)) := by
  unfold BigZ
  rw [show (-(k : Int)).natAbs = k by omega]
  congr 1
  by_cases h : k = 0
  · subst h; simp
  · rw [decide_eq_false h, decide_eq_true (show -(k : Int) < 0 by omega)]; rfl
theorem pos_big (k : Nat) : BigV false k = BigZ (k : Int) := by
  unfold BigZ
  rw [show ((k : Int)).natAbs = k by omega, decide_eq_false (show ¬ (k : Int) < 0 by omega)]

set_option maxRecDepth 100000 in
set_option maxHeartbeats 4000000 in
theorem rdiv_zero (w : World) (x y : Int) (hx : Fits x) (hy : Fits y) (h0 : y = 0) : Calls Tryd.prog 32 #[WV x, WV y] w fun e w' => e = .returned (.tuple #[.agg #[.int .i64 0, .int .u64 0], .agg #[.int .i64 0, .int .u64 0], .int .i64 22]) ∧ Below w.heap.size w w' := by
  have O1 := fun w => rof_any w x hx
  have O2 := fun w => rof_any w y hy
  have ZY := fun w => rzero_any w y.natAbs (Nat.lt_of_lt_of_le (fits_small hy) (BP_le (by decide)))
  obtain ⟨xh, xl, e1⟩ : ∃ hi lo : Int, WV x = .agg #[.int .i64 hi, .int .u64 lo] := ⟨_, _, rfl⟩
  obtain ⟨yh, yl, e2⟩ : ∃ hi lo : Int, WV y = .agg #[.int .i64 hi, .int .u64 lo] := ⟨_, _, rfl⟩
  rw [show decide (y.natAbs = 0) = true by simp [h0]] at ZY
  rw [e1] at O1
  rw [e2] at O2
  rw [e1, e2]
  unfold BigZ at O1 O2
  unfold BigV at O1 O2
  unfold DV at ZY
  obtain ⟨C1, hC1⟩ : ∃ X, X = bigs (decide (x < 0)) x.natAbs := ⟨_, rfl⟩
  obtain ⟨C2, hC2⟩ : ∃ X, X = bigs (decide (y < 0)) y.natAbs := ⟨_, rfl⟩
  obtain ⟨E2, hE2⟩ : ∃ X, X = digs y.natAbs := ⟨_, rfl⟩
  rw [← hC1] at O1
  rw [← hC2] at O2
  rw [← hE2] at ZY
  have H1 := hid hC1
  have H2 := hid hC2
  have HE2 := hid hE2
  have HO1 := hid O1
  have HO2 := hid O2
  have HZY := hid ZY
  clear O1 O2 ZY e1 e2 hC1 hC2 hE2 hx hy h0
  have rx := (((Row.new w 24 #[.int .i64 xh, .int .u64 xl]).alloc (.cells #[.int .i64 yh, .int .u64 yl] 24)).alloc (.cells #[.int .i64 0, .int .u64 0] 24)).alloc (.cells #[.int .i64 0, .int .u64 0] 24)
  have ry := ((Row.new (w.alloc (.cells #[.int .i64 xh, .int .u64 xl] 24)) 24 #[.int .i64 yh, .int .u64 yl]).alloc (.cells #[.int .i64 0, .int .u64 0] 24)).alloc (.cells #[.int .i64 0, .int .u64 0] 24)
  have rq := (Row.new ((w.alloc (.cells #[.int .i64 xh, .int .u64 xl] 24)).alloc (.cells #[.int .i64 yh, .int .u64 yl] 24)) 24 #[.int .i64 0, .int .u64 0]).alloc (.cells #[.int .i64 0, .int .u64 0] 24)
  have rr := Row.new (((w.alloc (.cells #[.int .i64 xh, .int .u64 xl] 24)).alloc (.cells #[.int .i64 yh, .int .u64 yl] 24)).alloc (.cells #[.int .i64 0, .int .u64 0] 24)) 24 #[.int .i64 0, .int .u64 0]
  have hU := ((((Up.refl w).alloc (.cells #[.int .i64 xh, .int .u64 xl] 24)).alloc (.cells #[.int .i64 yh, .int .u64 yl] 24)).alloc (.cells #[.int .i64 0, .int .u64 0] 24)).alloc (.cells #[.int .i64 0, .int .u64 0] 24)
  simp only [alloc_size] at ry rq rr
  go_enter Tryd.func32, Tryd.ntmps32
  go_upto_region 1 with fail
  obtain ⟨V, hV⟩ : ∃ V, V = (((w.alloc (.cells #[.int .i64 xh, .int .u64 xl] 24)).alloc (.cells #[.int .i64 yh, .int .u64 yl] 24)).alloc (.cells #[.int .i64 0, .int .u64 0] 24)).alloc (.cells #[.int .i64 0, .int .u64 0] 24) := ⟨_, rfl⟩
  rw [← hV] at rx ry rq rr hU ⊢
  clear hV
  have cx0 : V.cell? ⟨w.heap.size, 0, none⟩ = some (.int .i64 xh) := by simpa using rx.cell 0
  have cx1 : V.cell? ⟨w.heap.size, 1, none⟩ = some (.int .u64 xl) := by simpa using rx.cell 1
  go_wp2_with fail
  refine Calls.mono (HO1.out _) ?_; rintro e w1 ⟨rfl, hb⟩
  have z1 := hb.size
  have l1 := rr.lt
  clear cx0 cx1
  replace rx := (rx).mod (Mod.of_below hb Nil) (fun hf => hf)
  replace ry := (ry).mod (Mod.of_below hb Nil) (fun hf => hf)
  replace rq := (rq).mod (Mod.of_below hb Nil) (fun hf => hf)
  replace rr := (rr).mod (Mod.of_below hb Nil) (fun hf => hf)
  replace hU := hU.trans hb
  clear hb
  have r7 := (Row.new w1 76 #[.bool false, .int .u64 0, .int .u64 0, .int .u64 0, .int .u64 0, .int .u64 0, .int .u64 0, .int .u64 0, .int .u64 0, .int .u64 0, .int .u64 0, .int .u64 0, .int .u64 0, .int .u64 0, .int .u64 0, .int .u64 0, .int .u64 0]).putRow C1
  replace rx := (rx.alloc (.cells #[.bool false, .int .u64 0, .int .u64 0, .int .u64 0, .int .u64 0, .int .u64 0, .int .u64 0, .int .u64 0, .int .u64 0, .int .u64 0, .int .u64 0, .int .u64 0, .int .u64 0, .int .u64 0, .int .u64 0, .int .u64 0, .int .u64 0] 76)).farRow (g' := w1.heap.size) (by omega) C1
  replace ry := (ry.alloc (.cells #[.bool false, .int .u64 0, .int .u64 0, .int .u64 0, .int .u64 0, .int .u64 0, .int .u64 0, .int .u64 0, .int .u64 0, .int .u64 0, .int .u64 0, .int .u64 0, .int .u64 0, .int .u64 0, .int .u64 0, .int .u64 0, .int .u64 0] 76)).farRow (g' := w1.heap.size) (by omega) C1
  replace rq := (rq.alloc (.cells #[.bool false, .int .u64 0, .int .u64 0, .int .u64 0, .int .u64 0, .int .u64 0, .int .u64 0, .int .u64 0, .int .u64 0, .int .u64 0, .int .u64 0, .int .u64 0, .int .u64 0, .int .u64 0, .int .u64 0, .int .u64 0, .int .u64 0] 76)).farRow (g' := w1.heap.size) (by omega) C1
  replace rr := (rr.alloc (.cells #[.bool false, .int .u64 0, .int .u64 0, .int .u64 0, .int .u64 0, .int .u64 0, .int .u64 0, .int .u64 0, .int .u64 0, .int .u64 0, .int .u64 0, .int .u64 0, .int .u64 0, .int .u64 0, .int .u64 0, .int .u64 0, .int .u64 0] 76)).farRow (g' := w1.heap.size) (by omega) C1
  replace hU := (hU.alloc (.cells #[.bool false, .int .u64 0, .int .u64 0, .int .u64 0, .int .u64 0, .int .u64 0, .int .u64 0, .int .u64 0, .int .u64 0, .int .u64 0, .int .u64 0, .int .u64 0, .int .u64 0, .int .u64 0, .int .u64 0, .int .u64 0, .int .u64 0] 76)).setRow (p := w1.heap.size) (by omega) C1
  go_upto_region 2 with (refine wpList_store_row rfl 76 _ _ rfl (w1.heap.size) C1 rfl rfl 76 #[.bool false, .int .u64 0, .int .u64 0, .int .u64 0, .int .u64 0, .int .u64 0, .int .u64 0, .int .u64 0, .int .u64 0, .int .u64 0, .int .u64 0, .int .u64 0, .int .u64 0, .int .u64 0, .int .u64 0, .int .u64 0, .int .u64 0] (Row.new w1 76 #[.bool false, .int .u64 0, .int .u64 0, .int .u64 0, .int .u64 0, .int .u64 0, .int .u64 0, .int .u64 0, .int .u64 0, .int .u64 0, .int .u64 0, .int .u64 0, .int .u64 0, .int .u64 0, .int .u64 0, .int .u64 0, .int .u64 0]) (size_Bn (sizeC H1)) (by rw [sizeC H1]; rfl) (oneC H1) ?_)
  obtain ⟨V1, hV1⟩ : ∃ V1, V1 = (w1.alloc (.cells #[.bool false, .int .u64 0, .int .u64 0, .int .u64 0, .int .u64 0, .int .u64 0, .int .u64 0, .int .u64 0, .int .u64 0, .int .u64 0, .int .u64 0, .int .u64 0, .int .u64 0, .int .u64 0, .int .u64 0, .int .u64 0, .int .u64 0] 76)).setRow w1.heap.size C1 := ⟨_, rfl⟩
  rw [← hV1] at rx ry rq rr r7 hU ⊢
  have zv1 : V1.heap.size = w1.heap.size + 1 := by rw [hV1, setRow_size, alloc_size]
  clear hV1
  obtain ⟨g7, hg7⟩ : ∃ g, g = w1.heap.size := ⟨_, rfl⟩
  rw [← hg7] at r7 z1 zv1 ⊢
  clear hg7
  have cx0 : V1.cell? ⟨w.heap.size + 1, 0, none⟩ = some (.int .i64 yh) := by simpa using ry.cell 0
  have cx1 : V1.cell? ⟨w.heap.size + 1, 1, none⟩ = some (.int .u64 yl) := by simpa using ry.cell 1
  go_wp2_with fail
  refine Calls.mono (HO2.out _) ?_; rintro e w2 ⟨rfl, hb⟩
  have z2 := hb.size
  clear cx0 cx1
  replace rx := (rx).mod (Mod.of_below hb Nil) (fun hf => hf)
  replace ry := (ry).mod (Mod.of_below hb Nil) (fun hf => hf)
  replace rq := (rq).mod (Mod.of_below hb Nil) (fun hf => hf)
  replace rr := (rr).mod (Mod.of_below hb Nil) (fun hf => hf)
  replace r7 := (r7).mod (Mod.of_below hb Nil) (fun hf => hf)
  replace hU := hU.trans hb
  clear hb
  have r8 := (Row.new w2 76 #[.bool false, .int .u64 0, .int .u64 0, .int .u64 0, .int .u64 0, .int .u64 0, .int .u64 0, .int .u64 0, .int .u64 0, .int .u64 0, .int .u64 0, .int .u64 0, .int .u64 0, .int .u64 0, .int .u64 0, .int .u64 0, .int .u64 0]).putRow C2
  replace rx := (rx.alloc (.cells #[.bool false, .int .u64 0, .int .u64 0, .int .u64 0, .int .u64 0, .int .u64 0, .int .u64 0, .int .u64 0, .int .u64 0, .int .u64 0, .int .u64 0, .int .u64 0, .int .u64 0, .int .u64 0, .int .u64 0, .int .u64 0, .int .u64 0] 76)).farRow (g' := w2.heap.size) (by omega) C2
  replace ry := (ry.alloc (.cells #[.bool false, .int .u64 0, .int .u64 0, .int .u64 0, .int .u64 0, .int .u64 0, .int .u64 0, .int .u64 0, .int .u64 0, .int .u64 0, .int .u64 0, .int .u64 0, .int .u64 0, .int .u64 0, .int .u64 0, .int .u64 0, .int .u64 0] 76)).farRow (g' := w2.heap.size) (by omega) C2
  replace rq := (rq.alloc (.cells #[.bool false, .int .u64 0, .int .u64 0, .int .u64 0, .int .u64 0, .int .u64 0, .int .u64 0, .int .u64 0, .int .u64 0, .int .u64 0, .int .u64 0, .int .u64 0, .int .u64 0, .int .u64 0, .int .u64 0, .int .u64 0, .int .u64 0] 76)).farRow (g' := w2.heap.size) (by omega) C2
  replace rr := (rr.alloc (.cells #[.bool false, .int .u64 0, .int .u64 0, .int .u64 0, .int .u64 0, .int .u64 0, .int .u64 0, .int .u64 0, .int .u64 0, .int .u64 0, .int .u64 0, .int .u64 0, .int .u64 0, .int .u64 0, .int .u64 0, .int .u64 0, .int .u64 0] 76)).farRow (g' := w2.heap.size) (by omega) C2
  replace r7 := (r7.alloc (.cells #[.bool false, .int .u64 0, .int .u64 0, .int .u64 0, .int .u64 0, .int .u64 0, .int .u64 0, .int .u64 0, .int .u64 0, .int .u64 0, .int .u64 0, .int .u64 0, .int .u64 0, .int .u64 0, .int .u64 0, .int .u64 0, .int .u64 0] 76)).farRow (g' := w2.heap.size) (by omega) C2
  replace hU := (hU.alloc (.cells #[.bool false, .int .u64 0, .int .u64 0, .int .u64 0, .int .u64 0, .int .u64 0, .int .u64 0, .int .u64 0, .int .u64 0, .int .u64 0, .int .u64 0, .int .u64 0, .int .u64 0, .int .u64 0, .int .u64 0, .int .u64 0, .int .u64 0] 76)).setRow (p := w2.heap.size) (by omega) C2
  go_upto_region 3 with (refine wpList_store_row rfl 76 _ _ rfl (w2.heap.size) C2 rfl rfl 76 #[.bool false, .int .u64 0, .int .u64 0, .int .u64 0, .int .u64 0, .int .u64 0, .int .u64 0, .int .u64 0, .int .u64 0, .int .u64 0, .int .u64 0, .int .u64 0, .int .u64 0, .int .u64 0, .int .u64 0, .int .u64 0, .int .u64 0] (Row.new w2 76 #[.bool false, .int .u64 0, .int .u64 0, .int .u64 0, .int .u64 0, .int .u64 0, .int .u64 0, .int .u64 0, .int .u64 0, .int .u64 0, .int .u64 0, .int .u64 0, .int .u64 0, .int .u64 0, .int .u64 0, .int .u64 0, .int .u64 0]) (size_Bn (sizeC H2)) (by rw [sizeC H2]; rfl) (oneC H2) ?_)
  obtain ⟨V2, hV2⟩ : ∃ V2, V2 = (w2.alloc (.cells #[.bool false, .int .u64 0, .int .u64 0, .int .u64 0, .int .u64 0, .int .u64 0, .int .u64 0, .int .u64 0, .int .u64 0, .int .u64 0, .int .u64 0, .int .u64 0, .int .u64 0, .int .u64 0, .int .u64 0, .int .u64 0, .int .u64 0] 76)).setRow w2.heap.size C2 := ⟨_, rfl⟩
  rw [← hV2] at rx ry rq rr r7 r8 hU ⊢
  have zv2 : V2.heap.size = w2.heap.size + 1 := by rw [hV2, setRow_size, alloc_size]
  clear hV2
  obtain ⟨g8, hg8⟩ : ∃ g, g = w2.heap.size := ⟨_, rfl⟩
  rw [← hg8] at r8 z2 zv2 ⊢
  clear hg8 rx ry
  go_wp2_with (refine wpList_load_E rfl H2 HE2 (.tmp 15) rfl (g8) rfl 76 r8 ?_)
  refine Calls.mono (HZY.out _) ?_; rintro e w3 ⟨rfl, hb⟩
  have z3 := hb.size
  replace rq := (rq).mod (Mod.of_below hb Nil) (fun hf => hf)
  replace rr := (rr).mod (Mod.of_below hb Nil) (fun hf => hf)
  replace r7 := (r7).mod (Mod.of_below hb Nil) (fun hf => hf)
  replace r8 := (r8).mod (Mod.of_below hb Nil) (fun hf => hf)
  replace hU := hU.trans hb
  clear hb
  go_upto_region 4 with fail
  refine wp_region_noPanic ?_
  refine wp_region_held_drew (S := fun W => W = w3.drew) (by kernel_rfl) (rfl) (fun hHeld => ?_)
  refine wpAnyH_take (i := 0) (oi := { dst := some 18, op := Op.load 24 (Operand.tmp 4), type := 24, pos := "ref.go:182", after := #[], guard := none }) (v := .agg #[.int .i64 0, .int .u64 0]) rfl (by kernel_rfl) (by kernel_rfl) (by kernel_rfl) (fun _ _ _ h => h) (Or.inl ⟨by rfl, fun W hW => exec_load_row 24 _ rfl (w.heap.size + 1 + 1) rfl 24 #[.int .i64 0, .int .u64 0] _ Tryd.underlying24 rfl size_W W (by rw [hW]; exact rq.drew)⟩) hHeld ?_
  try simp only [Act.put, List.setIfInBounds_toArray, List.set_cons_zero, List.set_cons_succ]
  refine wpAnyH_take (i := 1) (oi := { dst := some 19, op := Op.load 24 (Operand.tmp 5), type := 24, pos := "ref.go:182", after := #[{ on := 2, ground := Ground.gcOnly Departure.lateStores }], guard := none }) (v := .agg #[.int .i64 0, .int .u64 0]) rfl (by kernel_rfl) (by kernel_rfl) (by kernel_rfl) (fun _ _ _ h => h) (Or.inl ⟨by rfl, fun W hW => exec_load_row 24 _ rfl (w.heap.size + 1 + 1 + 1) rfl 24 #[.int .i64 0, .int .u64 0] _ Tryd.underlying24 rfl size_W W (by rw [hW]; exact rr.drew)⟩) hHeld ?_
  try simp only [Act.put, List.setIfInBounds_toArray, List.set_cons_zero, List.set_cons_succ]
  refine wpAnyH_ready (rs := [2]) (by kernel_rfl) (by simp) ?_
  refine AllReadyH.cons (o := { dst := none, op := Op.store 24 (Operand.tmp 4) (Operand.tmp 18), type := 0, pos := "ref.go:182", after := #[{ on := 0, ground := Ground.data }, { on := 0, ground := Ground.phase }, { on := 1, ground := Ground.textOnly Departure.lateStores }], guard := none }) rfl (fun K hK => ?_) AllReadyH.nil
  refine (if_pos (by rfl)).mpr ?_
  refine wp_store_row 24 _ _ rfl (w.heap.size + 1 + 1) #[.int .i64 0, .int .u64 0] rfl rfl 24 #[.int .i64 0, .int .u64 0] rq.drew size_W rfl (by simp [Value.oneCell']) ?_
  rw [Row.setRow_same rq.drew]
  refine hK.out _ _ (rfl) (fun hHeld => ?_)
  clear hK K
  try simp only [Act.put, List.setIfInBounds_toArray, List.set_cons_zero, List.set_cons_succ]
  refine wpAnyH_ready (rs := [3]) (by kernel_rfl) (by simp) ?_
  refine AllReadyH.cons (o := { dst := none, op := Op.store 24 (Operand.tmp 5) (Operand.tmp 19), type := 0, pos := "ref.go:182", after := #[{ on := 1, ground := Ground.data }, { on := 2, ground := Ground.chain }, { on := 0, ground := Ground.phase }, { on := 1, ground := Ground.phase }, { on := 2, ground := Ground.phase }], guard := none }) rfl (fun K hK => ?_) AllReadyH.nil
  refine (if_pos (by rfl)).mpr ?_
  refine wp_store_row 24 _ _ rfl (w.heap.size + 1 + 1 + 1) #[.int .i64 0, .int .u64 0] rfl rfl 24 #[.int .i64 0, .int .u64 0] rr.drew size_W rfl (by simp [Value.oneCell']) ?_
  rw [Row.setRow_same rr.drew]
  refine hK.out _ _ (rfl) (fun hHeld => ?_)
  clear hK K
  try simp only [Act.put, List.setIfInBounds_toArray, List.set_cons_zero, List.set_cons_succ]
  refine wpAnyH_take (i := 4) (oi := { dst := some 6, op := Op.assign (Operand.const (Value.int IntKind.i64 22)), type := 25, pos := "ref.go:182", after := #[{ on := 3, ground := Ground.chain }, { on := 0, ground := Ground.phase }, { on := 1, ground := Ground.phase }, { on := 2, ground := Ground.phase }, { on := 3, ground := Ground.phase }], guard := none }) (v := ?_) rfl (by kernel_rfl) (by kernel_rfl) (by kernel_rfl) (fun _ _ _ h => h) (Or.inl ⟨by rfl, ?_⟩) hHeld ?_
  rotate_left
  · intro w' hSw; (try dsimp only at hSw); go_simp <;> with_reducible rfl
  try simp only [Act.put, List.setIfInBounds_toArray, List.set_cons_zero, List.set_cons_succ]
  refine wpAnyH_done (by kernel_rfl) ?_ _
  refine NoPanic.normal ?_
  go_wp2_with fail
  have r1 := run_loadVar_row (P := Tryd.prog) w3.drew (w.heap.size + 1 + 1) 24 24 #[.int .i64 0, .int .u64 0] (0, 0) _ rq.drew Tryd.underlying24 rfl size_W
  have r2 := run_loadVar_row (P := Tryd.prog) w3.drew (w.heap.size + 1 + 1 + 1) 24 24 #[.int .i64 0, .int .u64 0] (0, 0) _ rr.drew Tryd.underlying24 rfl size_W
  exact bodyPost_ret (v := .tuple #[.agg #[.int .i64 0, .int .u64 0], .agg #[.int .i64 0, .int .u64 0], .int .i64 22]) (by simp [results, Tryd.results32, asAddr, r1, r2]) rfl ⟨rfl, hU.drew.below⟩

set_option maxRecDepth 100000 in
set_option maxHeartbeats 4000000 in
theorem rdiv_ff (w : World) (x y : Int) (hx : Fits x) (hy : Fits y) (h0 : y ≠ 0) (ha : decide (x < 0) = false) (hbn : decide (y < 0) = false) (k l : Nat) (hk : x.natAbs / y.natAbs = k) (hl : x.natAbs % y.natAbs = l) (qf : Fits ((k : Int))) (rf : Fits ((l : Int))) (qh ql rh rl : Int) (eq : WV ((k : Int)) = .agg #[.int .i64 qh, .int .u64 ql]) (er : WV ((l : Int)) = .agg #[.int .i64 rh, .int .u64 rl]) : Calls Tryd.prog 32 #[WV x, WV y] w fun e w' => e = .returned (.tuple #[.agg #[.int .i64 qh, .int .u64 ql], .agg #[.int .i64 rh, .int .u64 rl], .int .i64 0]) ∧ Below w.heap.size w w' := by
  have O1 := fun w => rof_any w x hx
  have O2 := fun w => rof_any w y hy
  have ZY := fun w => rzero_any w y.natAbs (Nat.lt_of_lt_of_le (fits_small hy) (BP_le (by decide)))
  obtain ⟨xh, xl, e1⟩ : ∃ hi lo : Int, WV x = .agg #[.int .i64 hi, .int .u64 lo] := ⟨_, _, rfl⟩
  obtain ⟨yh, yl, e2⟩ : ∃ hi lo : Int, WV y = .agg #[.int .i64 hi, .int .u64 lo] := ⟨_, _, rfl⟩
  have sx := fits_small hx
  have sy := fits_small hy
  have QD := fun w => rdiv_any w x.natAbs y.natAbs (Nat.lt_of_lt_of_le sx (BP_le (by decide))) (Nat.lt_of_lt_of_le sy (BP_le (by decide))) (by omega)
  rw [hk, hl] at QD
  have bk : k < BP 16 := by rw [← hk]; exact Nat.lt_of_le_of_lt (Nat.div_le_self _ _) (Nat.lt_of_lt_of_le sx (BP_le (by decide)))
  have bl : l < BP 16 := by rw [← hl]; exact Nat.lt_of_le_of_lt (Nat.mod_le _ _) (Nat.lt_of_lt_of_le sx (BP_le (by decide)))
  have ZK := fun w => rzero_any w k bk
  have ZL := fun w => rzero_any w l bl
  have WQ := fun w => rwide_any w ((k : Int)) (by omega)
  have WR := fun w => rwide_any w ((l : Int)) (by omega)
  rw [show decide (y.natAbs = 0) = false by simp; omega] at ZY
  rw [resV_fit qf] at WQ
  rw [← pos_big] at WQ
  rw [← pos_big] at WR
  rw [resV_fit rf, er] at WR
  rw [eq] at WQ
  obtain ⟨z, hz⟩ : ∃ z, z = decide (k = 0) := ⟨_, rfl⟩
  obtain ⟨zr, hzr⟩ : ∃ z, z = decide (l = 0) := ⟨_, rfl⟩
  rw [← hz] at ZK
  rw [← hzr] at ZL
  have e0 : WV 0 = .agg #[.int .i64 0, .int .u64 0] := by kernel_rfl
  rw [e1] at O1
  rw [e2] at O2
  rw [e1, e2]
  unfold BigZ at O1 O2
  rw [ha] at O1
  rw [hbn] at O2
  unfold BigV at O1 O2 WQ WR
  unfold DV at ZY QD ZK ZL
  obtain ⟨C1, hC1⟩ : ∃ X, X = bigs false x.natAbs := ⟨_, rfl⟩
  obtain ⟨C2, hC2⟩ : ∃ X, X = bigs false y.natAbs := ⟨_, rfl⟩
  obtain ⟨E1, hE1⟩ : ∃ X, X = digs x.natAbs := ⟨_, rfl⟩
  obtain ⟨E2, hE2⟩ : ∃ X, X = digs y.natAbs := ⟨_, rfl⟩
  obtain ⟨E3, hE3⟩ : ∃ X, X = digs k := ⟨_, rfl⟩
  obtain ⟨E4, hE4⟩ : ∃ X, X = digs l := ⟨_, rfl⟩
  obtain ⟨C3, hC3⟩ : ∃ X, X = bigs false k := ⟨_, rfl⟩
  obtain ⟨C4, hC4⟩ : ∃ X, X = bigs false l := ⟨_, rfl⟩
  rw [← hC1] at O1
  rw [← hC2] at O2
  rw [← hE2] at ZY
  rw [← hE1, ← hE2, ← hE3, ← hE4] at QD
  rw [← hE3] at ZK
  rw [← hE4] at ZL
  rw [← hC3] at WQ
  rw [← hC4] at WR
  have H1 := hid hC1
  have H2 := hid hC2
  have H3 := hid hC3
  have H4 := hid hC4
  have HE1 := hid hE1
  have HE2 := hid hE2
  have HE3 := hid hE3
  have HE4 := hid hE4
  have HO1 := hid O1
  have HO2 := hid O2
  have HZY := hid ZY
  have HQD := hid QD
  have HZK := hid ZK
  have HZL := hid ZL
  have HWQ := hid WQ
  have HWR := hid WR
  clear O1 O2 ZY QD ZK ZL WQ WR e0 e1 e2 hC1 hC2 hC3 hC4 hE1 hE2 hE3 hE4 hx hy h0 ha hbn hk hl bk bl sx sy hz hzr qf rf eq er
  have rx := (((Row.new w 24 #[.int .i64 xh, .int .u64 xl]).alloc (.cells #[.int .i64 yh, .int .u64 yl] 24)).alloc (.cells #[.int .i64 0, .int .u64 0] 24)).alloc (.cells #[.int .i64 0, .int .u64 0] 24)
  have ry := ((Row.new (w.alloc (.cells #[.int .i64 xh, .int .u64 xl] 24)) 24 #[.int .i64 yh, .int .u64 yl]).alloc (.cells #[.int .i64 0, .int .u64 0] 24)).alloc (.cells #[.int .i64 0, .int .u64 0] 24)
  have rq := (Row.new ((w.alloc (.cells #[.int .i64 xh, .int .u64 xl] 24)).alloc (.cells #[.int .i64 yh, .int .u64 yl] 24)) 24 #[.int .i64 0, .int .u64 0]).alloc (.cells #[.int .i64 0, .int .u64 0] 24)
  have rr := Row.new (((w.alloc (.cells #[.int .i64 xh, .int .u64 xl] 24)).alloc (.cells #[.int .i64 yh, .int .u64 yl] 24)).alloc (.cells #[.int .i64 0, .int .u64 0] 24)) 24 #[.int .i64 0, .int .u64 0]
  have hU := ((((Up.refl w).alloc (.cells #[.int .i64 xh, .int .u64 xl] 24)).alloc (.cells #[.int .i64 yh, .int .u64 yl] 24)).alloc (.cells #[.int .i64 0, .int .u64 0] 24)).alloc (.cells #[.int .i64 0, .int .u64 0] 24)
  simp only [alloc_size] at ry rq rr
  go_enter Tryd.func32, Tryd.ntmps32
  go_upto_region 1 with fail
  obtain ⟨V, hV⟩ : ∃ V, V = (((w.alloc (.cells #[.int .i64 xh, .int .u64 xl] 24)).alloc (.cells #[.int .i64 yh, .int .u64 yl] 24)).alloc (.cells #[.int .i64 0, .int .u64 0] 24)).alloc (.cells #[.int .i64 0, .int .u64 0] 24) := ⟨_, rfl⟩
  rw [← hV] at rx ry rq rr hU ⊢
  clear hV
  have cx0 : V.cell? ⟨w.heap.size, 0, none⟩ = some (.int .i64 xh) := by simpa using rx.cell 0
  have cx1 : V.cell? ⟨w.heap.size, 1, none⟩ = some (.int .u64 xl) := by simpa using rx.cell 1
  go_wp2_with fail
  refine Calls.mono (HO1.out _) ?_; rintro e w1 ⟨rfl, hb⟩
  have z1 := hb.size
  have l1 := rr.lt
  clear cx0 cx1
  replace rx := (rx).mod (Mod.of_below hb Nil) (fun hf => hf)
  replace ry := (ry).mod (Mod.of_below hb Nil) (fun hf => hf)
  replace rq := (rq).mod (Mod.of_below hb Nil) (fun hf => hf)
  replace rr := (rr).mod (Mod.of_below hb Nil) (fun hf => hf)
  replace hU := hU.trans hb
  clear hb
  have r7 := (Row.new w1 76 #[.bool false, .int .u64 0, .int .u64 0, .int .u64 0, .int .u64 0, .int .u64 0, .int .u64 0, .int .u64 0, .int .u64 0, .int .u64 0, .int .u64 0, .int .u64 0, .int .u64 0, .int .u64 0, .int .u64 0, .int .u64 0, .int .u64 0]).putRow C1
  replace rx := (rx.alloc (.cells #[.bool false, .int .u64 0, .int .u64 0, .int .u64 0, .int .u64 0, .int .u64 0, .int .u64 0, .int .u64 0, .int .u64 0, .int .u64 0, .int .u64 0, .int .u64 0, .int .u64 0, .int .u64 0, .int .u64 0, .int .u64 0, .int .u64 0] 76)).farRow (g' := w1.heap.size) (by omega) C1
  replace ry := (ry.alloc (.cells #[.bool false, .int .u64 0, .int .u64 0, .int .u64 0, .int .u64 0, .int .u64 0, .int .u64 0, .int .u64 0, .int .u64 0, .int .u64 0, .int .u64 0, .int .u64 0, .int .u64 0, .int .u64 0, .int .u64 0, .int .u64 0, .int .u64 0] 76)).farRow (g' := w1.heap.size) (by omega) C1
  replace rq := (rq.alloc (.cells #[.bool false, .int .u64 0, .int .u64 0, .int .u64 0, .int .u64 0, .int .u64 0, .int .u64 0, .int .u64 0, .int .u64 0, .int .u64 0, .int .u64 0, .int .u64 0, .int .u64 0, .int .u64 0, .int .u64 0, .int .u64 0, .int .u64 0] 76)).farRow (g' := w1.heap.size) (by omega) C1
  replace rr := (rr.alloc (.cells #[.bool false, .int .u64 0, .int .u64 0, .int .u64 0, .int .u64 0, .int .u64 0, .int .u64 0, .int .u64 0, .int .u64 0, .int .u64 0, .int .u64 0, .int .u64 0, .int .u64 0, .int .u64 0, .int .u64 0, .int .u64 0, .int .u64 0] 76)).farRow (g' := w1.heap.size) (by omega) C1
  replace hU := (hU.alloc (.cells #[.bool false, .int .u64 0, .int .u64 0, .int .u64 0, .int .u64 0, .int .u64 0, .int .u64 0, .int .u64 0, .int .u64 0, .int .u64 0, .int .u64 0, .int .u64 0, .int .u64 0, .int .u64 0, .int .u64 0, .int .u64 0, .int .u64 0] 76)).setRow (p := w1.heap.size) (by omega) C1
  go_upto_region 2 with (refine wpList_store_row rfl 76 _ _ rfl (w1.heap.size) C1 rfl rfl 76 #[.bool false, .int .u64 0, .int .u64 0, .int .u64 0, .int .u64 0, .int .u64 0, .int .u64 0, .int .u64 0, .int .u64 0, .int .u64 0, .int .u64 0, .int .u64 0, .int .u64 0, .int .u64 0, .int .u64 0, .int .u64 0, .int .u64 0] (Row.new w1 76 #[.bool false, .int .u64 0, .int .u64 0, .int .u64 0, .int .u64 0, .int .u64 0, .int .u64 0, .int .u64 0, .int .u64 0, .int .u64 0, .int .u64 0, .int .u64 0, .int .u64 0, .int .u64 0, .int .u64 0, .int .u64 0, .int .u64 0]) (size_Bn (sizeC H1)) (by rw [sizeC H1]; rfl) (oneC H1) ?_)
  obtain ⟨V1, hV1⟩ : ∃ V1, V1 = (w1.alloc (.cells #[.bool false, .int .u64 0, .int .u64 0, .int .u64 0, .int .u64 0, .int .u64 0, .int .u64 0, .int .u64 0, .int .u64 0, .int .u64 0, .int .u64 0, .int .u64 0, .int .u64 0, .int .u64 0, .int .u64 0, .int .u64 0, .int .u64 0] 76)).setRow w1.heap.size C1 := ⟨_, rfl⟩
  rw [← hV1] at rx ry rq rr r7 hU ⊢
  have zv1 : V1.heap.size = w1.heap.size + 1 := by rw [hV1, setRow_size, alloc_size]
  clear hV1
  obtain ⟨g7, hg7⟩ : ∃ g, g = w1.heap.size := ⟨_, rfl⟩
  rw [← hg7] at r7 z1 zv1 ⊢
  clear hg7
  have cx0 : V1.cell? ⟨w.heap.size + 1, 0, none⟩ = some (.int .i64 yh) := by simpa using ry.cell 0
  have cx1 : V1.cell? ⟨w.heap.size + 1, 1, none⟩ = some (.int .u64 yl) := by simpa using ry.cell 1
  go_wp2_with fail
  refine Calls.mono (HO2.out _) ?_; rintro e w2 ⟨rfl, hb⟩
  have z2 := hb.size
  clear cx0 cx1
  replace rx := (rx).mod (Mod.of_below hb Nil) (fun hf => hf)
  replace ry := (ry).mod (Mod.of_below hb Nil) (fun hf => hf)
  replace rq := (rq).mod (Mod.of_below hb Nil) (fun hf => hf)
  replace rr := (rr).mod (Mod.of_below hb Nil) (fun hf => hf)
  replace r7 := (r7).mod (Mod.of_below hb Nil) (fun hf => hf)
  replace hU := hU.trans hb
  clear hb
  have r8 := (Row.new w2 76 #[.bool false, .int .u64 0, .int .u64 0, .int .u64 0, .int .u64 0, .int .u64 0, .int .u64 0, .int .u64 0, .int .u64 0, .int .u64 0, .int .u64 0, .int .u64 0, .int .u64 0, .int .u64 0, .int .u64 0, .int .u64 0, .int .u64 0]).putRow C2
  replace rx := (rx.alloc (.cells #[.bool false, .int .u64 0, .int .u64 0, .int .u64 0, .int .u64 0, .int .u64 0, .int .u64 0, .int .u64 0, .int .u64 0, .int .u64 0, .int .u64 0, .int .u64 0, .int .u64 0, .int .u64 0, .int .u64 0, .int .u64 0, .int .u64 0] 76)).farRow (g' := w2.heap.size) (by omega) C2
  replace ry := (ry.alloc (.cells #[.bool false, .int .u64 0, .int .u64 0, .int .u64 0, .int .u64 0, .int .u64 0, .int .u64 0, .int .u64 0, .int .u64 0, .int .u64 0, .int .u64 0, .int .u64 0, .int .u64 0, .int .u64 0, .int .u64 0, .int .u64 0, .int .u64 0] 76)).farRow (g' := w2.heap.size) (by omega) C2
  replace rq := (rq.alloc (.cells #[.bool false, .int .u64 0, .int .u64 0, .int .u64 0, .int .u64 0, .int .u64 0, .int .u64 0, .int .u64 0, .int .u64 0, .int .u64 0, .int .u64 0, .int .u64 0, .int .u64 0, .int .u64 0, .int .u64 0, .int .u64 0, .int .u64 0] 76)).farRow (g' := w2.heap.size) (by omega) C2
  replace rr := (rr.alloc (.cells #[.bool false, .int .u64 0, .int .u64 0, .int .u64 0, .int .u64 0, .int .u64 0, .int .u64 0, .int .u64 0, .int .u64 0, .int .u64 0, .int .u64 0, .int .u64 0, .int .u64 0, .int .u64 0, .int .u64 0, .int .u64 0, .int .u64 0] 76)).farRow (g' := w2.heap.size) (by omega) C2
  replace r7 := (r7.alloc (.cells #[.bool false, .int .u64 0, .int .u64 0, .int .u64 0, .int .u64 0, .int .u64 0, .int .u64 0, .int .u64 0, .int .u64 0, .int .u64 0, .int .u64 0, .int .u64 0, .int .u64 0, .int .u64 0, .int .u64 0, .int .u64 0, .int .u64 0] 76)).farRow (g' := w2.heap.size) (by omega) C2
  replace hU := (hU.alloc (.cells #[.bool false, .int .u64 0, .int .u64 0, .int .u64 0, .int .u64 0, .int .u64 0, .int .u64 0, .int .u64 0, .int .u64 0, .int .u64 0, .int .u64 0, .int .u64 0, .int .u64 0, .int .u64 0, .int .u64 0, .int .u64 0, .int .u64 0] 76)).setRow (p := w2.heap.size) (by omega) C2
  go_upto_region 3 with (refine wpList_store_row rfl 76 _ _ rfl (w2.heap.size) C2 rfl rfl 76 #[.bool false, .int .u64 0, .int .u64 0, .int .u64 0, .int .u64 0, .int .u64 0, .int .u64 0, .int .u64 0, .int .u64 0, .int .u64 0, .int .u64 0, .int .u64 0, .int .u64 0, .int .u64 0, .int .u64 0, .int .u64 0, .int .u64 0] (Row.new w2 76 #[.bool false, .int .u64 0, .int .u64 0, .int .u64 0, .int .u64 0, .int .u64 0, .int .u64 0, .int .u64 0, .int .u64 0, .int .u64 0, .int .u64 0, .int .u64 0, .int .u64 0, .int .u64 0, .int .u64 0, .int .u64 0, .int .u64 0]) (size_Bn (sizeC H2)) (by rw [sizeC H2]; rfl) (oneC H2) ?_)
  obtain ⟨V2, hV2⟩ : ∃ V2, V2 = (w2.alloc (.cells #[.bool false, .int .u64 0, .int .u64 0, .int .u64 0, .int .u64 0, .int .u64 0, .int .u64 0, .int .u64 0, .int .u64 0, .int .u64 0, .int .u64 0, .int .u64 0, .int .u64 0, .int .u64 0, .int .u64 0, .int .u64 0, .int .u64 0] 76)).setRow w2.heap.size C2 := ⟨_, rfl⟩
  rw [← hV2] at rx ry rq rr r7 r8 hU ⊢
  have zv2 : V2.heap.size = w2.heap.size + 1 := by rw [hV2, setRow_size, alloc_size]
  clear hV2
  obtain ⟨g8, hg8⟩ : ∃ g, g = w2.heap.size := ⟨_, rfl⟩
  rw [← hg8] at r8 z2 zv2 ⊢
  clear hg8 rx ry
  go_wp2_with (refine wpList_load_E rfl H2 HE2 (.tmp 15) rfl (g8) rfl 76 r8 ?_)
  refine Calls.mono (HZY.out _) ?_; rintro e w3 ⟨rfl, hb⟩
  have z3 := hb.size
  replace rq := (rq).mod (Mod.of_below hb Nil) (fun hf => hf)
  replace rr := (rr).mod (Mod.of_below hb Nil) (fun hf => hf)
  replace r7 := (r7).mod (Mod.of_below hb Nil) (fun hf => hf)
  replace r8 := (r8).mod (Mod.of_below hb Nil) (fun hf => hf)
  replace hU := hU.trans hb
  clear hb
  go_wp2_with (first | (refine wpList_load_E rfl H1 HE1 (.tmp 21) rfl (g7) rfl 76 r7 ?_) | (refine wpList_load_E rfl H2 HE2 (.tmp 23) rfl (g8) rfl 76 r8 ?_))
  refine Calls.mono (HQD.out _) ?_; rintro e w4 ⟨rfl, hb⟩
  have z4 := hb.size
  replace rq := (rq).mod (Mod.of_below hb Nil) (fun hf => hf)
  replace rr := (rr).mod (Mod.of_below hb Nil) (fun hf => hf)
  replace r7 := (r7).mod (Mod.of_below hb Nil) (fun hf => hf)
  replace r8 := (r8).mod (Mod.of_below hb Nil) (fun hf => hf)
  replace hU := hU.trans hb
  clear hb
  have n9 := (Row.new w4 74 #[.int .u64 0, .int .u64 0, .int .u64 0, .int .u64 0, .int .u64 0, .int .u64 0, .int .u64 0, .int .u64 0, .int .u64 0, .int .u64 0, .int .u64 0, .int .u64 0, .int .u64 0, .int .u64 0, .int .u64 0, .int .u64 0]).alloc (.cells #[.int .u64 0, .int .u64 0, .int .u64 0, .int .u64 0, .int .u64 0, .int .u64 0, .int .u64 0, .int .u64 0, .int .u64 0, .int .u64 0, .int .u64 0, .int .u64 0, .int .u64 0, .int .u64 0, .int .u64 0, .int .u64 0] 74)
  have n10 := Row.new (w4.alloc (.cells #[.int .u64 0, .int .u64 0, .int .u64 0, .int .u64 0, .int .u64 0, .int .u64 0, .int .u64 0, .int .u64 0, .int .u64 0, .int .u64 0, .int .u64 0, .int .u64 0, .int .u64 0, .int .u64 0, .int .u64 0, .int .u64 0] 74)) 74 #[.int .u64 0, .int .u64 0, .int .u64 0, .int .u64 0, .int .u64 0, .int .u64 0, .int .u64 0, .int .u64 0, .int .u64 0, .int .u64 0, .int .u64 0, .int .u64 0, .int .u64 0, .int .u64 0, .int .u64 0, .int .u64 0]
  simp only [alloc_size] at n10
  have r9 := (n9.putRow E3).farRow (g' := w4.heap.size + 1) (by omega) E4
  have m10 := n10.farRow (g' := w4.heap.size) (by omega) E3
  have r10 := m10.putRow E4
  replace rq := ((rq.alloc (.cells #[.int .u64 0, .int .u64 0, .int .u64 0, .int .u64 0, .int .u64 0, .int .u64 0, .int .u64 0, .int .u64 0, .int .u64 0, .int .u64 0, .int .u64 0, .int .u64 0, .int .u64 0, .int .u64 0, .int .u64 0, .int .u64 0] 74)).alloc (.cells #[.int .u64 0, .int .u64 0, .int .u64 0, .int .u64 0, .int .u64 0, .int .u64 0, .int .u64 0, .int .u64 0, .int .u64 0, .int .u64 0, .int .u64 0, .int .u64 0, .int .u64 0, .int .u64 0, .int .u64 0, .int .u64 0] 74)).farRow (g' := w4.heap.size) (by omega) E3 |>.farRow (g' := w4.heap.size + 1) (by omega) E4
  replace rr := ((rr.alloc (.cells #[.int .u64 0, .int .u64 0, .int .u64 0, .int .u64 0, .int .u64 0, .int .u64 0, .int .u64 0, .int .u64 0, .int .u64 0, .int .u64 0, .int .u64 0, .int .u64 0, .int .u64 0, .int .u64 0, .int .u64 0, .int .u64 0] 74)).alloc (.cells #[.int .u64 0, .int .u64 0, .int .u64 0, .int .u64 0, .int .u64 0, .int .u64 0, .int .u64 0, .int .u64 0, .int .u64 0, .int .u64 0, .int .u64 0, .int .u64 0, .int .u64 0, .int .u64 0, .int .u64 0, .int .u64 0] 74)).farRow (g' := w4.heap.size) (by omega) E3 |>.farRow (g' := w4.heap.size + 1) (by omega) E4
  replace r7 := ((r7.alloc (.cells #[.int .u64 0, .int .u64 0, .int .u64 0, .int .u64 0, .int .u64 0, .int .u64 0, .int .u64 0, .int .u64 0, .int .u64 0, .int .u64 0, .int .u64 0, .int .u64 0, .int .u64 0, .int .u64 0, .int .u64 0, .int .u64 0] 74)).alloc (.cells #[.int .u64 0, .int .u64 0, .int .u64 0, .int .u64 0, .int .u64 0, .int .u64 0, .int .u64 0, .int .u64 0, .int .u64 0, .int .u64 0, .int .u64 0, .int .u64 0, .int .u64 0, .int .u64 0, .int .u64 0, .int .u64 0] 74)).farRow (g' := w4.heap.size) (by omega) E3 |>.farRow (g' := w4.heap.size + 1) (by omega) E4
  replace r8 := ((r8.alloc (.cells #[.int .u64 0, .int .u64 0, .int .u64 0, .int .u64 0, .int .u64 0, .int .u64 0, .int .u64 0, .int .u64 0, .int .u64 0, .int .u64 0, .int .u64 0, .int .u64 0, .int .u64 0, .int .u64 0, .int .u64 0, .int .u64 0] 74)).alloc (.cells #[.int .u64 0, .int .u64 0, .int .u64 0, .int .u64 0, .int .u64 0, .int .u64 0, .int .u64 0, .int .u64 0, .int .u64 0, .int .u64 0, .int .u64 0, .int .u64 0, .int .u64 0, .int .u64 0, .int .u64 0, .int .u64 0] 74)).farRow (g' := w4.heap.size) (by omega) E3 |>.farRow (g' := w4.heap.size + 1) (by omega) E4
  replace hU := (((hU.alloc (.cells #[.int .u64 0, .int .u64 0, .int .u64 0, .int .u64 0, .int .u64 0, .int .u64 0, .int .u64 0, .int .u64 0, .int .u64 0, .int .u64 0, .int .u64 0, .int .u64 0, .int .u64 0, .int .u64 0, .int .u64 0, .int .u64 0] 74)).alloc (.cells #[.int .u64 0, .int .u64 0, .int .u64 0, .int .u64 0, .int .u64 0, .int .u64 0, .int .u64 0, .int .u64 0, .int .u64 0, .int .u64 0, .int .u64 0, .int .u64 0, .int .u64 0, .int .u64 0, .int .u64 0, .int .u64 0] 74)).setRow (p := w4.heap.size) (by omega) E3).setRow (p := w4.heap.size + 1) (by omega) E4
  go_upto_region 6 with (first | (refine wpList_store_row rfl 74 (.tmp 9) (.tmp 26) rfl (w4.heap.size) E3 rfl rfl 74 #[.int .u64 0, .int .u64 0, .int .u64 0, .int .u64 0, .int .u64 0, .int .u64 0, .int .u64 0, .int .u64 0, .int .u64 0, .int .u64 0, .int .u64 0, .int .u64 0, .int .u64 0, .int .u64 0, .int .u64 0, .int .u64 0] n9 (size_De HE3) (sizeE HE3).symm (oneE HE3) ?_) | (refine wpList_store_row rfl 74 (.tmp 10) (.tmp 27) rfl (w4.heap.size + 1) E4 rfl rfl 74 #[.int .u64 0, .int .u64 0, .int .u64 0, .int .u64 0, .int .u64 0, .int .u64 0, .int .u64 0, .int .u64 0, .int .u64 0, .int .u64 0, .int .u64 0, .int .u64 0, .int .u64 0, .int .u64 0, .int .u64 0, .int .u64 0] m10 (size_De HE4) (sizeE HE4).symm (oneE HE4) ?_))
  obtain ⟨V4, hV4⟩ : ∃ V4, V4 = (((w4.alloc (.cells #[.int .u64 0, .int .u64 0, .int .u64 0, .int .u64 0, .int .u64 0, .int .u64 0, .int .u64 0, .int .u64 0, .int .u64 0, .int .u64 0, .int .u64 0, .int .u64 0, .int .u64 0, .int .u64 0, .int .u64 0, .int .u64 0] 74)).alloc (.cells #[.int .u64 0, .int .u64 0, .int .u64 0, .int .u64 0, .int .u64 0, .int .u64 0, .int .u64 0, .int .u64 0, .int .u64 0, .int .u64 0, .int .u64 0, .int .u64 0, .int .u64 0, .int .u64 0, .int .u64 0, .int .u64 0] 74)).setRow w4.heap.size E3).setRow (w4.heap.size + 1) E4 := ⟨_, rfl⟩
  rw [← hV4] at rq rr r7 r8 r9 r10 hU ⊢
  clear hV4 n9 n10 m10
  obtain ⟨g9, hg9⟩ : ∃ g, g = w4.heap.size := ⟨_, rfl⟩
  rw [← hg9] at r9 r10 z4 ⊢
  clear hg9
  have MK : ∀ W, Row W (g7) 76 C1 → Row W (g8) 76 C2 → Row W (g9) 74 E3 → Row W (g9 + 1) 74 E4 → (∃ p q : Int, Row W (w.heap.size + 1 + 1) 24 #[.int .i64 p, .int .u64 q]) → Row W (w.heap.size + 1 + 1 + 1) 24 #[.int .i64 0, .int .u64 0] → Up w.heap.size w W → Row W (g7) 76 C1 ∧ Row W (g8) 76 C2 ∧ Row W (g9) 74 E3 ∧ Row W (g9 + 1) 74 E4 ∧ (∃ p q : Int, Row W (w.heap.size + 1 + 1) 24 #[.int .i64 p, .int .u64 q]) ∧ Row W (w.heap.size + 1 + 1 + 1) 24 #[.int .i64 0, .int .u64 0] ∧ Up w.heap.size w W ∧ W.cell? ⟨g7, 0, none⟩ = some (.bool false) ∧ W.cell? ⟨g8, 0, none⟩ = some (.bool false) := fun W k0 k1 k2 k3 k4 k5 k6 => ⟨k0, k1, k2, k3, k4, k5, k6, by rw [k0.cell, zeroC H1], by rw [k1.cell, zeroC H2]⟩
  have MK := hid MK
  refine wp_region_noPanic ?_
  refine wp_region_held_drew (S := fun W => Row W (g7) 76 C1 ∧ Row W (g8) 76 C2 ∧ Row W (g9) 74 E3 ∧ Row W (g9 + 1) 74 E4 ∧ (∃ p q : Int, Row W (w.heap.size + 1 + 1) 24 #[.int .i64 p, .int .u64 q]) ∧ Row W (w.heap.size + 1 + 1 + 1) 24 #[.int .i64 0, .int .u64 0] ∧ Up w.heap.size w W ∧ W.cell? ⟨g7, 0, none⟩ = some (.bool false) ∧ W.cell? ⟨g8, 0, none⟩ = some (.bool false)) (by kernel_rfl) (MK.out _ r7.drew r8.drew r9.drew r10.drew ⟨_, _, rq.drew⟩ rr.drew hU.drew) (fun hHeld => ?_)
  refine wpAnyH_take (i := 0) (oi := { dst := some 29, op := Op.fieldAddr 76 (Operand.tmp 7) 0, type := 0, pos := "ref.go:185", after := #[], guard := none }) (v := ?_) rfl (by kernel_rfl) (by kernel_rfl) (by kernel_rfl) (fun _ _ _ h => h) (Or.inl ⟨by rfl, ?_⟩) hHeld ?_
  rotate_left
  · intro w' hSw; (try dsimp only at hSw); go_simp <;> with_reducible rfl
  try simp only [Act.put, List.setIfInBounds_toArray, List.set_cons_zero, List.set_cons_succ]
  refine wpAnyH_take (i := 1) (oi := { dst := some 30, op := Op.load 4 (Operand.tmp 29), type := 4, pos := "ref.go:185", after := #[{ on := 0, ground := Ground.data }], guard := none }) (v := ?_) rfl (by kernel_rfl) (by kernel_rfl) (by kernel_rfl) (fun _ _ _ h => h) (Or.inl ⟨by rfl, ?_⟩) hHeld ?_
  rotate_left
  · intro w' hSw; (try dsimp only at hSw); go_simp <;> with_reducible rfl
  try simp only [Act.put, List.setIfInBounds_toArray, List.set_cons_zero, List.set_cons_succ]
  refine wpAnyH_take (i := 2) (oi := { dst := some 31, op := Op.fieldAddr 76 (Operand.tmp 8) 0, type := 0, pos := "ref.go:185", after := #[], guard := none }) (v := ?_) rfl (by kernel_rfl) (by kernel_rfl) (by kernel_rfl) (fun _ _ _ h => h) (Or.inl ⟨by rfl, ?_⟩) hHeld ?_
  rotate_left
  · intro w' hSw; (try dsimp only at hSw); go_simp <;> with_reducible rfl
  try simp only [Act.put, List.setIfInBounds_toArray, List.set_cons_zero, List.set_cons_succ]
  refine wpAnyH_take (i := 3) (oi := { dst := some 32, op := Op.load 4 (Operand.tmp 31), type := 4, pos := "ref.go:185", after := #[{ on := 2, ground := Ground.data }], guard := none }) (v := ?_) rfl (by kernel_rfl) (by kernel_rfl) (by kernel_rfl) (fun _ _ _ h => h) (Or.inl ⟨by rfl, ?_⟩) hHeld ?_
  rotate_left
  · intro w' hSw; (try dsimp only at hSw); go_simp <;> with_reducible rfl
  try simp only [Act.put, List.setIfInBounds_toArray, List.set_cons_zero, List.set_cons_succ]
  refine wpAnyH_take (i := 4) (oi := { dst := some 33, op := Op.binOp BinOp.neq 4 (Operand.tmp 30) (Operand.tmp 32) 4, type := 4, pos := "ref.go:185", after := #[{ on := 1, ground := Ground.data }, { on := 3, ground := Ground.data }], guard := none }) (v := ?_) rfl (by kernel_rfl) (by kernel_rfl) (by kernel_rfl) (fun _ _ _ h => h) (Or.inl ⟨by rfl, ?_⟩) hHeld ?_
  rotate_left
  · intro w' hSw; (try dsimp only at hSw); go_simp <;> with_reducible rfl
  try simp only [Act.put, List.setIfInBounds_toArray, List.set_cons_zero, List.set_cons_succ]
  refine wpAnyH_take (i := 5) (oi := { dst := some 34, op := Op.move (Operand.tmp 33), type := 4, pos := "ref.go:185", after := #[{ on := 4, ground := Ground.data }], guard := none }) (v := ?_) rfl (by kernel_rfl) (by kernel_rfl) (by kernel_rfl) (fun _ _ _ h => h) (Or.inl ⟨by rfl, ?_⟩) hHeld ?_
  rotate_left
  · intro w' hSw; (try dsimp only at hSw); go_simp <;> with_reducible rfl
  try simp only [Act.put, List.setIfInBounds_toArray, List.set_cons_zero, List.set_cons_succ]
  refine wpAnyH_take (i := 6) (oi := { dst := some 35, op := Op.load 74 (Operand.tmp 9), type := 74, pos := "ref.go:185", after := #[{ on := 5, ground := Ground.guard }], guard := some (5, true) }) (v := undef) rfl (by kernel_rfl) (by kernel_rfl) (by kernel_rfl) (fun _ _ _ h => h) (Or.inr ⟨by rfl, rfl⟩) hHeld ?_
  try simp only [Act.put, List.setIfInBounds_toArray, List.set_cons_zero, List.set_cons_succ]
  refine wpAnyH_take (i := 7) (oi := { dst := some 36, op := Op.call { callee := Callee.value (Operand.func 64), args := #[Operand.tmp 35], argTypes := #[74] }, type := 4, pos := "ref.go:185", after := #[{ on := 6, ground := Ground.data }, { on := 5, ground := Ground.chain }, { on := 5, ground := Ground.guard }], guard := some (5, true) }) (v := undef) rfl (by kernel_rfl) (by kernel_rfl) (by kernel_rfl) (fun _ _ _ h => h) (Or.inr ⟨by rfl, rfl⟩) hHeld ?_
  try simp only [Act.put, List.setIfInBounds_toArray, List.set_cons_zero, List.set_cons_succ]
  refine wpAnyH_take (i := 8) (oi := { dst := some 37, op := Op.unOp UnOp.not 4 (Operand.tmp 36), type := 4, pos := "ref.go:185", after := #[{ on := 7, ground := Ground.data }, { on := 5, ground := Ground.guard }], guard := some (5, true) }) (v := undef) rfl (by kernel_rfl) (by kernel_rfl) (by kernel_rfl) (fun _ _ _ h => h) (Or.inr ⟨by rfl, rfl⟩) hHeld ?_
  try simp only [Act.put, List.setIfInBounds_toArray, List.set_cons_zero, List.set_cons_succ]
  refine wpAnyH_take (i := 9) (oi := { dst := some 38, op := Op.pick (Operand.tmp 34) (Operand.tmp 37) (Operand.const (Value.bool false)), type := 4, pos := "ref.go:185", after := #[{ on := 5, ground := Ground.data }, { on := 8, ground := Ground.data }], guard := none }) (v := ?_) rfl (by kernel_rfl) (by kernel_rfl) (by kernel_rfl) (fun _ _ _ h => h) (Or.inl ⟨by rfl, ?_⟩) hHeld ?_
  rotate_left
  · intro w' hSw; (try dsimp only at hSw); go_simp <;> with_reducible rfl
  try simp only [Act.put, List.setIfInBounds_toArray, List.set_cons_zero, List.set_cons_succ]
  refine wpAnyH_take (i := 10) (oi := { dst := some 39, op := Op.load 74 (Operand.tmp 9), type := 74, pos := "ref.go:185", after := #[], guard := none }) (v := .agg E3) rfl (by kernel_rfl) (by kernel_rfl) (by kernel_rfl) (fun _ _ _ h => h) (Or.inl ⟨by rfl, fun W hW => exec_load_row 74 _ rfl (g9) rfl 74 E3 _ Tryd.underlying74 rfl (size_De HE3) W hW.2.2.1⟩) hHeld ?_
  try simp only [Act.put, List.setIfInBounds_toArray, List.set_cons_zero, List.set_cons_succ]
  refine wpAnyH_take (i := 11) (oi := { dst := some 40, op := Op.build 76 #[(0, Operand.tmp 38), (1, Operand.tmp 39)], type := 76, pos := "ref.go:185", after := #[{ on := 9, ground := Ground.data }, { on := 10, ground := Ground.data }], guard := none }) (v := .agg C3) rfl (by kernel_rfl) (by kernel_rfl) (by kernel_rfl) (fun _ _ _ h => h) (Or.inl ⟨by rfl, fun W hW => exec_build_C H3 HE3 _ _ rfl rfl rfl⟩) hHeld ?_
  try simp only [Act.put, List.setIfInBounds_toArray, List.set_cons_zero, List.set_cons_succ]
  refine wpAnyH_ready (rs := [12]) (by kernel_rfl) (by simp) ?_
  refine AllReadyH.cons (o := { dst := some 41, op := Op.call { callee := Callee.value (Operand.func 54), args := #[Operand.tmp 40], argTypes := #[76] }, type := 26, pos := "ref.go:185", after := #[{ on := 11, ground := Ground.data }, { on := 7, ground := Ground.chain }], guard := none }) rfl (fun K hK => ?_) AllReadyH.nil
  go_simp
  refine Calls.mono (HWQ.out _) ?_; rintro e w6 ⟨rfl, hb⟩
  refine hK.out _ _ (MK.out _ ((hHeld.1).mod (Mod.of_below hb Nil) (fun hf => hf)) ((hHeld.2.1).mod (Mod.of_below hb Nil) (fun hf => hf)) ((hHeld.2.2.1).mod (Mod.of_below hb Nil) (fun hf => hf)) ((hHeld.2.2.2.1).mod (Mod.of_below hb Nil) (fun hf => hf)) ((by obtain ⟨p, q, h1⟩ := hHeld.2.2.2.2.1; exact ⟨p, q, (h1).mod (Mod.of_below hb Nil) (fun hf => hf)⟩)) ((hHeld.2.2.2.2.2.1).mod (Mod.of_below hb Nil) (fun hf => hf)) ((hHeld.2.2.2.2.2.2.1).trans hb)) (fun hHeld => ?_)
  clear hK K
  try simp only [Act.put, List.setIfInBounds_toArray, List.set_cons_zero, List.set_cons_succ]
  refine wpAnyH_take (i := 13) (oi := { dst := some 28, op := Op.move (Operand.tmp 41), type := 26, pos := "ref.go:185", after := #[{ on := 12, ground := Ground.data }], guard := none }) (v := ?_) rfl (by kernel_rfl) (by kernel_rfl) (by kernel_rfl) (fun _ _ _ h => h) (Or.inl ⟨by rfl, ?_⟩) hHeld ?_
  rotate_left
  · intro w' hSw; (try dsimp only at hSw); go_simp <;> with_reducible rfl
  try simp only [Act.put, List.setIfInBounds_toArray, List.set_cons_zero, List.set_cons_succ]
  refine wpAnyH_take (i := 14) (oi := { dst := some 42, op := Op.extract (Operand.tmp 28) 0, type := 24, pos := "ref.go:185", after := #[{ on := 13, ground := Ground.data }], guard := none }) (v := ?_) rfl (by kernel_rfl) (by kernel_rfl) (by kernel_rfl) (fun _ _ _ h => h) (Or.inl ⟨by rfl, ?_⟩) hHeld ?_
  rotate_left
  · intro w' hSw; (try dsimp only at hSw); go_simp <;> with_reducible rfl
  try simp only [Act.put, List.setIfInBounds_toArray, List.set_cons_zero, List.set_cons_succ]
  refine wpAnyH_take (i := 15) (oi := { dst := some 43, op := Op.extract (Operand.tmp 28) 1, type := 25, pos := "ref.go:185", after := #[{ on := 13, ground := Ground.data }, { on := 16, ground := Ground.gcOnly Departure.lateStores }], guard := none }) (v := ?_) rfl (by kernel_rfl) (by kernel_rfl) (by kernel_rfl) (fun _ _ _ h => h) (Or.inl ⟨by rfl, ?_⟩) hHeld ?_
  rotate_left
  · intro w' hSw; (try dsimp only at hSw); go_simp <;> with_reducible rfl
  try simp only [Act.put, List.setIfInBounds_toArray, List.set_cons_zero, List.set_cons_succ]
  obtain ⟨p, q, hq⟩ := hHeld.2.2.2.2.1
  refine wpAnyH_ready (rs := [16]) (by kernel_rfl) (by simp) ?_
  refine AllReadyH.cons (o := { dst := none, op := Op.store 24 (Operand.tmp 4) (Operand.tmp 42), type := 0, pos := "ref.go:185", after := #[{ on := 14, ground := Ground.data }, { on := 12, ground := Ground.chain }, { on := 0, ground := Ground.phase }, { on := 1, ground := Ground.phase }, { on := 2, ground := Ground.phase }, { on := 3, ground := Ground.phase }, { on := 4, ground := Ground.phase }, { on := 5, ground := Ground.phase }, { on := 6, ground := Ground.phase }, { on := 7, ground := Ground.phase }, { on := 8, ground := Ground.phase }, { on := 9, ground := Ground.phase }, { on := 10, ground := Ground.phase }, { on := 11, ground := Ground.phase }, { on := 12, ground := Ground.phase }, { on := 13, ground := Ground.phase }, { on := 14, ground := Ground.phase }, { on := 15, ground := Ground.textOnly Departure.lateStores }], guard := none }) rfl (fun K hK => ?_) AllReadyH.nil
  refine (if_pos (by rfl)).mpr ?_
  refine wp_store_row 24 _ _ rfl (w.heap.size + 1 + 1) #[.int .i64 qh, .int .u64 ql] rfl rfl 24 #[.int .i64 p, .int .u64 q] hq size_W rfl (by simp [Value.oneCell']) ?_
  replace hq := hq.putRow #[.int .i64 qh, .int .u64 ql]
  refine hK.out _ _ (MK.out _ ((hHeld.1).farRow (by omega) #[.int .i64 qh, .int .u64 ql]) ((hHeld.2.1).farRow (by omega) #[.int .i64 qh, .int .u64 ql]) ((hHeld.2.2.1).farRow (by omega) #[.int .i64 qh, .int .u64 ql]) ((hHeld.2.2.2.1).farRow (by omega) #[.int .i64 qh, .int .u64 ql]) (⟨_, _, hq⟩) ((hHeld.2.2.2.2.2.1).farRow (by omega) #[.int .i64 qh, .int .u64 ql]) ((hHeld.2.2.2.2.2.2.1).setRow (by omega) #[.int .i64 qh, .int .u64 ql])) (fun hHeld => ?_)
  clear hK K
  try simp only [Act.put, List.setIfInBounds_toArray, List.set_cons_zero, List.set_cons_succ]
  refine wpAnyH_take (i := 17) (oi := { dst := some 6, op := Op.assign (Operand.tmp 43), type := 25, pos := "ref.go:185", after := #[{ on := 15, ground := Ground.data }, { on := 16, ground := Ground.chain }, { on := 0, ground := Ground.phase }, { on := 1, ground := Ground.phase }, { on := 2, ground := Ground.phase }, { on := 3, ground := Ground.phase }, { on := 4, ground := Ground.phase }, { on := 5, ground := Ground.phase }, { on := 6, ground := Ground.phase }, { on := 7, ground := Ground.phase }, { on := 8, ground := Ground.phase }, { on := 9, ground := Ground.phase }, { on := 10, ground := Ground.phase }, { on := 11, ground := Ground.phase }, { on := 12, ground := Ground.phase }, { on := 13, ground := Ground.phase }, { on := 14, ground := Ground.phase }, { on := 15, ground := Ground.phase }, { on := 16, ground := Ground.phase }], guard := none }) (v := ?_) rfl (by kernel_rfl) (by kernel_rfl) (by kernel_rfl) (fun _ _ _ h => h) (Or.inl ⟨by rfl, ?_⟩) hHeld ?_
  rotate_left
  · intro w' hSw; (try dsimp only at hSw); go_simp <;> with_reducible rfl
  try simp only [Act.put, List.setIfInBounds_toArray, List.set_cons_zero, List.set_cons_succ]
  refine wpAnyH_done (by kernel_rfl) ?_ _
  refine NoPanic.normal ?_
  replace r7 := hHeld.1
  replace r10 := hHeld.2.2.2.1
  replace rr := hHeld.2.2.2.2.2.1
  replace hU := hHeld.2.2.2.2.2.2.1
  clear rq r8 r9 MK hHeld
  have rq := hq
  clear hq
  go_upto_region 9 with fail
  have MK : ∀ W, Row W (g7) 76 C1 → Row W (g9 + 1) 74 E4 → Row W (w.heap.size + 1 + 1) 24 #[.int .i64 qh, .int .u64 ql] → (∃ p q : Int, Row W (w.heap.size + 1 + 1 + 1) 24 #[.int .i64 p, .int .u64 q]) → Up w.heap.size w W → Row W (g7) 76 C1 ∧ Row W (g9 + 1) 74 E4 ∧ Row W (w.heap.size + 1 + 1) 24 #[.int .i64 qh, .int .u64 ql] ∧ (∃ p q : Int, Row W (w.heap.size + 1 + 1 + 1) 24 #[.int .i64 p, .int .u64 q]) ∧ Up w.heap.size w W ∧ W.cell? ⟨g7, 0, none⟩ = some (.bool false) := fun W k0 k1 k2 k3 k4 => ⟨k0, k1, k2, k3, k4, by rw [k0.cell, zeroC H1]⟩
  have MK := hid MK
  refine wp_region_noPanic ?_
  refine wp_region_held_drew (S := fun W => Row W (g7) 76 C1 ∧ Row W (g9 + 1) 74 E4 ∧ Row W (w.heap.size + 1 + 1) 24 #[.int .i64 qh, .int .u64 ql] ∧ (∃ p q : Int, Row W (w.heap.size + 1 + 1 + 1) 24 #[.int .i64 p, .int .u64 q]) ∧ Up w.heap.size w W ∧ W.cell? ⟨g7, 0, none⟩ = some (.bool false)) (by kernel_rfl) (MK.out _ r7.drew r10.drew rq.drew ⟨_, _, rr.drew⟩ hU.drew) (fun hHeld => ?_)
  refine wpAnyH_take (i := 0) (oi := { dst := some 50, op := Op.fieldAddr 76 (Operand.tmp 7) 0, type := 0, pos := "ref.go:189", after := #[], guard := none }) (v := ?_) rfl (by kernel_rfl) (by kernel_rfl) (by kernel_rfl) (fun _ _ _ h => h) (Or.inl ⟨by rfl, ?_⟩) hHeld ?_
  rotate_left
  · intro w' hSw; (try dsimp only at hSw); go_simp <;> with_reducible rfl
  try simp only [Act.put, List.setIfInBounds_toArray, List.set_cons_zero, List.set_cons_succ]
  refine wpAnyH_take (i := 1) (oi := { dst := some 51, op := Op.load 4 (Operand.tmp 50), type := 4, pos := "ref.go:189", after := #[{ on := 0, ground := Ground.data }], guard := none }) (v := ?_) rfl (by kernel_rfl) (by kernel_rfl) (by kernel_rfl) (fun _ _ _ h => h) (Or.inl ⟨by rfl, ?_⟩) hHeld ?_
  rotate_left
  · intro w' hSw; (try dsimp only at hSw); go_simp <;> with_reducible rfl
  try simp only [Act.put, List.setIfInBounds_toArray, List.set_cons_zero, List.set_cons_succ]
  refine wpAnyH_take (i := 2) (oi := { dst := some 52, op := Op.move (Operand.tmp 51), type := 4, pos := "ref.go:189", after := #[{ on := 1, ground := Ground.data }], guard := none }) (v := ?_) rfl (by kernel_rfl) (by kernel_rfl) (by kernel_rfl) (fun _ _ _ h => h) (Or.inl ⟨by rfl, ?_⟩) hHeld ?_
  rotate_left
  · intro w' hSw; (try dsimp only at hSw); go_simp <;> with_reducible rfl
  try simp only [Act.put, List.setIfInBounds_toArray, List.set_cons_zero, List.set_cons_succ]
  refine wpAnyH_take (i := 3) (oi := { dst := some 53, op := Op.load 74 (Operand.tmp 10), type := 74, pos := "ref.go:189", after := #[{ on := 2, ground := Ground.guard }], guard := some (2, true) }) (v := undef) rfl (by kernel_rfl) (by kernel_rfl) (by kernel_rfl) (fun _ _ _ h => h) (Or.inr ⟨by rfl, rfl⟩) hHeld ?_
  try simp only [Act.put, List.setIfInBounds_toArray, List.set_cons_zero, List.set_cons_succ]
  refine wpAnyH_take (i := 4) (oi := { dst := some 54, op := Op.call { callee := Callee.value (Operand.func 64), args := #[Operand.tmp 53], argTypes := #[74] }, type := 4, pos := "ref.go:189", after := #[{ on := 3, ground := Ground.data }, { on := 2, ground := Ground.chain }, { on := 2, ground := Ground.guard }], guard := some (2, true) }) (v := undef) rfl (by kernel_rfl) (by kernel_rfl) (by kernel_rfl) (fun _ _ _ h => h) (Or.inr ⟨by rfl, rfl⟩) hHeld ?_
  try simp only [Act.put, List.setIfInBounds_toArray, List.set_cons_zero, List.set_cons_succ]
  refine wpAnyH_take (i := 5) (oi := { dst := some 55, op := Op.unOp UnOp.not 4 (Operand.tmp 54), type := 4, pos := "ref.go:189", after := #[{ on := 4, ground := Ground.data }, { on := 2, ground := Ground.guard }], guard := some (2, true) }) (v := undef) rfl (by kernel_rfl) (by kernel_rfl) (by kernel_rfl) (fun _ _ _ h => h) (Or.inr ⟨by rfl, rfl⟩) hHeld ?_
  try simp only [Act.put, List.setIfInBounds_toArray, List.set_cons_zero, List.set_cons_succ]
  refine wpAnyH_take (i := 6) (oi := { dst := some 56, op := Op.pick (Operand.tmp 52) (Operand.tmp 55) (Operand.const (Value.bool false)), type := 4, pos := "ref.go:189", after := #[{ on := 2, ground := Ground.data }, { on := 5, ground := Ground.data }], guard := none }) (v := ?_) rfl (by kernel_rfl) (by kernel_rfl) (by kernel_rfl) (fun _ _ _ h => h) (Or.inl ⟨by rfl, ?_⟩) hHeld ?_
  rotate_left
  · intro w' hSw; (try dsimp only at hSw); go_simp <;> with_reducible rfl
  try simp only [Act.put, List.setIfInBounds_toArray, List.set_cons_zero, List.set_cons_succ]
  refine wpAnyH_take (i := 7) (oi := { dst := some 57, op := Op.load 74 (Operand.tmp 10), type := 74, pos := "ref.go:189", after := #[], guard := none }) (v := .agg E4) rfl (by kernel_rfl) (by kernel_rfl) (by kernel_rfl) (fun _ _ _ h => h) (Or.inl ⟨by rfl, fun W hW => exec_load_row 74 _ rfl (g9 + 1) rfl 74 E4 _ Tryd.underlying74 rfl (size_De HE4) W hW.2.1⟩) hHeld ?_
  try simp only [Act.put, List.setIfInBounds_toArray, List.set_cons_zero, List.set_cons_succ]
  refine wpAnyH_take (i := 8) (oi := { dst := some 58, op := Op.build 76 #[(0, Operand.tmp 56), (1, Operand.tmp 57)], type := 76, pos := "ref.go:189", after := #[{ on := 6, ground := Ground.data }, { on := 7, ground := Ground.data }], guard := none }) (v := .agg C4) rfl (by kernel_rfl) (by kernel_rfl) (by kernel_rfl) (fun _ _ _ h => h) (Or.inl ⟨by rfl, fun W hW => exec_build_C H4 HE4 _ _ rfl rfl rfl⟩) hHeld ?_
  try simp only [Act.put, List.setIfInBounds_toArray, List.set_cons_zero, List.set_cons_succ]
  refine wpAnyH_ready (rs := [9]) (by kernel_rfl) (by simp) ?_
  refine AllReadyH.cons (o := { dst := some 59, op := Op.call { callee := Callee.value (Operand.func 54), args := #[Operand.tmp 58], argTypes := #[76] }, type := 26, pos := "ref.go:189", after := #[{ on := 8, ground := Ground.data }, { on := 4, ground := Ground.chain }], guard := none }) rfl (fun K hK => ?_) AllReadyH.nil
  go_simp
  refine Calls.mono (HWR.out _) ?_; rintro e w8 ⟨rfl, hb⟩
  refine hK.out _ _ (MK.out _ ((hHeld.1).mod (Mod.of_below hb Nil) (fun hf => hf)) ((hHeld.2.1).mod (Mod.of_below hb Nil) (fun hf => hf)) ((hHeld.2.2.1).mod (Mod.of_below hb Nil) (fun hf => hf)) ((by obtain ⟨p, q, h1⟩ := hHeld.2.2.2.1; exact ⟨p, q, (h1).mod (Mod.of_below hb Nil) (fun hf => hf)⟩)) ((hHeld.2.2.2.2.1).trans hb)) (fun hHeld => ?_)
  clear hK K
  try simp only [Act.put, List.setIfInBounds_toArray, List.set_cons_zero, List.set_cons_succ]
  refine wpAnyH_take (i := 10) (oi := { dst := some 49, op := Op.move (Operand.tmp 59), type := 26, pos := "ref.go:189", after := #[{ on := 9, ground := Ground.data }], guard := none }) (v := ?_) rfl (by kernel_rfl) (by kernel_rfl) (by kernel_rfl) (fun _ _ _ h => h) (Or.inl ⟨by rfl, ?_⟩) hHeld ?_
  rotate_left
  · intro w' hSw; (try dsimp only at hSw); go_simp <;> with_reducible rfl
  try simp only [Act.put, List.setIfInBounds_toArray, List.set_cons_zero, List.set_cons_succ]
  refine wpAnyH_take (i := 11) (oi := { dst := some 60, op := Op.extract (Operand.tmp 49) 0, type := 24, pos := "ref.go:189", after := #[{ on := 10, ground := Ground.data }], guard := none }) (v := ?_) rfl (by kernel_rfl) (by kernel_rfl) (by kernel_rfl) (fun _ _ _ h => h) (Or.inl ⟨by rfl, ?_⟩) hHeld ?_
  rotate_left
  · intro w' hSw; (try dsimp only at hSw); go_simp <;> with_reducible rfl
  try simp only [Act.put, List.setIfInBounds_toArray, List.set_cons_zero, List.set_cons_succ]
  refine wpAnyH_take (i := 12) (oi := { dst := some 61, op := Op.extract (Operand.tmp 49) 1, type := 25, pos := "ref.go:189", after := #[{ on := 10, ground := Ground.data }, { on := 13, ground := Ground.gcOnly Departure.lateStores }], guard := none }) (v := ?_) rfl (by kernel_rfl) (by kernel_rfl) (by kernel_rfl) (fun _ _ _ h => h) (Or.inl ⟨by rfl, ?_⟩) hHeld ?_
  rotate_left
  · intro w' hSw; (try dsimp only at hSw); go_simp <;> with_reducible rfl
  try simp only [Act.put, List.setIfInBounds_toArray, List.set_cons_zero, List.set_cons_succ]
  obtain ⟨p, q, hq⟩ := hHeld.2.2.2.1
  refine wpAnyH_ready (rs := [13]) (by kernel_rfl) (by simp) ?_
  refine AllReadyH.cons (o := { dst := none, op := Op.store 24 (Operand.tmp 5) (Operand.tmp 60), type := 0, pos := "ref.go:189", after := #[{ on := 11, ground := Ground.data }, { on := 9, ground := Ground.chain }, { on := 0, ground := Ground.phase }, { on := 1, ground := Ground.phase }, { on := 2, ground := Ground.phase }, { on := 3, ground := Ground.phase }, { on := 4, ground := Ground.phase }, { on := 5, ground := Ground.phase }, { on := 6, ground := Ground.phase }, { on := 7, ground := Ground.phase }, { on := 8, ground := Ground.phase }, { on := 9, ground := Ground.phase }, { on := 10, ground := Ground.phase }, { on := 11, ground := Ground.phase }, { on := 12, ground := Ground.textOnly Departure.lateStores }], guard := none }) rfl (fun K hK => ?_) AllReadyH.nil
  refine (if_pos (by rfl)).mpr ?_
  refine wp_store_row 24 _ _ rfl (w.heap.size + 1 + 1 + 1) #[.int .i64 rh, .int .u64 rl] rfl rfl 24 #[.int .i64 p, .int .u64 q] hq size_W rfl (by simp [Value.oneCell']) ?_
  replace hq := hq.putRow #[.int .i64 rh, .int .u64 rl]
  refine hK.out _ _ (MK.out _ ((hHeld.1).farRow (by omega) #[.int .i64 rh, .int .u64 rl]) ((hHeld.2.1).farRow (by omega) #[.int .i64 rh, .int .u64 rl]) ((hHeld.2.2.1).farRow (by omega) #[.int .i64 rh, .int .u64 rl]) (⟨_, _, hq⟩) ((hHeld.2.2.2.2.1).setRow (by omega) #[.int .i64 rh, .int .u64 rl])) (fun hHeld => ?_)
  clear hK K
  try simp only [Act.put, List.setIfInBounds_toArray, List.set_cons_zero, List.set_cons_succ]
  refine wpAnyH_done (by kernel_rfl) ?_ _
  refine NoPanic.normal ?_
  replace rq := hHeld.2.2.1
  replace hU := hHeld.2.2.2.2.1
  clear rr r7 r10 MK hHeld
  have rr := hq
  clear hq
  go_upto_region 10 with fail
  obtain ⟨V9, hV9⟩ : ∃ V9, V9 = w8.setRow (w.heap.size + 1 + 1 + 1) #[.int .i64 rh, .int .u64 rl] := ⟨_, rfl⟩
  rw [← hV9] at rq rr hU ⊢
  clear hV9
  refine wp_region_noPanic ?_
  refine wp_region_held_drew (S := fun W => W = V9.drew) (by kernel_rfl) (rfl) (fun hHeld => ?_)
  refine wpAnyH_take (i := 0) (oi := { dst := some 62, op := Op.load 24 (Operand.tmp 4), type := 24, pos := "ref.go:190", after := #[], guard := none }) (v := .agg #[.int .i64 qh, .int .u64 ql]) rfl (by kernel_rfl) (by kernel_rfl) (by kernel_rfl) (fun _ _ _ h => h) (Or.inl ⟨by rfl, fun W hW => exec_load_row 24 _ rfl (w.heap.size + 1 + 1) rfl 24 #[.int .i64 qh, .int .u64 ql] _ Tryd.underlying24 rfl size_W W (by rw [hW]; exact rq.drew)⟩) hHeld ?_
  try simp only [Act.put, List.setIfInBounds_toArray, List.set_cons_zero, List.set_cons_succ]
  refine wpAnyH_take (i := 1) (oi := { dst := some 63, op := Op.load 24 (Operand.tmp 5), type := 24, pos := "ref.go:190", after := #[{ on := 2, ground := Ground.gcOnly Departure.lateStores }], guard := none }) (v := .agg #[.int .i64 rh, .int .u64 rl]) rfl (by kernel_rfl) (by kernel_rfl) (by kernel_rfl) (fun _ _ _ h => h) (Or.inl ⟨by rfl, fun W hW => exec_load_row 24 _ rfl (w.heap.size + 1 + 1 + 1) rfl 24 #[.int .i64 rh, .int .u64 rl] _ Tryd.underlying24 rfl size_W W (by rw [hW]; exact rr.drew)⟩) hHeld ?_
  try simp only [Act.put, List.setIfInBounds_toArray, List.set_cons_zero, List.set_cons_succ]
  refine wpAnyH_ready (rs := [2]) (by kernel_rfl) (by simp) ?_
  refine AllReadyH.cons (o := { dst := none, op := Op.store 24 (Operand.tmp 4) (Operand.tmp 62), type := 0, pos := "ref.go:190", after := #[{ on := 0, ground := Ground.data }, { on := 0, ground := Ground.phase }, { on := 1, ground := Ground.textOnly Departure.lateStores }], guard := none }) rfl (fun K hK => ?_) AllReadyH.nil
  refine (if_pos (by rfl)).mpr ?_
  refine wp_store_row 24 _ _ rfl (w.heap.size + 1 + 1) #[.int .i64 qh, .int .u64 ql] rfl rfl 24 #[.int .i64 qh, .int .u64 ql] rq.drew size_W rfl (by simp [Value.oneCell']) ?_
  rw [Row.setRow_same rq.drew]
  refine hK.out _ _ (rfl) (fun hHeld => ?_)
  clear hK K
  try simp only [Act.put, List.setIfInBounds_toArray, List.set_cons_zero, List.set_cons_succ]
  refine wpAnyH_ready (rs := [3]) (by kernel_rfl) (by simp) ?_
  refine AllReadyH.cons (o := { dst := none, op := Op.store 24 (Operand.tmp 5) (Operand.tmp 63), type := 0, pos := "ref.go:190", after := #[{ on := 1, ground := Ground.data }, { on := 2, ground := Ground.chain }, { on := 0, ground := Ground.phase }, { on := 1, ground := Ground.phase }, { on := 2, ground := Ground.phase }], guard := none }) rfl (fun K hK => ?_) AllReadyH.nil
  refine (if_pos (by rfl)).mpr ?_
  refine wp_store_row 24 _ _ rfl (w.heap.size + 1 + 1 + 1) #[.int .i64 rh, .int .u64 rl] rfl rfl 24 #[.int .i64 rh, .int .u64 rl] rr.drew size_W rfl (by simp [Value.oneCell']) ?_
  rw [Row.setRow_same rr.drew]
  refine hK.out _ _ (rfl) (fun hHeld => ?_)
  clear hK K
  try simp only [Act.put, List.setIfInBounds_toArray, List.set_cons_zero, List.set_cons_succ]
  refine wpAnyH_take (i := 4) (oi := { dst := some 6, op := Op.assign (Operand.const (Value.int IntKind.i64 0)), type := 25, pos := "ref.go:190", after := #[{ on := 3, ground := Ground.chain }, { on := 0, ground := Ground.phase }, { on := 1, ground := Ground.phase }, { on := 2, ground := Ground.phase }, { on := 3, ground := Ground.phase }], guard := none }) (v := ?_) rfl (by kernel_rfl) (by kernel_rfl) (by kernel_rfl) (fun _ _ _ h => h) (Or.inl ⟨by rfl, ?_⟩) hHeld ?_
  rotate_left
  · intro w' hSw; (try dsimp only at hSw); go_simp <;> with_reducible rfl
  try simp only [Act.put, List.setIfInBounds_toArray, List.set_cons_zero, List.set_cons_succ]
  refine wpAnyH_done (by kernel_rfl) ?_ _
  refine NoPanic.normal ?_
  go_wp2_with fail
  have r1 := run_loadVar_row (P := Tryd.prog) V9.drew (w.heap.size + 1 + 1) 24 24 #[.int .i64 qh, .int .u64 ql] (0, 0) _ rq.drew Tryd.underlying24 rfl size_W
  have r2 := run_loadVar_row (P := Tryd.prog) V9.drew (w.heap.size + 1 + 1 + 1) 24 24 #[.int .i64 rh, .int .u64 rl] (0, 0) _ rr.drew Tryd.underlying24 rfl size_W
  exact bodyPost_ret (v := .tuple #[.agg #[.int .i64 qh, .int .u64 ql], .agg #[.int .i64 rh, .int .u64 rl], .int .i64 0]) (by simp [results, Tryd.results32, asAddr, r1, r2]) rfl ⟨rfl, hU.drew.below⟩

set_option maxRecDepth 100000 in
set_option maxHeartbeats 4000000 in
theorem rdiv_ft (w : World) (x y : Int) (hx : Fits x) (hy : Fits y) (h0 : y ≠ 0) (ha : decide (x < 0) = false) (hbn : decide (y < 0) = true) (k l : Nat) (hk : x.natAbs / y.natAbs = k) (hl : x.natAbs % y.natAbs = l) (qf : Fits (-(k : Int))) (rf : Fits ((l : Int))) (qh ql rh rl : Int) (eq : WV (-(k : Int)) = .agg #[.int .i64 qh, .int .u64 ql]) (er : WV ((l : Int)) = .agg #[.int .i64 rh, .int .u64 rl]) : Calls Tryd.prog 32 #[WV x, WV y] w fun e w' => e = .returned (.tuple #[.agg #[.int .i64 qh, .int .u64 ql], .agg #[.int .i64 rh, .int .u64 rl], .int .i64 0]) ∧ Below w.heap.size w w' := by
  have O1 := fun w => rof_any w x hx
  have O2 := fun w => rof_any w y hy
  have ZY := fun w => rzero_any w y.natAbs (Nat.lt_of_lt_of_le (fits_small hy) (BP_le (by decide)))
  obtain ⟨xh, xl, e1⟩ : ∃ hi lo : Int, WV x = .agg #[.int .i64 hi, .int .u64 lo] := ⟨_, _, rfl⟩
  obtain ⟨yh, yl, e2⟩ : ∃ hi lo : Int, WV y = .agg #[.int .i64 hi, .int .u64 lo] := ⟨_, _, rfl⟩
  have sx := fits_small hx
  have sy := fits_small hy
  have QD := fun w => rdiv_any w x.natAbs y.natAbs (Nat.lt_of_lt_of_le sx (BP_le (by decide))) (Nat.lt_of_lt_of_le sy (BP_le (by decide))) (by omega)
  rw [hk, hl] at QD
  have bk : k < BP 16 := by rw [← hk]; exact Nat.lt_of_le_of_lt (Nat.div_le_self _ _) (Nat.lt_of_lt_of_le sx (BP_le (by decide)))
  have bl : l < BP 16 := by rw [← hl]; exact Nat.lt_of_le_of_lt (Nat.mod_le _ _) (Nat.lt_of_lt_of_le sx (BP_le (by decide)))
  have ZK := fun w => rzero_any w k bk
  have ZL := fun w => rzero_any w l bl
  have WQ := fun w => rwide_any w (-(k : Int)) (by omega)
  have WR := fun w => rwide_any w ((l : Int)) (by omega)
  rw [show decide (y.natAbs = 0) = false by simp; omega] at ZY
  rw [resV_fit qf] at WQ
  rw [← neg_big] at WQ
  rw [← pos_big] at WR
  rw [resV_fit rf, er] at WR
  rw [eq] at WQ
  obtain ⟨z, hz⟩ : ∃ z, z = decide (k = 0) := ⟨_, rfl⟩
  obtain ⟨zr, hzr⟩ : ∃ z, z = decide (l = 0) := ⟨_, rfl⟩
  rw [← hz] at ZK
  rw [← hzr] at ZL
  rw [← hz] at WQ
  have e0 : WV 0 = .agg #[.int .i64 0, .int .u64 0] := by kernel_rfl
  rw [e1] at O1
  rw [e2] at O2
  rw [e1, e2]
  unfold BigZ at O1 O2
  rw [ha] at O1
  rw [hbn] at O2
  unfold BigV at O1 O2 WQ WR
  unfold DV at ZY QD ZK ZL
  obtain ⟨C1, hC1⟩ : ∃ X, X = bigs false x.natAbs := ⟨_, rfl⟩
  obtain ⟨C2, hC2⟩ : ∃ X, X = bigs true y.natAbs := ⟨_, rfl⟩
  obtain ⟨E1, hE1⟩ : ∃ X, X = digs x.natAbs := ⟨_, rfl⟩
  obtain ⟨E2, hE2⟩ : ∃ X, X = digs y.natAbs := ⟨_, rfl⟩
  obtain ⟨E3, hE3⟩ : ∃ X, X = digs k := ⟨_, rfl⟩
  obtain ⟨E4, hE4⟩ : ∃ X, X = digs l := ⟨_, rfl⟩
  obtain ⟨C3, hC3⟩ : ∃ X, X = bigs (!z) k := ⟨_, rfl⟩
  obtain ⟨C4, hC4⟩ : ∃ X, X = bigs false l := ⟨_, rfl⟩
  rw [← hC1] at O1
  rw [← hC2] at O2
  rw [← hE2] at ZY
  rw [← hE1, ← hE2, ← hE3, ← hE4] at QD
  rw [← hE3] at ZK
  rw [← hE4] at ZL
  rw [← hC3] at WQ
  rw [← hC4] at WR
  have H1 := hid hC1
  have H2 := hid hC2
  have H3 := hid hC3
  have H4 := hid hC4
  have HE1 := hid hE1
  have HE2 := hid hE2
  have HE3 := hid hE3
  have HE4 := hid hE4
  have HO1 := hid O1
  have HO2 := hid O2
  have HZY := hid ZY
  have HQD := hid QD
  have HZK := hid ZK
  have HZL := hid ZL
  have HWQ := hid WQ
  have HWR := hid WR
  clear O1 O2 ZY QD ZK ZL WQ WR e0 e1 e2 hC1 hC2 hC3 hC4 hE1 hE2 hE3 hE4 hx hy h0 ha hbn hk hl bk bl sx sy hz hzr qf rf eq er
  have rx := (((Row.new w 24 #[.int .i64 xh, .int .u64 xl]).alloc (.cells #[.int .i64 yh, .int .u64 yl] 24)).alloc (.cells #[.int .i64 0, .int .u64 0] 24)).alloc (.cells #[.int .i64 0, .int .u64 0] 24)
  have ry := ((Row.new (w.alloc (.cells #[.int .i64 xh, .int .u64 xl] 24)) 24 #[.int .i64 yh, .int .u64 yl]).alloc (.cells #[.int .i64 0, .int .u64 0] 24)).alloc (.cells #[.int .i64 0, .int .u64 0] 24)
  have rq := (Row.new ((w.alloc (.cells #[.int .i64 xh, .int .u64 xl] 24)).alloc (.cells #[.int .i64 yh, .int .u64 yl] 24)) 24 #[.int .i64 0, .int .u64 0]).alloc (.cells #[.int .i64 0, .int .u64 0] 24)
  have rr := Row.new (((w.alloc (.cells #[.int .i64 xh, .int .u64 xl] 24)).alloc (.cells #[.int .i64 yh, .int .u64 yl] 24)).alloc (.cells #[.int .i64 0, .int .u64 0] 24)) 24 #[.int .i64 0, .int .u64 0]
  have hU := ((((Up.refl w).alloc (.cells #[.int .i64 xh, .int .u64 xl] 24)).alloc (.cells #[.int .i64 yh, .int .u64 yl] 24)).alloc (.cells #[.int .i64 0, .int .u64 0] 24)).alloc (.cells #[.int .i64 0, .int .u64 0] 24)
  simp only [alloc_size] at ry rq rr
  go_enter Tryd.func32, Tryd.ntmps32
  go_upto_region 1 with fail
  obtain ⟨V, hV⟩ : ∃ V, V = (((w.alloc (.cells #[.int .i64 xh, .int .u64 xl] 24)).alloc (.cells #[.int .i64 yh, .int .u64 yl] 24)).alloc (.cells #[.int .i64 0, .int .u64 0] 24)).alloc (.cells #[.int .i64 0, .int .u64 0] 24) := ⟨_, rfl⟩
  rw [← hV] at rx ry rq rr hU ⊢
  clear hV
  have cx0 : V.cell? ⟨w.heap.size, 0, none⟩ = some (.int .i64 xh) := by simpa using rx.cell 0
  have cx1 : V.cell? ⟨w.heap.size, 1, none⟩ = some (.int .u64 xl) := by simpa using rx.cell 1
  go_wp2_with fail
  refine Calls.mono (HO1.out _) ?_; rintro e w1 ⟨rfl, hb⟩
  have z1 := hb.size
  have l1 := rr.lt
  clear cx0 cx1
  replace rx := (rx).mod (Mod.of_below hb Nil) (fun hf => hf)
  replace ry := (ry).mod (Mod.of_below hb Nil) (fun hf => hf)
  replace rq := (rq).mod (Mod.of_below hb Nil) (fun hf => hf)
  replace rr := (rr).mod (Mod.of_below hb Nil) (fun hf => hf)
  replace hU := hU.trans hb
  clear hb
  have r7 := (Row.new w1 76 #[.bool false, .int .u64 0, .int .u64 0, .int .u64 0, .int .u64 0, .int .u64 0, .int .u64 0, .int .u64 0, .int .u64 0, .int .u64 0, .int .u64 0, .int .u64 0, .int .u64 0, .int .u64 0, .int .u64 0, .int .u64 0, .int .u64 0]).putRow C1
  replace rx := (rx.alloc (.cells #[.bool false, .int .u64 0, .int .u64 0, .int .u64 0, .int .u64 0, .int .u64 0, .int .u64 0, .int .u64 0, .int .u64 0, .int .u64 0, .int .u64 0, .int .u64 0, .int .u64 0, .int .u64 0, .int .u64 0, .int .u64 0, .int .u64 0] 76)).farRow (g' := w1.heap.size) (by omega) C1
  replace ry := (ry.alloc (.cells #[.bool false, .int .u64 0, .int .u64 0, .int .u64 0, .int .u64 0, .int .u64 0, .int .u64 0, .int .u64 0, .int .u64 0, .int .u64 0, .int .u64 0, .int .u64 0, .int .u64 0, .int .u64 0, .int .u64 0, .int .u64 0, .int .u64 0] 76)).farRow (g' := w1.heap.size) (by omega) C1
  replace rq := (rq.alloc (.cells #[.bool false, .int .u64 0, .int .u64 0, .int .u64 0, .int .u64 0, .int .u64 0, .int .u64 0, .int .u64 0, .int .u64 0, .int .u64 0, .int .u64 0, .int .u64 0, .int .u64 0, .int .u64 0, .int .u64 0, .int .u64 0, .int .u64 0] 76)).farRow (g' := w1.heap.size) (by omega) C1
  replace rr := (rr.alloc (.cells #[.bool false, .int .u64 0, .int .u64 0, .int .u64 0, .int .u64 0, .int .u64 0, .int .u64 0, .int .u64 0, .int .u64 0, .int .u64 0, .int .u64 0, .int .u64 0, .int .u64 0, .int .u64 0, .int .u64 0, .int .u64 0, .int .u64 0] 76)).farRow (g' := w1.heap.size) (by omega) C1
  replace hU := (hU.alloc (.cells #[.bool false, .int .u64 0, .int .u64 0, .int .u64 0, .int .u64 0, .int .u64 0, .int .u64 0, .int .u64 0, .int .u64 0, .int .u64 0, .int .u64 0, .int .u64 0, .int .u64 0, .int .u64 0, .int .u64 0, .int .u64 0, .int .u64 0] 76)).setRow (p := w1.heap.size) (by omega) C1
  go_upto_region 2 with (refine wpList_store_row rfl 76 _ _ rfl (w1.heap.size) C1 rfl rfl 76 #[.bool false, .int .u64 0, .int .u64 0, .int .u64 0, .int .u64 0, .int .u64 0, .int .u64 0, .int .u64 0, .int .u64 0, .int .u64 0, .int .u64 0, .int .u64 0, .int .u64 0, .int .u64 0, .int .u64 0, .int .u64 0, .int .u64 0] (Row.new w1 76 #[.bool false, .int .u64 0, .int .u64 0, .int .u64 0, .int .u64 0, .int .u64 0, .int .u64 0, .int .u64 0, .int .u64 0, .int .u64 0, .int .u64 0, .int .u64 0, .int .u64 0, .int .u64 0, .int .u64 0, .int .u64 0, .int .u64 0]) (size_Bn (sizeC H1)) (by rw [sizeC H1]; rfl) (oneC H1) ?_)
  obtain ⟨V1, hV1⟩ : ∃ V1, V1 = (w1.alloc (.cells #[.bool false, .int .u64 0, .int .u64 0, .int .u64 0, .int .u64 0, .int .u64 0, .int .u64 0, .int .u64 0, .int .u64 0, .int .u64 0, .int .u64 0, .int .u64 0, .int .u64 0, .int .u64 0, .int .u64 0, .int .u64 0, .int .u64 0] 76)).setRow w1.heap.size C1 := ⟨_, rfl⟩
  rw [← hV1] at rx ry rq rr r7 hU ⊢
  have zv1 : V1.heap.size = w1.heap.size + 1 := by rw [hV1, setRow_size, alloc_size]
  clear hV1
  obtain ⟨g7, hg7⟩ : ∃ g, g = w1.heap.size := ⟨_, rfl⟩
  rw [← hg7] at r7 z1 zv1 ⊢
  clear hg7
  have cx0 : V1.cell? ⟨w.heap.size + 1, 0, none⟩ = some (.int .i64 yh) := by simpa using ry.cell 0
  have cx1 : V1.cell? ⟨w.heap.size + 1, 1, none⟩ = some (.int .u64 yl) := by simpa using ry.cell 1
  go_wp2_with fail
  refine Calls.mono (HO2.out _) ?_; rintro e w2 ⟨rfl, hb⟩
  have z2 := hb.size
  clear cx0 cx1
  replace rx := (rx).mod (Mod.of_below hb Nil) (fun hf => hf)
  replace ry := (ry).mod (Mod.of_below hb Nil) (fun hf => hf)
  replace rq := (rq).mod (Mod.of_below hb Nil) (fun hf => hf)
  replace rr := (rr).mod (Mod.of_below hb Nil) (fun hf => hf)
  replace r7 := (r7).mod (Mod.of_below hb Nil) (fun hf => hf)
  replace hU := hU.trans hb
  clear hb
  have r8 := (Row.new w2 76 #[.bool false, .int .u64 0, .int .u64 0, .int .u64 0, .int .u64 0, .int .u64 0, .int .u64 0, .int .u64 0, .int .u64 0, .int .u64 0, .int .u64 0, .int .u64 0, .int .u64 0, .int .u64 0, .int .u64 0, .int .u64 0, .int .u64 0]).putRow C2
  replace rx := (rx.alloc (.cells #[.bool false, .int .u64 0, .int .u64 0, .int .u64 0, .int .u64 0, .int .u64 0, .int .u64 0, .int .u64 0, .int .u64 0, .int .u64 0, .int .u64 0, .int .u64 0, .int .u64 0, .int .u64 0, .int .u64 0, .int .u64 0, .int .u64 0] 76)).farRow (g' := w2.heap.size) (by omega) C2
  replace ry := (ry.alloc (.cells #[.bool false, .int .u64 0, .int .u64 0, .int .u64 0, .int .u64 0, .int .u64 0, .int .u64 0, .int .u64 0, .int .u64 0, .int .u64 0, .int .u64 0, .int .u64 0, .int .u64 0, .int .u64 0, .int .u64 0, .int .u64 0, .int .u64 0] 76)).farRow (g' := w2.heap.size) (by omega) C2
  replace rq := (rq.alloc (.cells #[.bool false, .int .u64 0, .int .u64 0, .int .u64 0, .int .u64 0, .int .u64 0, .int .u64 0, .int .u64 0, .int .u64 0, .int .u64 0, .int .u64 0, .int .u64 0, .int .u64 0, .int .u64 0, .int .u64 0, .int .u64 0, .int .u64 0] 76)).farRow (g' := w2.heap.size) (by omega) C2
  replace rr := (rr.alloc (.cells #[.bool false, .int .u64 0, .int .u64 0, .int .u64 0, .int .u64 0, .int .u64 0, .int .u64 0, .int .u64 0, .int .u64 0, .int .u64 0, .int .u64 0, .int .u64 0, .int .u64 0, .int .u64 0, .int .u64 0, .int .u64 0, .int .u64 0] 76)).farRow (g' := w2.heap.size) (by omega) C2
  replace r7 := (r7.alloc (.cells #[.bool false, .int .u64 0, .int .u64 0, .int .u64 0, .int .u64 0, .int .u64 0, .int .u64 0, .int .u64 0, .int .u64 0, .int .u64 0, .int .u64 0, .int .u64 0, .int .u64 0, .int .u64 0, .int .u64 0, .int .u64 0, .int .u64 0] 76)).farRow (g' := w2.heap.size) (by omega) C2
  replace hU := (hU.alloc (.cells #[.bool false, .int .u64 0, .int .u64 0, .int .u64 0, .int .u64 0, .int .u64 0, .int .u64 0, .int .u64 0, .int .u64 0, .int .u64 0, .int .u64 0, .int .u64 0, .int .u64 0, .int .u64 0, .int .u64 0, .int .u64 0, .int .u64 0] 76)).setRow (p := w2.heap.size) (by omega) C2
  go_upto_region 3 with (refine wpList_store_row rfl 76 _ _ rfl (w2.heap.size) C2 rfl rfl 76 #[.bool false, .int .u64 0, .int .u64 0, .int .u64 0, .int .u64 0, .int .u64 0, .int .u64 0, .int .u64 0, .int .u64 0, .int .u64 0, .int .u64 0, .int .u64 0, .int .u64 0, .int .u64 0, .int .u64 0, .int .u64 0, .int .u64 0] (Row.new w2 76 #[.bool false, .int .u64 0, .int .u64 0, .int .u64 0, .int .u64 0, .int .u64 0, .int .u64 0, .int .u64 0, .int .u64 0, .int .u64 0, .int .u64 0, .int .u64 0, .int .u64 0, .int .u64 0, .int .u64 0, .int .u64 0, .int .u64 0]) (size_Bn (sizeC H2)) (by rw [sizeC H2]; rfl) (oneC H2) ?_)
  obtain ⟨V2, hV2⟩ : ∃ V2, V2 = (w2.alloc (.cells #[.bool false, .int .u64 0, .int .u64 0, .int .u64 0, .int .u64 0, .int .u64 0, .int .u64 0, .int .u64 0, .int .u64 0, .int .u64 0, .int .u64 0, .int .u64 0, .int .u64 0, .int .u64 0, .int .u64 0, .int .u64 0, .int .u64 0] 76)).setRow w2.heap.size C2 := ⟨_, rfl⟩
  rw [← hV2] at rx ry rq rr r7 r8 hU ⊢
  have zv2 : V2.heap.size = w2.heap.size + 1 := by rw [hV2, setRow_size, alloc_size]
  clear hV2
  obtain ⟨g8, hg8⟩ : ∃ g, g = w2.heap.size := ⟨_, rfl⟩
  rw [← hg8] at r8 z2 zv2 ⊢
  clear hg8 rx ry
  go_wp2_with (refine wpList_load_E rfl H2 HE2 (.tmp 15) rfl (g8) rfl 76 r8 ?_)
  refine Calls.mono (HZY.out _) ?_; rintro e w3 ⟨rfl, hb⟩
  have z3 := hb.size
  replace rq := (rq).mod (Mod.of_below hb Nil) (fun hf => hf)
  replace rr := (rr).mod (Mod.of_below hb Nil) (fun hf => hf)
  replace r7 := (r7).mod (Mod.of_below hb Nil) (fun hf => hf)
  replace r8 := (r8).mod (Mod.of_below hb Nil) (fun hf => hf)
  replace hU := hU.trans hb
  clear hb
  go_wp2_with (first | (refine wpList_load_E rfl H1 HE1 (.tmp 21) rfl (g7) rfl 76 r7 ?_) | (refine wpList_load_E rfl H2 HE2 (.tmp 23) rfl (g8) rfl 76 r8 ?_))
  refine Calls.mono (HQD.out _) ?_; rintro e w4 ⟨rfl, hb⟩
  have z4 := hb.size
  replace rq := (rq).mod (Mod.of_below hb Nil) (fun hf => hf)
  replace rr := (rr).mod (Mod.of_below hb Nil) (fun hf => hf)
  replace r7 := (r7).mod (Mod.of_below hb Nil) (fun hf => hf)
  replace r8 := (r8).mod (Mod.of_below hb Nil) (fun hf => hf)
  replace hU := hU.trans hb
  clear hb
  have n9 := (Row.new w4 74 #[.int .u64 0, .int .u64 0, .int .u64 0, .int .u64 0, .int .u64 0, .int .u64 0, .int .u64 0, .int .u64 0, .int .u64 0, .int .u64 0, .int .u64 0, .int .u64 0, .int .u64 0, .int .u64 0, .int .u64 0, .int .u64 0]).alloc (.cells #[.int .u64 0, .int .u64 0, .int .u64 0, .int .u64 0, .int .u64 0, .int .u64 0, .int .u64 0, .int .u64 0, .int .u64 0, .int .u64 0, .int .u64 0, .int .u64 0, .int .u64 0, .int .u64 0, .int .u64 0, .int .u64 0] 74)
  have n10 := Row.new (w4.alloc (.cells #[.int .u64 0, .int .u64 0, .int .u64 0, .int .u64 0, .int .u64 0, .int .u64 0, .int .u64 0, .int .u64 0, .int .u64 0, .int .u64 0, .int .u64 0, .int .u64 0, .int .u64 0, .int .u64 0, .int .u64 0, .int .u64 0] 74)) 74 #[.int .u64 0, .int .u64 0, .int .u64 0, .int .u64 0, .int .u64 0, .int .u64 0, .int .u64 0, .int .u64 0, .int .u64 0, .int .u64 0, .int .u64 0, .int .u64 0, .int .u64 0, .int .u64 0, .int .u64 0, .int .u64 0]
  simp only [alloc_size] at n10
  have r9 := (n9.putRow E3).farRow (g' := w4.heap.size + 1) (by omega) E4
  have m10 := n10.farRow (g' := w4.heap.size) (by omega) E3
  have r10 := m10.putRow E4
  replace rq := ((rq.alloc (.cells #[.int .u64 0, .int .u64 0, .int .u64 0, .int .u64 0, .int .u64 0, .int .u64 0, .int .u64 0, .int .u64 0, .int .u64 0, .int .u64 0, .int .u64 0, .int .u64 0, .int .u64 0, .int .u64 0, .int .u64 0, .int .u64 0] 74)).alloc (.cells #[.int .u64 0, .int .u64 0, .int .u64 0, .int .u64 0, .int .u64 0, .int .u64 0, .int .u64 0, .int .u64 0, .int .u64 0, .int .u64 0, .int .u64 0, .int .u64 0, .int .u64 0, .int .u64 0, .int .u64 0, .int .u64 0] 74)).farRow (g' := w4.heap.size) (by omega) E3 |>.farRow (g' := w4.heap.size + 1) (by omega) E4
  replace rr := ((rr.alloc (.cells #[.int .u64 0, .int .u64 0, .int .u64 0, .int .u64 0, .int .u64 0, .int .u64 0, .int .u64 0, .int .u64 0, .int .u64 0, .int .u64 0, .int .u64 0, .int .u64 0, .int .u64 0, .int .u64 0, .int .u64 0, .int .u64 0] 74)).alloc (.cells #[.int .u64 0, .int .u64 0, .int .u64 0, .int .u64 0, .int .u64 0, .int .u64 0, .int .u64 0, .int .u64 0, .int .u64 0, .int .u64 0, .int .u64 0, .int .u64 0, .int .u64 0, .int .u64 0, .int .u64 0, .int .u64 0] 74)).farRow (g' := w4.heap.size) (by omega) E3 |>.farRow (g' := w4.heap.size + 1) (by omega) E4
  replace r7 := ((r7.alloc (.cells #[.int .u64 0, .int .u64 0, .int .u64 0, .int .u64 0, .int .u64 0, .int .u64 0, .int .u64 0, .int .u64 0, .int .u64 0, .int .u64 0, .int .u64 0, .int .u64 0, .int .u64 0, .int .u64 0, .int .u64 0, .int .u64 0] 74)).alloc (.cells #[.int .u64 0, .int .u64 0, .int .u64 0, .int .u64 0, .int .u64 0, .int .u64 0, .int .u64 0, .int .u64 0, .int .u64 0, .int .u64 0, .int .u64 0, .int .u64 0, .int .u64 0, .int .u64 0, .int .u64 0, .int .u64 0] 74)).farRow (g' := w4.heap.size) (by omega) E3 |>.farRow (g' := w4.heap.size + 1) (by omega) E4
  replace r8 := ((r8.alloc (.cells #[.int .u64 0, .int .u64 0, .int .u64 0, .int .u64 0, .int .u64 0, .int .u64 0, .int .u64 0, .int .u64 0, .int .u64 0, .int .u64 0, .int .u64 0, .int .u64 0, .int .u64 0, .int .u64 0, .int .u64 0, .int .u64 0] 74)).alloc (.cells #[.int .u64 0, .int .u64 0, .int .u64 0, .int .u64 0, .int .u64 0, .int .u64 0, .int .u64 0, .int .u64 0, .int .u64 0, .int .u64 0, .int .u64 0, .int .u64 0, .int .u64 0, .int .u64 0, .int .u64 0, .int .u64 0] 74)).farRow (g' := w4.heap.size) (by omega) E3 |>.farRow (g' := w4.heap.size + 1) (by omega) E4
  replace hU := (((hU.alloc (.cells #[.int .u64 0, .int .u64 0, .int .u64 0, .int .u64 0, .int .u64 0, .int .u64 0, .int .u64 0, .int .u64 0, .int .u64 0, .int .u64 0, .int .u64 0, .int .u64 0, .int .u64 0, .int .u64 0, .int .u64 0, .int .u64 0] 74)).alloc (.cells #[.int .u64 0, .int .u64 0, .int .u64 0, .int .u64 0, .int .u64 0, .int .u64 0, .int .u64 0, .int .u64 0, .int .u64 0, .int .u64 0, .int .u64 0, .int .u64 0, .int .u64 0, .int .u64 0, .int .u64 0, .int .u64 0] 74)).setRow (p := w4.heap.size) (by omega) E3).setRow (p := w4.heap.size + 1) (by omega) E4
  go_upto_region 6 with (first | (refine wpList_store_row rfl 74 (.tmp 9) (.tmp 26) rfl (w4.heap.size) E3 rfl rfl 74 #[.int .u64 0, .int .u64 0, .int .u64 0, .int .u64 0, .int .u64 0, .int .u64 0, .int .u64 0, .int .u64 0, .int .u64 0, .int .u64 0, .int .u64 0, .int .u64 0, .int .u64 0, .int .u64 0, .int .u64 0, .int .u64 0] n9 (size_De HE3) (sizeE HE3).symm (oneE HE3) ?_) | (refine wpList_store_row rfl 74 (.tmp 10) (.tmp 27) rfl (w4.heap.size + 1) E4 rfl rfl 74 #[.int .u64 0, .int .u64 0, .int .u64 0, .int .u64 0, .int .u64 0, .int .u64 0, .int .u64 0, .int .u64 0, .int .u64 0, .int .u64 0, .int .u64 0, .int .u64 0, .int .u64 0, .int .u64 0, .int .u64 0, .int .u64 0] m10 (size_De HE4) (sizeE HE4).symm (oneE HE4) ?_))
  obtain ⟨V4, hV4⟩ : ∃ V4, V4 = (((w4.alloc (.cells #[.int .u64 0, .int .u64 0, .int .u64 0, .int .u64 0, .int .u64 0, .int .u64 0, .int .u64 0, .int .u64 0, .int .u64 0, .int .u64 0, .int .u64 0, .int .u64 0, .int .u64 0, .int .u64 0, .int .u64 0, .int .u64 0] 74)).alloc (.cells #[.int .u64 0, .int .u64 0, .int .u64 0, .int .u64 0, .int .u64 0, .int .u64 0, .int .u64 0, .int .u64 0, .int .u64 0, .int .u64 0, .int .u64 0, .int .u64 0, .int .u64 0, .int .u64 0, .int .u64 0, .int .u64 0] 74)).setRow w4.heap.size E3).setRow (w4.heap.size + 1) E4 := ⟨_, rfl⟩
  rw [← hV4] at rq rr r7 r8 r9 r10 hU ⊢
  clear hV4 n9 n10 m10
  obtain ⟨g9, hg9⟩ : ∃ g, g = w4.heap.size := ⟨_, rfl⟩
  rw [← hg9] at r9 r10 z4 ⊢
  clear hg9
  have MK : ∀ W, Row W (g7) 76 C1 → Row W (g8) 76 C2 → Row W (g9) 74 E3 → Row W (g9 + 1) 74 E4 → (∃ p q : Int, Row W (w.heap.size + 1 + 1) 24 #[.int .i64 p, .int .u64 q]) → Row W (w.heap.size + 1 + 1 + 1) 24 #[.int .i64 0, .int .u64 0] → Up w.heap.size w W → Row W (g7) 76 C1 ∧ Row W (g8) 76 C2 ∧ Row W (g9) 74 E3 ∧ Row W (g9 + 1) 74 E4 ∧ (∃ p q : Int, Row W (w.heap.size + 1 + 1) 24 #[.int .i64 p, .int .u64 q]) ∧ Row W (w.heap.size + 1 + 1 + 1) 24 #[.int .i64 0, .int .u64 0] ∧ Up w.heap.size w W ∧ W.cell? ⟨g7, 0, none⟩ = some (.bool false) ∧ W.cell? ⟨g8, 0, none⟩ = some (.bool true) := fun W k0 k1 k2 k3 k4 k5 k6 => ⟨k0, k1, k2, k3, k4, k5, k6, by rw [k0.cell, zeroC H1], by rw [k1.cell, zeroC H2]⟩
  have MK := hid MK
  refine wp_region_noPanic ?_
  refine wp_region_held_drew (S := fun W => Row W (g7) 76 C1 ∧ Row W (g8) 76 C2 ∧ Row W (g9) 74 E3 ∧ Row W (g9 + 1) 74 E4 ∧ (∃ p q : Int, Row W (w.heap.size + 1 + 1) 24 #[.int .i64 p, .int .u64 q]) ∧ Row W (w.heap.size + 1 + 1 + 1) 24 #[.int .i64 0, .int .u64 0] ∧ Up w.heap.size w W ∧ W.cell? ⟨g7, 0, none⟩ = some (.bool false) ∧ W.cell? ⟨g8, 0, none⟩ = some (.bool true)) (by kernel_rfl) (MK.out _ r7.drew r8.drew r9.drew r10.drew ⟨_, _, rq.drew⟩ rr.drew hU.drew) (fun hHeld => ?_)
  refine wpAnyH_take (i := 0) (oi := { dst := some 29, op := Op.fieldAddr 76 (Operand.tmp 7) 0, type := 0, pos := "ref.go:185", after := #[], guard := none }) (v := ?_) rfl (by kernel_rfl) (by kernel_rfl) (by kernel_rfl) (fun _ _ _ h => h) (Or.inl ⟨by rfl, ?_⟩) hHeld ?_
  rotate_left
  · intro w' hSw; (try dsimp only at hSw); go_simp <;> with_reducible rfl
  try simp only [Act.put, List.setIfInBounds_toArray, List.set_cons_zero, List.set_cons_succ]
  refine wpAnyH_take (i := 1) (oi := { dst := some 30, op := Op.load 4 (Operand.tmp 29), type := 4, pos := "ref.go:185", after := #[{ on := 0, ground := Ground.data }], guard := none }) (v := ?_) rfl (by kernel_rfl) (by kernel_rfl) (by kernel_rfl) (fun _ _ _ h => h) (Or.inl ⟨by rfl, ?_⟩) hHeld ?_
  rotate_left
  · intro w' hSw; (try dsimp only at hSw); go_simp <;> with_reducible rfl
  try simp only [Act.put, List.setIfInBounds_toArray, List.set_cons_zero, List.set_cons_succ]
  refine wpAnyH_take (i := 2) (oi := { dst := some 31, op := Op.fieldAddr 76 (Operand.tmp 8) 0, type := 0, pos := "ref.go:185", after := #[], guard := none }) (v := ?_) rfl (by kernel_rfl) (by kernel_rfl) (by kernel_rfl) (fun _ _ _ h => h) (Or.inl ⟨by rfl, ?_⟩) hHeld ?_
  rotate_left
  · intro w' hSw; (try dsimp only at hSw); go_simp <;> with_reducible rfl
  try simp only [Act.put, List.setIfInBounds_toArray, List.set_cons_zero, List.set_cons_succ]
  refine wpAnyH_take (i := 3) (oi := { dst := some 32, op := Op.load 4 (Operand.tmp 31), type := 4, pos := "ref.go:185", after := #[{ on := 2, ground := Ground.data }], guard := none }) (v := ?_) rfl (by kernel_rfl) (by kernel_rfl) (by kernel_rfl) (fun _ _ _ h => h) (Or.inl ⟨by rfl, ?_⟩) hHeld ?_
  rotate_left
  · intro w' hSw; (try dsimp only at hSw); go_simp <;> with_reducible rfl
  try simp only [Act.put, List.setIfInBounds_toArray, List.set_cons_zero, List.set_cons_succ]
  refine wpAnyH_take (i := 4) (oi := { dst := some 33, op := Op.binOp BinOp.neq 4 (Operand.tmp 30) (Operand.tmp 32) 4, type := 4, pos := "ref.go:185", after := #[{ on := 1, ground := Ground.data }, { on := 3, ground := Ground.data }], guard := none }) (v := ?_) rfl (by kernel_rfl) (by kernel_rfl) (by kernel_rfl) (fun _ _ _ h => h) (Or.inl ⟨by rfl, ?_⟩) hHeld ?_
  rotate_left
  · intro w' hSw; (try dsimp only at hSw); go_simp <;> with_reducible rfl
  try simp only [Act.put, List.setIfInBounds_toArray, List.set_cons_zero, List.set_cons_succ]
  refine wpAnyH_take (i := 5) (oi := { dst := some 34, op := Op.move (Operand.tmp 33), type := 4, pos := "ref.go:185", after := #[{ on := 4, ground := Ground.data }], guard := none }) (v := ?_) rfl (by kernel_rfl) (by kernel_rfl) (by kernel_rfl) (fun _ _ _ h => h) (Or.inl ⟨by rfl, ?_⟩) hHeld ?_
  rotate_left
  · intro w' hSw; (try dsimp only at hSw); go_simp <;> with_reducible rfl
  try simp only [Act.put, List.setIfInBounds_toArray, List.set_cons_zero, List.set_cons_succ]
  refine wpAnyH_take (i := 6) (oi := { dst := some 35, op := Op.load 74 (Operand.tmp 9), type := 74, pos := "ref.go:185", after := #[{ on := 5, ground := Ground.guard }], guard := some (5, true) }) (v := .agg E3) rfl (by kernel_rfl) (by kernel_rfl) (by kernel_rfl) (fun _ _ _ h => h) (Or.inl ⟨by rfl, fun W hW => exec_load_row 74 _ rfl (g9) rfl 74 E3 _ Tryd.underlying74 rfl (size_De HE3) W hW.2.2.1⟩) hHeld ?_
  try simp only [Act.put, List.setIfInBounds_toArray, List.set_cons_zero, List.set_cons_succ]
  refine wpAnyH_take (i := 10) (oi := { dst := some 39, op := Op.load 74 (Operand.tmp 9), type := 74, pos := "ref.go:185", after := #[], guard := none }) (v := .agg E3) rfl (by kernel_rfl) (by kernel_rfl) (by kernel_rfl) (fun _ _ _ h => h) (Or.inl ⟨by rfl, fun W hW => exec_load_row 74 _ rfl (g9) rfl 74 E3 _ Tryd.underlying74 rfl (size_De HE3) W hW.2.2.1⟩) hHeld ?_
  try simp only [Act.put, List.setIfInBounds_toArray, List.set_cons_zero, List.set_cons_succ]
  refine wpAnyH_ready (rs := [7]) (by kernel_rfl) (by simp) ?_
  refine AllReadyH.cons (o := { dst := some 36, op := Op.call { callee := Callee.value (Operand.func 64), args := #[Operand.tmp 35], argTypes := #[74] }, type := 4, pos := "ref.go:185", after := #[{ on := 6, ground := Ground.data }, { on := 5, ground := Ground.chain }, { on := 5, ground := Ground.guard }], guard := some (5, true) }) rfl (fun K hK => ?_) AllReadyH.nil
  go_simp
  refine Calls.mono (HZK.out _) ?_; rintro e w5 ⟨rfl, hb⟩
  refine hK.out _ _ (MK.out _ ((hHeld.1).mod (Mod.of_below hb Nil) (fun hf => hf)) ((hHeld.2.1).mod (Mod.of_below hb Nil) (fun hf => hf)) ((hHeld.2.2.1).mod (Mod.of_below hb Nil) (fun hf => hf)) ((hHeld.2.2.2.1).mod (Mod.of_below hb Nil) (fun hf => hf)) ((by obtain ⟨p, q, h1⟩ := hHeld.2.2.2.2.1; exact ⟨p, q, (h1).mod (Mod.of_below hb Nil) (fun hf => hf)⟩)) ((hHeld.2.2.2.2.2.1).mod (Mod.of_below hb Nil) (fun hf => hf)) ((hHeld.2.2.2.2.2.2.1).trans hb)) (fun hHeld => ?_)
  clear hK K
  try simp only [Act.put, List.setIfInBounds_toArray, List.set_cons_zero, List.set_cons_succ]
  refine wpAnyH_take (i := 8) (oi := { dst := some 37, op := Op.unOp UnOp.not 4 (Operand.tmp 36), type := 4, pos := "ref.go:185", after := #[{ on := 7, ground := Ground.data }, { on := 5, ground := Ground.guard }], guard := some (5, true) }) (v := ?_) rfl (by kernel_rfl) (by kernel_rfl) (by kernel_rfl) (fun _ _ _ h => h) (Or.inl ⟨by rfl, ?_⟩) hHeld ?_
  rotate_left
  · intro w' hSw; (try dsimp only at hSw); go_simp <;> with_reducible rfl
  try simp only [Act.put, List.setIfInBounds_toArray, List.set_cons_zero, List.set_cons_succ]
  refine wpAnyH_take (i := 9) (oi := { dst := some 38, op := Op.pick (Operand.tmp 34) (Operand.tmp 37) (Operand.const (Value.bool false)), type := 4, pos := "ref.go:185", after := #[{ on := 5, ground := Ground.data }, { on := 8, ground := Ground.data }], guard := none }) (v := ?_) rfl (by kernel_rfl) (by kernel_rfl) (by kernel_rfl) (fun _ _ _ h => h) (Or.inl ⟨by rfl, ?_⟩) hHeld ?_
  rotate_left
  · intro w' hSw; (try dsimp only at hSw); go_simp <;> with_reducible rfl
  try simp only [Act.put, List.setIfInBounds_toArray, List.set_cons_zero, List.set_cons_succ]
  refine wpAnyH_take (i := 11) (oi := { dst := some 40, op := Op.build 76 #[(0, Operand.tmp 38), (1, Operand.tmp 39)], type := 76, pos := "ref.go:185", after := #[{ on := 9, ground := Ground.data }, { on := 10, ground := Ground.data }], guard := none }) (v := .agg C3) rfl (by kernel_rfl) (by kernel_rfl) (by kernel_rfl) (fun _ _ _ h => h) (Or.inl ⟨by rfl, fun W hW => exec_build_C H3 HE3 _ _ rfl rfl rfl⟩) hHeld ?_
  try simp only [Act.put, List.setIfInBounds_toArray, List.set_cons_zero, List.set_cons_succ]
  refine wpAnyH_ready (rs := [12]) (by kernel_rfl) (by simp) ?_
  refine AllReadyH.cons (o := { dst := some 41, op := Op.call { callee := Callee.value (Operand.func 54), args := #[Operand.tmp 40], argTypes := #[76] }, type := 26, pos := "ref.go:185", after := #[{ on := 11, ground := Ground.data }, { on := 7, ground := Ground.chain }], guard := none }) rfl (fun K hK => ?_) AllReadyH.nil
  go_simp
  refine Calls.mono (HWQ.out _) ?_; rintro e w6 ⟨rfl, hb⟩
  refine hK.out _ _ (MK.out _ ((hHeld.1).mod (Mod.of_below hb Nil) (fun hf => hf)) ((hHeld.2.1).mod (Mod.of_below hb Nil) (fun hf => hf)) ((hHeld.2.2.1).mod (Mod.of_below hb Nil) (fun hf => hf)) ((hHeld.2.2.2.1).mod (Mod.of_below hb Nil) (fun hf => hf)) ((by obtain ⟨p, q, h1⟩ := hHeld.2.2.2.2.1; exact ⟨p, q, (h1).mod (Mod.of_below hb Nil) (fun hf => hf)⟩)) ((hHeld.2.2.2.2.2.1).mod (Mod.of_below hb Nil) (fun hf => hf)) ((hHeld.2.2.2.2.2.2.1).trans hb)) (fun hHeld => ?_)
  clear hK K
  try simp only [Act.put, List.setIfInBounds_toArray, List.set_cons_zero, List.set_cons_succ]
  refine wpAnyH_take (i := 13) (oi := { dst := some 28, op := Op.move (Operand.tmp 41), type := 26, pos := "ref.go:185", after := #[{ on := 12, ground := Ground.data }], guard := none }) (v := ?_) rfl (by kernel_rfl) (by kernel_rfl) (by kernel_rfl) (fun _ _ _ h => h) (Or.inl ⟨by rfl, ?_⟩) hHeld ?_
  rotate_left
  · intro w' hSw; (try dsimp only at hSw); go_simp <;> with_reducible rfl
  try simp only [Act.put, List.setIfInBounds_toArray, List.set_cons_zero, List.set_cons_succ]
  refine wpAnyH_take (i := 14) (oi := { dst := some 42, op := Op.extract (Operand.tmp 28) 0, type := 24, pos := "ref.go:185", after := #[{ on := 13, ground := Ground.data }], guard := none }) (v := ?_) rfl (by kernel_rfl) (by kernel_rfl) (by kernel_rfl) (fun _ _ _ h => h) (Or.inl ⟨by rfl, ?_⟩) hHeld ?_
  rotate_left
  · intro w' hSw; (try dsimp only at hSw); go_simp <;> with_reducible rfl
  try simp only [Act.put, List.setIfInBounds_toArray, List.set_cons_zero, List.set_cons_succ]
  refine wpAnyH_take (i := 15) (oi := { dst := some 43, op := Op.extract (Operand.tmp 28) 1, type := 25, pos := "ref.go:185", after := #[{ on := 13, ground := Ground.data }, { on := 16, ground := Ground.gcOnly Departure.lateStores }], guard := none }) (v := ?_) rfl (by kernel_rfl) (by kernel_rfl) (by kernel_rfl) (fun _ _ _ h => h) (Or.inl ⟨by rfl, ?_⟩) hHeld ?_
  rotate_left
  · intro w' hSw; (try dsimp only at hSw); go_simp <;> with_reducible rfl
  try simp only [Act.put, List.setIfInBounds_toArray, List.set_cons_zero, List.set_cons_succ]
  obtain ⟨p, q, hq⟩ := hHeld.2.2.2.2.1
  refine wpAnyH_ready (rs := [16]) (by kernel_rfl) (by simp) ?_
  refine AllReadyH.cons (o := { dst := none, op := Op.store 24 (Operand.tmp 4) (Operand.tmp 42), type := 0, pos := "ref.go:185", after := #[{ on := 14, ground := Ground.data }, { on := 12, ground := Ground.chain }, { on := 0, ground := Ground.phase }, { on := 1, ground := Ground.phase }, { on := 2, ground := Ground.phase }, { on := 3, ground := Ground.phase }, { on := 4, ground := Ground.phase }, { on := 5, ground := Ground.phase }, { on := 6, ground := Ground.phase }, { on := 7, ground := Ground.phase }, { on := 8, ground := Ground.phase }, { on := 9, ground := Ground.phase }, { on := 10, ground := Ground.phase }, { on := 11, ground := Ground.phase }, { on := 12, ground := Ground.phase }, { on := 13, ground := Ground.phase }, { on := 14, ground := Ground.phase }, { on := 15, ground := Ground.textOnly Departure.lateStores }], guard := none }) rfl (fun K hK => ?_) AllReadyH.nil
  refine (if_pos (by rfl)).mpr ?_
  refine wp_store_row 24 _ _ rfl (w.heap.size + 1 + 1) #[.int .i64 qh, .int .u64 ql] rfl rfl 24 #[.int .i64 p, .int .u64 q] hq size_W rfl (by simp [Value.oneCell']) ?_
  replace hq := hq.putRow #[.int .i64 qh, .int .u64 ql]
  refine hK.out _ _ (MK.out _ ((hHeld.1).farRow (by omega) #[.int .i64 qh, .int .u64 ql]) ((hHeld.2.1).farRow (by omega) #[.int .i64 qh, .int .u64 ql]) ((hHeld.2.2.1).farRow (by omega) #[.int .i64 qh, .int .u64 ql]) ((hHeld.2.2.2.1).farRow (by omega) #[.int .i64 qh, .int .u64 ql]) (⟨_, _, hq⟩) ((hHeld.2.2.2.2.2.1).farRow (by omega) #[.int .i64 qh, .int .u64 ql]) ((hHeld.2.2.2.2.2.2.1).setRow (by omega) #[.int .i64 qh, .int .u64 ql])) (fun hHeld => ?_)
  clear hK K
  try simp only [Act.put, List.setIfInBounds_toArray, List.set_cons_zero, List.set_cons_succ]
  refine wpAnyH_take (i := 17) (oi := { dst := some 6, op := Op.assign (Operand.tmp 43), type := 25, pos := "ref.go:185", after := #[{ on := 15, ground := Ground.data }, { on := 16, ground := Ground.chain }, { on := 0, ground := Ground.phase }, { on := 1, ground := Ground.phase }, { on := 2, ground := Ground.phase }, { on := 3, ground := Ground.phase }, { on := 4, ground := Ground.phase }, { on := 5, ground := Ground.phase }, { on := 6, ground := Ground.phase }, { on := 7, ground := Ground.phase }, { on := 8, ground := Ground.phase }, { on := 9, ground := Ground.phase }, { on := 10, ground := Ground.phase }, { on := 11, ground := Ground.phase }, { on := 12, ground := Ground.phase }, { on := 13, ground := Ground.phase }, { on := 14, ground := Ground.phase }, { on := 15, ground := Ground.phase }, { on := 16, ground := Ground.phase }], guard := none }) (v := ?_) rfl (by kernel_rfl) (by kernel_rfl) (by kernel_rfl) (fun _ _ _ h => h) (Or.inl ⟨by rfl, ?_⟩) hHeld ?_
  rotate_left
  · intro w' hSw; (try dsimp only at hSw); go_simp <;> with_reducible rfl
  try simp only [Act.put, List.setIfInBounds_toArray, List.set_cons_zero, List.set_cons_succ]
  refine wpAnyH_done (by kernel_rfl) ?_ _
  refine NoPanic.normal ?_
  replace r7 := hHeld.1
  replace r10 := hHeld.2.2.2.1
  replace rr := hHeld.2.2.2.2.2.1
  replace hU := hHeld.2.2.2.2.2.2.1
  clear rq r8 r9 MK hHeld
  have rq := hq
  clear hq
  go_upto_region 9 with fail
  have MK : ∀ W, Row W (g7) 76 C1 → Row W (g9 + 1) 74 E4 → Row W (w.heap.size + 1 + 1) 24 #[.int .i64 qh, .int .u64 ql] → (∃ p q : Int, Row W (w.heap.size + 1 + 1 + 1) 24 #[.int .i64 p, .int .u64 q]) → Up w.heap.size w W → Row W (g7) 76 C1 ∧ Row W (g9 + 1) 74 E4 ∧ Row W (w.heap.size + 1 + 1) 24 #[.int .i64 qh, .int .u64 ql] ∧ (∃ p q : Int, Row W (w.heap.size + 1 + 1 + 1) 24 #[.int .i64 p, .int .u64 q]) ∧ Up w.heap.size w W ∧ W.cell? ⟨g7, 0, none⟩ = some (.bool false) := fun W k0 k1 k2 k3 k4 => ⟨k0, k1, k2, k3, k4, by rw [k0.cell, zeroC H1]⟩
  have MK := hid MK
  refine wp_region_noPanic ?_
  refine wp_region_held_drew (S := fun W => Row W (g7) 76 C1 ∧ Row W (g9 + 1) 74 E4 ∧ Row W (w.heap.size + 1 + 1) 24 #[.int .i64 qh, .int .u64 ql] ∧ (∃ p q : Int, Row W (w.heap.size + 1 + 1 + 1) 24 #[.int .i64 p, .int .u64 q]) ∧ Up w.heap.size w W ∧ W.cell? ⟨g7, 0, none⟩ = some (.bool false)) (by kernel_rfl) (MK.out _ r7.drew r10.drew rq.drew ⟨_, _, rr.drew⟩ hU.drew) (fun hHeld => ?_)
  refine wpAnyH_take (i := 0) (oi := { dst := some 50, op := Op.fieldAddr 76 (Operand.tmp 7) 0, type := 0, pos := "ref.go:189", after := #[], guard := none }) (v := ?_) rfl (by kernel_rfl) (by kernel_rfl) (by kernel_rfl) (fun _ _ _ h => h) (Or.inl ⟨by rfl, ?_⟩) hHeld ?_
  rotate_left
  · intro w' hSw; (try dsimp only at hSw); go_simp <;> with_reducible rfl
  try simp only [Act.put, List.setIfInBounds_toArray, List.set_cons_zero, List.set_cons_succ]
  refine wpAnyH_take (i := 1) (oi := { dst := some 51, op := Op.load 4 (Operand.tmp 50), type := 4, pos := "ref.go:189", after := #[{ on := 0, ground := Ground.data }], guard := none }) (v := ?_) rfl (by kernel_rfl) (by kernel_rfl) (by kernel_rfl) (fun _ _ _ h => h) (Or.inl ⟨by rfl, ?_⟩) hHeld ?_
  rotate_left
  · intro w' hSw; (try dsimp only at hSw); go_simp <;> with_reducible rfl
  try simp only [Act.put, List.setIfInBounds_toArray, List.set_cons_zero, List.set_cons_succ]
  refine wpAnyH_take (i := 2) (oi := { dst := some 52, op := Op.move (Operand.tmp 51), type := 4, pos := "ref.go:189", after := #[{ on := 1, ground := Ground.data }], guard := none }) (v := ?_) rfl (by kernel_rfl) (by kernel_rfl) (by kernel_rfl) (fun _ _ _ h => h) (Or.inl ⟨by rfl, ?_⟩) hHeld ?_
  rotate_left
  · intro w' hSw; (try dsimp only at hSw); go_simp <;> with_reducible rfl
  try simp only [Act.put, List.setIfInBounds_toArray, List.set_cons_zero, List.set_cons_succ]
  refine wpAnyH_take (i := 3) (oi := { dst := some 53, op := Op.load 74 (Operand.tmp 10), type := 74, pos := "ref.go:189", after := #[{ on := 2, ground := Ground.guard }], guard := some (2, true) }) (v := undef) rfl (by kernel_rfl) (by kernel_rfl) (by kernel_rfl) (fun _ _ _ h => h) (Or.inr ⟨by rfl, rfl⟩) hHeld ?_
  try simp only [Act.put, List.setIfInBounds_toArray, List.set_cons_zero, List.set_cons_succ]
  refine wpAnyH_take (i := 4) (oi := { dst := some 54, op := Op.call { callee := Callee.value (Operand.func 64), args := #[Operand.tmp 53], argTypes := #[74] }, type := 4, pos := "ref.go:189", after := #[{ on := 3, ground := Ground.data }, { on := 2, ground := Ground.chain }, { on := 2, ground := Ground.guard }], guard := some (2, true) }) (v := undef) rfl (by kernel_rfl) (by kernel_rfl) (by kernel_rfl) (fun _ _ _ h => h) (Or.inr ⟨by rfl, rfl⟩) hHeld ?_
  try simp only [Act.put, List.setIfInBounds_toArray, List.set_cons_zero, List.set_cons_succ]
  refine wpAnyH_take (i := 5) (oi := { dst := some 55, op := Op.unOp UnOp.not 4 (Operand.tmp 54), type := 4, pos := "ref.go:189", after := #[{ on := 4, ground := Ground.data }, { on := 2, ground := Ground.guard }], guard := some (2, true) }) (v := undef) rfl (by kernel_rfl) (by kernel_rfl) (by kernel_rfl) (fun _ _ _ h => h) (Or.inr ⟨by rfl, rfl⟩) hHeld ?_
  try simp only [Act.put, List.setIfInBounds_toArray, List.set_cons_zero, List.set_cons_succ]
  refine wpAnyH_take (i := 6) (oi := { dst := some 56, op := Op.pick (Operand.tmp 52) (Operand.tmp 55) (Operand.const (Value.bool false)), type := 4, pos := "ref.go:189", after := #[{ on := 2, ground := Ground.data }, { on := 5, ground := Ground.data }], guard := none }) (v := ?_) rfl (by kernel_rfl) (by kernel_rfl) (by kernel_rfl) (fun _ _ _ h => h) (Or.inl ⟨by rfl, ?_⟩) hHeld ?_
  rotate_left
  · intro w' hSw; (try dsimp only at hSw); go_simp <;> with_reducible rfl
  try simp only [Act.put, List.setIfInBounds_toArray, List.set_cons_zero, List.set_cons_succ]
  refine wpAnyH_take (i := 7) (oi := { dst := some 57, op := Op.load 74 (Operand.tmp 10), type := 74, pos := "ref.go:189", after := #[], guard := none }) (v := .agg E4) rfl (by kernel_rfl) (by kernel_rfl) (by kernel_rfl) (fun _ _ _ h => h) (Or.inl ⟨by rfl, fun W hW => exec_load_row 74 _ rfl (g9 + 1) rfl 74 E4 _ Tryd.underlying74 rfl (size_De HE4) W hW.2.1⟩) hHeld ?_
  try simp only [Act.put, List.setIfInBounds_toArray, List.set_cons_zero, List.set_cons_succ]
  refine wpAnyH_take (i := 8) (oi := { dst := some 58, op := Op.build 76 #[(0, Operand.tmp 56), (1, Operand.tmp 57)], type := 76, pos := "ref.go:189", after := #[{ on := 6, ground := Ground.data }, { on := 7, ground := Ground.data }], guard := none }) (v := .agg C4) rfl (by kernel_rfl) (by kernel_rfl) (by kernel_rfl) (fun _ _ _ h => h) (Or.inl ⟨by rfl, fun W hW => exec_build_C H4 HE4 _ _ rfl rfl rfl⟩) hHeld ?_
  try simp only [Act.put, List.setIfInBounds_toArray, List.set_cons_zero, List.set_cons_succ]
  refine wpAnyH_ready (rs := [9]) (by kernel_rfl) (by simp) ?_
  refine AllReadyH.cons (o := { dst := some 59, op := Op.call { callee := Callee.value (Operand.func 54), args := #[Operand.tmp 58], argTypes := #[76] }, type := 26, pos := "ref.go:189", after := #[{ on := 8, ground := Ground.data }, { on := 4, ground := Ground.chain }], guard := none }) rfl (fun K hK => ?_) AllReadyH.nil
  go_simp
  refine Calls.mono (HWR.out _) ?_; rintro e w8 ⟨rfl, hb⟩
  refine hK.out _ _ (MK.out _ ((hHeld.1).mod (Mod.of_below hb Nil) (fun hf => hf)) ((hHeld.2.1).mod (Mod.of_below hb Nil) (fun hf => hf)) ((hHeld.2.2.1).mod (Mod.of_below hb Nil) (fun hf => hf)) ((by obtain ⟨p, q, h1⟩ := hHeld.2.2.2.1; exact ⟨p, q, (h1).mod (Mod.of_below hb Nil) (fun hf => hf)⟩)) ((hHeld.2.2.2.2.1).trans hb)) (fun hHeld => ?_)
  clear hK K
  try simp only [Act.put, List.setIfInBounds_toArray, List.set_cons_zero, List.set_cons_succ]
  refine wpAnyH_take (i := 10) (oi := { dst := some 49, op := Op.move (Operand.tmp 59), type := 26, pos := "ref.go:189", after := #[{ on := 9, ground := Ground.data }], guard := none }) (v := ?_) rfl (by kernel_rfl) (by kernel_rfl) (by kernel_rfl) (fun _ _ _ h => h) (Or.inl ⟨by rfl, ?_⟩) hHeld ?_
  rotate_left
  · intro w' hSw; (try dsimp only at hSw); go_simp <;> with_reducible rfl
  try simp only [Act.put, List.setIfInBounds_toArray, List.set_cons_zero, List.set_cons_succ]
  refine wpAnyH_take (i := 11) (oi := { dst := some 60, op := Op.extract (Operand.tmp 49) 0, type := 24, pos := "ref.go:189", after := #[{ on := 10, ground := Ground.data }], guard := none }) (v := ?_) rfl (by kernel_rfl) (by kernel_rfl) (by kernel_rfl) (fun _ _ _ h => h) (Or.inl ⟨by rfl, ?_⟩) hHeld ?_
  rotate_left
  · intro w' hSw; (try dsimp only at hSw); go_simp <;> with_reducible rfl
  try simp only [Act.put, List.setIfInBounds_toArray, List.set_cons_zero, List.set_cons_succ]
  refine wpAnyH_take (i := 12) (oi := { dst := some 61, op := Op.extract (Operand.tmp 49) 1, type := 25, pos := "ref.go:189", after := #[{ on := 10, ground := Ground.data }, { on := 13, ground := Ground.gcOnly Departure.lateStores }], guard := none }) (v := ?_) rfl (by kernel_rfl) (by kernel_rfl) (by kernel_rfl) (fun _ _ _ h => h) (Or.inl ⟨by rfl, ?_⟩) hHeld ?_
  rotate_left
  · intro w' hSw; (try dsimp only at hSw); go_simp <;> with_reducible rfl
  try simp only [Act.put, List.setIfInBounds_toArray, List.set_cons_zero, List.set_cons_succ]
  obtain ⟨p, q, hq⟩ := hHeld.2.2.2.1
  refine wpAnyH_ready (rs := [13]) (by kernel_rfl) (by simp) ?_
  refine AllReadyH.cons (o := { dst := none, op := Op.store 24 (Operand.tmp 5) (Operand.tmp 60), type := 0, pos := "ref.go:189", after := #[{ on := 11, ground := Ground.data }, { on := 9, ground := Ground.chain }, { on := 0, ground := Ground.phase }, { on := 1, ground := Ground.phase }, { on := 2, ground := Ground.phase }, { on := 3, ground := Ground.phase }, { on := 4, ground := Ground.phase }, { on := 5, ground := Ground.phase }, { on := 6, ground := Ground.phase }, { on := 7, ground := Ground.phase }, { on := 8, ground := Ground.phase }, { on := 9, ground := Ground.phase }, { on := 10, ground := Ground.phase }, { on := 11, ground := Ground.phase }, { on := 12, ground := Ground.textOnly Departure.lateStores }], guard := none }) rfl (fun K hK => ?_) AllReadyH.nil
  refine (if_pos (by rfl)).mpr ?_
  refine wp_store_row 24 _ _ rfl (w.heap.size + 1 + 1 + 1) #[.int .i64 rh, .int .u64 rl] rfl rfl 24 #[.int .i64 p, .int .u64 q] hq size_W rfl (by simp [Value.oneCell']) ?_
  replace hq := hq.putRow #[.int .i64 rh, .int .u64 rl]
  refine hK.out _ _ (MK.out _ ((hHeld.1).farRow (by omega) #[.int .i64 rh, .int .u64 rl]) ((hHeld.2.1).farRow (by omega) #[.int .i64 rh, .int .u64 rl]) ((hHeld.2.2.1).farRow (by omega) #[.int .i64 rh, .int .u64 rl]) (⟨_, _, hq⟩) ((hHeld.2.2.2.2.1).setRow (by omega) #[.int .i64 rh, .int .u64 rl])) (fun hHeld => ?_)
  clear hK K
  try simp only [Act.put, List.setIfInBounds_toArray, List.set_cons_zero, List.set_cons_succ]
  refine wpAnyH_done (by kernel_rfl) ?_ _
  refine NoPanic.normal ?_
  replace rq := hHeld.2.2.1
  replace hU := hHeld.2.2.2.2.1
  clear rr r7 r10 MK hHeld
  have rr := hq
  clear hq
  go_upto_region 10 with fail
  obtain ⟨V9, hV9⟩ : ∃ V9, V9 = w8.setRow (w.heap.size + 1 + 1 + 1) #[.int .i64 rh, .int .u64 rl] := ⟨_, rfl⟩
  rw [← hV9] at rq rr hU ⊢
  clear hV9
  refine wp_region_noPanic ?_
  refine wp_region_held_drew (S := fun W => W = V9.drew) (by kernel_rfl) (rfl) (fun hHeld => ?_)
  refine wpAnyH_take (i := 0) (oi := { dst := some 62, op := Op.load 24 (Operand.tmp 4), type := 24, pos := "ref.go:190", after := #[], guard := none }) (v := .agg #[.int .i64 qh, .int .u64 ql]) rfl (by kernel_rfl) (by kernel_rfl) (by kernel_rfl) (fun _ _ _ h => h) (Or.inl ⟨by rfl, fun W hW => exec_load_row 24 _ rfl (w.heap.size + 1 + 1) rfl 24 #[.int .i64 qh, .int .u64 ql] _ Tryd.underlying24 rfl size_W W (by rw [hW]; exact rq.drew)⟩) hHeld ?_
  try simp only [Act.put, List.setIfInBounds_toArray, List.set_cons_zero, List.set_cons_succ]
  refine wpAnyH_take (i := 1) (oi := { dst := some 63, op := Op.load 24 (Operand.tmp 5), type := 24, pos := "ref.go:190", after := #[{ on := 2, ground := Ground.gcOnly Departure.lateStores }], guard := none }) (v := .agg #[.int .i64 rh, .int .u64 rl]) rfl (by kernel_rfl) (by kernel_rfl) (by kernel_rfl) (fun _ _ _ h => h) (Or.inl ⟨by rfl, fun W hW => exec_load_row 24 _ rfl (w.heap.size + 1 + 1 + 1) rfl 24 #[.int .i64 rh, .int .u64 rl] _ Tryd.underlying24 rfl size_W W (by rw [hW]; exact rr.drew)⟩) hHeld ?_
  try simp only [Act.put, List.setIfInBounds_toArray, List.set_cons_zero, List.set_cons_succ]
  refine wpAnyH_ready (rs := [2]) (by kernel_rfl) (by simp) ?_
  refine AllReadyH.cons (o := { dst := none, op := Op.store 24 (Operand.tmp 4) (Operand.tmp 62), type := 0, pos := "ref.go:190", after := #[{ on := 0, ground := Ground.data }, { on := 0, ground := Ground.phase }, { on := 1, ground := Ground.textOnly Departure.lateStores }], guard := none }) rfl (fun K hK => ?_) AllReadyH.nil
  refine (if_pos (by rfl)).mpr ?_
  refine wp_store_row 24 _ _ rfl (w.heap.size + 1 + 1) #[.int .i64 qh, .int .u64 ql] rfl rfl 24 #[.int .i64 qh, .int .u64 ql] rq.drew size_W rfl (by simp [Value.oneCell']) ?_
  rw [Row.setRow_same rq.drew]
  refine hK.out _ _ (rfl) (fun hHeld => ?_)
  clear hK K
  try simp only [Act.put, List.setIfInBounds_toArray, List.set_cons_zero, List.set_cons_succ]
  refine wpAnyH_ready (rs := [3]) (by kernel_rfl) (by simp) ?_
  refine AllReadyH.cons (o := { dst := none, op := Op.store 24 (Operand.tmp 5) (Operand.tmp 63), type := 0, pos := "ref.go:190", after := #[{ on := 1, ground := Ground.data }, { on := 2, ground := Ground.chain }, { on := 0, ground := Ground.phase }, { on := 1, ground := Ground.phase }, { on := 2, ground := Ground.phase }], guard := none }) rfl (fun K hK => ?_) AllReadyH.nil
  refine (if_pos (by rfl)).mpr ?_
  refine wp_store_row 24 _ _ rfl (w.heap.size + 1 + 1 + 1) #[.int .i64 rh, .int .u64 rl] rfl rfl 24 #[.int .i64 rh, .int .u64 rl] rr.drew size_W rfl (by simp [Value.oneCell']) ?_
  rw [Row.setRow_same rr.drew]
  refine hK.out _ _ (rfl) (fun hHeld => ?_)
  clear hK K
  try simp only [Act.put, List.setIfInBounds_toArray, List.set_cons_zero, List.set_cons_succ]
  refine wpAnyH_take (i := 4) (oi := { dst := some 6, op := Op.assign (Operand.const (Value.int IntKind.i64 0)), type := 25, pos := "ref.go:190", after := #[{ on := 3, ground := Ground.chain }, { on := 0, ground := Ground.phase }, { on := 1, ground := Ground.phase }, { on := 2, ground := Ground.phase }, { on := 3, ground := Ground.phase }], guard := none }) (v := ?_) rfl (by kernel_rfl) (by kernel_rfl) (by kernel_rfl) (fun _ _ _ h => h) (Or.inl ⟨by rfl, ?_⟩) hHeld ?_
  rotate_left
  · intro w' hSw; (try dsimp only at hSw); go_simp <;> with_reducible rfl
  try simp only [Act.put, List.setIfInBounds_toArray, List.set_cons_zero, List.set_cons_succ]
  refine wpAnyH_done (by kernel_rfl) ?_ _
  refine NoPanic.normal ?_
  go_wp2_with fail
  have r1 := run_loadVar_row (P := Tryd.prog) V9.drew (w.heap.size + 1 + 1) 24 24 #[.int .i64 qh, .int .u64 ql] (0, 0) _ rq.drew Tryd.underlying24 rfl size_W
  have r2 := run_loadVar_row (P := Tryd.prog) V9.drew (w.heap.size + 1 + 1 + 1) 24 24 #[.int .i64 rh, .int .u64 rl] (0, 0) _ rr.drew Tryd.underlying24 rfl size_W
  exact bodyPost_ret (v := .tuple #[.agg #[.int .i64 qh, .int .u64 ql], .agg #[.int .i64 rh, .int .u64 rl], .int .i64 0]) (by simp [results, Tryd.results32, asAddr, r1, r2]) rfl ⟨rfl, hU.drew.below⟩

set_option maxRecDepth 100000 in
set_option maxHeartbeats 4000000 in
theorem rdiv_tf (w : World) (x y : Int) (hx : Fits x) (hy : Fits y) (h0 : y ≠ 0) (ha : decide (x < 0) = true) (hbn : decide (y < 0) = false) (k l : Nat) (hk : x.natAbs / y.natAbs = k) (hl : x.natAbs % y.natAbs = l) (qf : Fits (-(k : Int))) (rf : Fits (-(l : Int))) (qh ql rh rl : Int) (eq : WV (-(k : Int)) = .agg #[.int .i64 qh, .int .u64 ql]) (er : WV (-(l : Int)) = .agg #[.int .i64 rh, .int .u64 rl]) : Calls Tryd.prog 32 #[WV x, WV y] w fun e w' => e = .returned (.tuple #[.agg #[.int .i64 qh, .int .u64 ql], .agg #[.int .i64 rh, .int .u64 rl], .int .i64 0]) ∧ Below w.heap.size w w' := by
  have O1 := fun w => rof_any w x hx
  have O2 := fun w => rof_any w y hy
  have ZY := fun w => rzero_any w y.natAbs (Nat.lt_of_lt_of_le (fits_small hy) (BP_le (by decide)))
  obtain ⟨xh, xl, e1⟩ : ∃ hi lo : Int, WV x = .agg #[.int .i64 hi, .int .u64 lo] := ⟨_, _, rfl⟩
  obtain ⟨yh, yl, e2⟩ : ∃ hi lo : Int, WV y = .agg #[.int .i64 hi, .int .u64 lo] := ⟨_, _, rfl⟩
  have sx := fits_small hx
  have sy := fits_small hy
  have QD := fun w => rdiv_any w x.natAbs y.natAbs (Nat.lt_of_lt_of_le sx (BP_le (by decide))) (Nat.lt_of_lt_of_le sy (BP_le (by decide))) (by omega)
  rw [hk, hl] at QD
  have bk : k < BP 16 := by rw [← hk]; exact Nat.lt_of_le_of_lt (Nat.div_le_self _ _) (Nat.lt_of_lt_of_le sx (BP_le (by decide)))
  have bl : l < BP 16 := by rw [← hl]; exact Nat.lt_of_le_of_lt (Nat.mod_le _ _) (Nat.lt_of_lt_of_le sx (BP_le (by decide)))
  have ZK := fun w => rzero_any w k bk
  have ZL := fun w => rzero_any w l bl
  have WQ := fun w => rwide_any w (-(k : Int)) (by omega)
  have WR := fun w => rwide_any w (-(l : Int)) (by omega)
  rw [show decide (y.natAbs = 0) = false by simp; omega] at ZY
  rw [resV_fit qf] at WQ
  rw [← neg_big] at WQ
  rw [← neg_big] at WR
  rw [resV_fit rf, er] at WR
  rw [eq] at WQ
  obtain ⟨z, hz⟩ : ∃ z, z = decide (k = 0) := ⟨_, rfl⟩
  obtain ⟨zr, hzr⟩ : ∃ z, z = decide (l = 0) := ⟨_, rfl⟩
  rw [← hz] at ZK
  rw [← hzr] at ZL
  rw [← hz] at WQ
  rw [← hzr] at WR
  have e0 : WV 0 = .agg #[.int .i64 0, .int .u64 0] := by kernel_rfl
  rw [e1] at O1
  rw [e2] at O2
  rw [e1, e2]
  unfold BigZ at O1 O2
  rw [ha] at O1
  rw [hbn] at O2
  unfold BigV at O1 O2 WQ WR
  unfold DV at ZY QD ZK ZL
  obtain ⟨C1, hC1⟩ : ∃ X, X = bigs true x.natAbs := ⟨_, rfl⟩
  obtain ⟨C2, hC2⟩ : ∃ X, X = bigs false y.natAbs := ⟨_, rfl⟩
  obtain ⟨E1, hE1⟩ : ∃ X, X = digs x.natAbs := ⟨_, rfl⟩
  obtain ⟨E2, hE2⟩ : ∃ X, X = digs y.natAbs := ⟨_, rfl⟩
  obtain ⟨E3, hE3⟩ : ∃ X, X = digs k := ⟨_, rfl⟩
  obtain ⟨E4, hE4⟩ : ∃ X, X = digs l := ⟨_, rfl⟩
  obtain ⟨C3, hC3⟩ : ∃ X, X = bigs (!z) k := ⟨_, rfl⟩
  obtain ⟨C4, hC4⟩ : ∃ X, X = bigs (!zr) l := ⟨_, rfl⟩
  rw [← hC1] at O1
  rw [← hC2] at O2
  rw [← hE2] at ZY
  rw [← hE1, ← hE2, ← hE3, ← hE4] at QD
  rw [← hE3] at ZK
  rw [← hE4] at ZL
  rw [← hC3] at WQ
  rw [← hC4] at WR
  have H1 := hid hC1
  have H2 := hid hC2
  have H3 := hid hC3
  have H4 := hid hC4
  have HE1 := hid hE1
  have HE2 := hid hE2
  have HE3 := hid hE3
  have HE4 := hid hE4
  have HO1 := hid O1
  have HO2 := hid O2
  have HZY := hid ZY
  have HQD := hid QD
  have HZK := hid ZK
  have HZL := hid ZL
  have HWQ := hid WQ
  have HWR := hid WR
  clear O1 O2 ZY QD ZK ZL WQ WR e0 e1 e2 hC1 hC2 hC3 hC4 hE1 hE2 hE3 hE4 hx hy h0 ha hbn hk hl bk bl sx sy hz hzr qf rf eq er
  have rx := (((Row.new w 24 #[.int .i64 xh, .int .u64 xl]).alloc (.cells #[.int .i64 yh, .int .u64 yl] 24)).alloc (.cells #[.int .i64 0, .int .u64 0] 24)).alloc (.cells #[.int .i64 0, .int .u64 0] 24)
  have ry := ((Row.new (w.alloc (.cells #[.int .i64 xh, .int .u64 xl] 24)) 24 #[.int .i64 yh, .int .u64 yl]).alloc (.cells #[.int .i64 0, .int .u64 0] 24)).alloc (.cells #[.int .i64 0, .int .u64 0] 24)
  have rq := (Row.new ((w.alloc (.cells #[.int .i64 xh, .int .u64 xl] 24)).alloc (.cells #[.int .i64 yh, .int .u64 yl] 24)) 24 #[.int .i64 0, .int .u64 0]).alloc (.cells #[.int .i64 0, .int .u64 0] 24)
  have rr := Row.new (((w.alloc (.cells #[.int .i64 xh, .int .u64 xl] 24)).alloc (.cells #[.int .i64 yh, .int .u64 yl] 24)).alloc (.cells #[.int .i64 0, .int .u64 0] 24)) 24 #[.int .i64 0, .int .u64 0]
  have hU := ((((Up.refl w).alloc (.cells #[.int .i64 xh, .int .u64 xl] 24)).alloc (.cells #[.int .i64 yh, .int .u64 yl] 24)).alloc (.cells #[.int .i64 0, .int .u64 0] 24)).alloc (.cells #[.int .i64 0, .int .u64 0] 24)
  simp only [alloc_size] at ry rq rr
  go_enter Tryd.func32, Tryd.ntmps32
  go_upto_region 1 with fail
  obtain ⟨V, hV⟩ : ∃ V, V = (((w.alloc (.cells #[.int .i64 xh, .int .u64 xl] 24)).alloc (.cells #[.int .i64 yh, .int .u64 yl] 24)).alloc (.cells #[.int .i64 0, .int .u64 0] 24)).alloc (.cells #[.int .i64 0, .int .u64 0] 24) := ⟨_, rfl⟩
  rw [← hV] at rx ry rq rr hU ⊢
  clear hV
  have cx0 : V.cell? ⟨w.heap.size, 0, none⟩ = some (.int .i64 xh) := by simpa using rx.cell 0
  have cx1 : V.cell? ⟨w.heap.size, 1, none⟩ = some (.int .u64 xl) := by simpa using rx.cell 1
  go_wp2_with fail
  refine Calls.mono (HO1.out _) ?_; rintro e w1 ⟨rfl, hb⟩
  have z1 := hb.size
  have l1 := rr.lt
  clear cx0 cx1
  replace rx := (rx).mod (Mod.of_below hb Nil) (fun hf => hf)
  replace ry := (ry).mod (Mod.of_below hb Nil) (fun hf => hf)
  replace rq := (rq).mod (Mod.of_below hb Nil) (fun hf => hf)
  replace rr := (rr).mod (Mod.of_below hb Nil) (fun hf => hf)
  replace hU := hU.trans hb
  clear hb
  have r7 := (Row.new w1 76 #[.bool false, .int .u64 0, .int .u64 0, .int .u64 0, .int .u64 0, .int .u64 0, .int .u64 0, .int .u64 0, .int .u64 0, .int .u64 0, .int .u64 0, .int .u64 0, .int .u64 0, .int .u64 0, .int .u64 0, .int .u64 0, .int .u64 0]).putRow C1
  replace rx := (rx.alloc (.cells #[.bool false, .int .u64 0, .int .u64 0, .int .u64 0, .int .u64 0, .int .u64 0, .int .u64 0, .int .u64 0, .int .u64 0, .int .u64 0, .int .u64 0, .int .u64 0, .int .u64 0, .int .u64 0, .int .u64 0, .int .u64 0, .int .u64 0] 76)).farRow (g' := w1.heap.size) (by omega) C1
  replace ry := (ry.alloc (.cells #[.bool false, .int .u64 0, .int .u64 0, .int .u64 0, .int .u64 0, .int .u64 0, .int .u64 0, .int .u64 0, .int .u64 0, .int .u64 0, .int .u64 0, .int .u64 0, .int .u64 0, .int .u64 0, .int .u64 0, .int .u64 0, .int .u64 0] 76)).farRow (g' := w1.heap.size) (by omega) C1
  replace rq := (rq.alloc (.cells #[.bool false, .int .u64 0, .int .u64 0, .int .u64 0, .int .u64 0, .int .u64 0, .int .u64 0, .int .u64 0, .int .u64 0, .int .u64 0, .int .u64 0, .int .u64 0, .int .u64 0, .int .u64 0, .int .u64 0, .int .u64 0, .int .u64 0] 76)).farRow (g' := w1.heap.size) (by omega) C1
  replace rr := (rr.alloc (.cells #[.bool false, .int .u64 0, .int .u64 0, .int .u64 0, .int .u64 0, .int .u64 0, .int .u64 0, .int .u64 0, .int .u64 0, .int .u64 0, .int .u64 0, .int .u64 0, .int .u64 0, .int .u64 0, .int .u64 0, .int .u64 0, .int .u64 0] 76)).farRow (g' := w1.heap.size) (by omega) C1
  replace hU := (hU.alloc (.cells #[.bool false, .int .u64 0, .int .u64 0, .int .u64 0, .int .u64 0, .int .u64 0, .int .u64 0, .int .u64 0, .int .u64 0, .int .u64 0, .int .u64 0, .int .u64 0, .int .u64 0, .int .u64 0, .int .u64 0, .int .u64 0, .int .u64 0] 76)).setRow (p := w1.heap.size) (by omega) C1
  go_upto_region 2 with (refine wpList_store_row rfl 76 _ _ rfl (w1.heap.size) C1 rfl rfl 76 #[.bool false, .int .u64 0, .int .u64 0, .int .u64 0, .int .u64 0, .int .u64 0, .int .u64 0, .int .u64 0, .int .u64 0, .int .u64 0, .int .u64 0, .int .u64 0, .int .u64 0, .int .u64 0, .int .u64 0, .int .u64 0, .int .u64 0] (Row.new w1 76 #[.bool false, .int .u64 0, .int .u64 0, .int .u64 0, .int .u64 0, .int .u64 0, .int .u64 0, .int .u64 0, .int .u64 0, .int .u64 0, .int .u64 0, .int .u64 0, .int .u64 0, .int .u64 0, .int .u64 0, .int .u64 0, .int .u64 0]) (size_Bn (sizeC H1)) (by rw [sizeC H1]; rfl) (oneC H1) ?_)
  obtain ⟨V1, hV1⟩ : ∃ V1, V1 = (w1.alloc (.cells #[.bool false, .int .u64 0, .int .u64 0, .int .u64 0, .int .u64 0, .int .u64 0, .int .u64 0, .int .u64 0, .int .u64 0, .int .u64 0, .int .u64 0, .int .u64 0, .int .u64 0, .int .u64 0, .int .u64 0, .int .u64 0, .int .u64 0] 76)).setRow w1.heap.size C1 := ⟨_, rfl⟩
  rw [← hV1] at rx ry rq rr r7 hU ⊢
  have zv1 : V1.heap.size = w1.heap.size + 1 := by rw [hV1, setRow_size, alloc_size]
  clear hV1
  obtain ⟨g7, hg7⟩ : ∃ g, g = w1.heap.size := ⟨_, rfl⟩
  rw [← hg7] at r7 z1 zv1 ⊢
  clear hg7
  have cx0 : V1.cell? ⟨w.heap.size + 1, 0, none⟩ = some (.int .i64 yh) := by simpa using ry.cell 0
  have cx1 : V1.cell? ⟨w.heap.size + 1, 1, none⟩ = some (.int .u64 yl) := by simpa using ry.cell 1
  go_wp2_with fail
  refine Calls.mono (HO2.out _) ?_; rintro e w2 ⟨rfl, hb⟩
  have z2 := hb.size
  clear cx0 cx1
  replace rx := (rx).mod (Mod.of_below hb Nil) (fun hf => hf)
  replace ry := (ry).mod (Mod.of_below hb Nil) (fun hf => hf)
  replace rq := (rq).mod (Mod.of_below hb Nil) (fun hf => hf)
  replace rr := (rr).mod (Mod.of_below hb Nil) (fun hf => hf)
  replace r7 := (r7).mod (Mod.of_below hb Nil) (fun hf => hf)
  replace hU := hU.trans hb
  clear hb
  have r8 := (Row.new w2 76 #[.bool false, .int .u64 0, .int .u64 0, .int .u64 0, .int .u64 0, .int .u64 0, .int .u64 0, .int .u64 0, .int .u64 0, .int .u64 0, .int .u64 0, .int .u64 0, .int .u64 0, .int .u64 0, .int .u64 0, .int .u64 0, .int .u64 0]).putRow C2
  replace rx := (rx.alloc (.cells #[.bool false, .int .u64 0, .int .u64 0, .int .u64 0, .int .u64 0, .int .u64 0, .int .u64 0, .int .u64 0, .int .u64 0, .int .u64 0, .int .u64 0, .int .u64 0, .int .u64 0, .int .u64 0, .int .u64 0, .int .u64 0, .int .u64 0] 76)).farRow (g' := w2.heap.size) (by omega) C2
  replace ry := (ry.alloc (.cells #[.bool false, .int .u64 0, .int .u64 0, .int .u64 0, .int .u64 0, .int .u64 0, .int .u64 0, .int .u64 0, .int .u64 0, .int .u64 0, .int .u64 0, .int .u64 0, .int .u64 0, .int .u64 0, .int .u64 0, .int .u64 0, .int .u64 0] 76)).farRow (g' := w2.heap.size) (by omega) C2
  replace rq := (rq.alloc (.cells #[.bool false, .int .u64 0, .int .u64 0, .int .u64 0, .int .u64 0, .int .u64 0, .int .u64 0, .int .u64 0, .int .u64 0, .int .u64 0, .int .u64 0, .int .u64 0, .int .u64 0, .int .u64 0, .int .u64 0, .int .u64 0, .int .u64 0] 76)).farRow (g' := w2.heap.size) (by omega) C2
  replace rr := (rr.alloc (.cells #[.bool false, .int .u64 0, .int .u64 0, .int .u64 0, .int .u64 0, .int .u64 0, .int .u64 0, .int .u64 0, .int .u64 0, .int .u64 0, .int .u64 0, .int .u64 0, .int .u64 0, .int .u64 0, .int .u64 0, .int .u64 0, .int .u64 0] 76)).farRow (g' := w2.heap.size) (by omega) C2
  replace r7 := (r7.alloc (.cells #[.bool false, .int .u64 0, .int .u64 0, .int .u64 0, .int .u64 0, .int .u64 0, .int .u64 0, .int .u64 0, .int .u64 0, .int .u64 0, .int .u64 0, .int .u64 0, .int .u64 0, .int .u64 0, .int .u64 0, .int .u64 0, .int .u64 0] 76)).farRow (g' := w2.heap.size) (by omega) C2
  replace hU := (hU.alloc (.cells #[.bool false, .int .u64 0, .int .u64 0, .int .u64 0, .int .u64 0, .int .u64 0, .int .u64 0, .int .u64 0, .int .u64 0, .int .u64 0, .int .u64 0, .int .u64 0, .int .u64 0, .int .u64 0, .int .u64 0, .int .u64 0, .int .u64 0] 76)).setRow (p := w2.heap.size) (by omega) C2
  go_upto_region 3 with (refine wpList_store_row rfl 76 _ _ rfl (w2.heap.size) C2 rfl rfl 76 #[.bool false, .int .u64 0, .int .u64 0, .int .u64 0, .int .u64 0, .int .u64 0, .int .u64 0, .int .u64 0, .int .u64 0, .int .u64 0, .int .u64 0, .int .u64 0, .int .u64 0, .int .u64 0, .int .u64 0, .int .u64 0, .int .u64 0] (Row.new w2 76 #[.bool false, .int .u64 0, .int .u64 0, .int .u64 0, .int .u64 0, .int .u64 0, .int .u64 0, .int .u64 0, .int .u64 0, .int .u64 0, .int .u64 0, .int .u64 0, .int .u64 0, .int .u64 0, .int .u64 0, .int .u64 0, .int .u64 0]) (size_Bn (sizeC H2)) (by rw [sizeC H2]; rfl) (oneC H2) ?_)
  obtain ⟨V2, hV2⟩ : ∃ V2, V2 = (w2.alloc (.cells #[.bool false, .int .u64 0, .int .u64 0, .int .u64 0, .int .u64 0, .int .u64 0, .int .u64 0, .int .u64 0, .int .u64 0, .int .u64 0, .int .u64 0, .int .u64 0, .int .u64 0, .int .u64 0, .int .u64 0, .int .u64 0, .int .u64 0] 76)).setRow w2.heap.size C2 := ⟨_, rfl⟩
  rw [← hV2] at rx ry rq rr r7 r8 hU ⊢
  have zv2 : V2.heap.size = w2.heap.size + 1 := by rw [hV2, setRow_size, alloc_size]
  clear hV2
  obtain ⟨g8, hg8⟩ : ∃ g, g = w2.heap.size := ⟨_, rfl⟩
  rw [← hg8] at r8 z2 zv2 ⊢
  clear hg8 rx ry
  go_wp2_with (refine wpList_load_E rfl H2 HE2 (.tmp 15) rfl (g8) rfl 76 r8 ?_)
  refine Calls.mono (HZY.out _) ?_; rintro e w3 ⟨rfl, hb⟩
  have z3 := hb.size
  replace rq := (rq).mod (Mod.of_below hb Nil) (fun hf => hf)
  replace rr := (rr).mod (Mod.of_below hb Nil) (fun hf => hf)
  replace r7 := (r7).mod (Mod.of_below hb Nil) (fun hf => hf)
  replace r8 := (r8).mod (Mod.of_below hb Nil) (fun hf => hf)
  replace hU := hU.trans hb
  clear hb
  go_wp2_with (first | (refine wpList_load_E rfl H1 HE1 (.tmp 21) rfl (g7) rfl 76 r7 ?_) | (refine wpList_load_E rfl H2 HE2 (.tmp 23) rfl (g8) rfl 76 r8 ?_))
  refine Calls.mono (HQD.out _) ?_; rintro e w4 ⟨rfl, hb⟩
  have z4 := hb.size
  replace rq := (rq).mod (Mod.of_below hb Nil) (fun hf => hf)
  replace rr := (rr).mod (Mod.of_below hb Nil) (fun hf => hf)
  replace r7 := (r7).mod (Mod.of_below hb Nil) (fun hf => hf)
  replace r8 := (r8).mod (Mod.of_below hb Nil) (fun hf => hf)
  replace hU := hU.trans hb
  clear hb
  have n9 := (Row.new w4 74 #[.int .u64 0, .int .u64 0, .int .u64 0, .int .u64 0, .int .u64 0, .int .u64 0, .int .u64 0, .int .u64 0, .int .u64 0, .int .u64 0, .int .u64 0, .int .u64 0, .int .u64 0, .int .u64 0, .int .u64 0, .int .u64 0]).alloc (.cells #[.int .u64 0, .int .u64 0, .int .u64 0, .int .u64 0, .int .u64 0, .int .u64 0, .int .u64 0, .int .u64 0, .int .u64 0, .int .u64 0, .int .u64 0, .int .u64 0, .int .u64 0, .int .u64 0, .int .u64 0, .int .u64 0] 74)
  have n10 := Row.new (w4.alloc (.cells #[.int .u64 0, .int .u64 0, .int .u64 0, .int .u64 0, .int .u64 0, .int .u64 0, .int .u64 0, .int .u64 0, .int .u64 0, .int .u64 0, .int .u64 0, .int .u64 0, .int .u64 0, .int .u64 0, .int .u64 0, .int .u64 0] 74)) 74 #[.int .u64 0, .int .u64 0, .int .u64 0, .int .u64 0, .int .u64 0, .int .u64 0, .int .u64 0, .int .u64 0, .int .u64 0, .int .u64 0, .int .u64 0, .int .u64 0, .int .u64 0, .int .u64 0, .int .u64 0, .int .u64 0]
  simp only [alloc_size] at n10
  have r9 := (n9.putRow E3).farRow (g' := w4.heap.size + 1) (by omega) E4
  have m10 := n10.farRow (g' := w4.heap.size) (by omega) E3
  have r10 := m10.putRow E4
  replace rq := ((rq.alloc (.cells #[.int .u64 0, .int .u64 0, .int .u64 0, .int .u64 0, .int .u64 0, .int .u64 0, .int .u64 0, .int .u64 0, .int .u64 0, .int .u64 0, .int .u64 0, .int .u64 0, .int .u64 0, .int .u64 0, .int .u64 0, .int .u64 0] 74)).alloc (.cells #[.int .u64 0, .int .u64 0, .int .u64 0, .int .u64 0, .int .u64 0, .int .u64 0, .int .u64 0, .int .u64 0, .int .u64 0, .int .u64 0, .int .u64 0, .int .u64 0, .int .u64 0, .int .u64 0, .int .u64 0, .int .u64 0] 74)).farRow (g' := w4.heap.size) (by omega) E3 |>.farRow (g' := w4.heap.size + 1) (by omega) E4
  replace rr := ((rr.alloc (.cells #[.int .u64 0, .int .u64 0, .int .u64 0, .int .u64 0, .int .u64 0, .int .u64 0, .int .u64 0, .int .u64 0, .int .u64 0, .int .u64 0, .int .u64 0, .int .u64 0, .int .u64 0, .int .u64 0, .int .u64 0, .int .u64 0] 74)).alloc (.cells #[.int .u64 0, .int .u64 0, .int .u64 0, .int .u64 0, .int .u64 0, .int .u64 0, .int .u64 0, .int .u64 0, .int .u64 0, .int .u64 0, .int .u64 0, .int .u64 0, .int .u64 0, .int .u64 0, .int .u64 0, .int .u64 0] 74)).farRow (g' := w4.heap.size) (by omega) E3 |>.farRow (g' := w4.heap.size + 1) (by omega) E4
  replace r7 := ((r7.alloc (.cells #[.int .u64 0, .int .u64 0, .int .u64 0, .int .u64 0, .int .u64 0, .int .u64 0, .int .u64 0, .int .u64 0, .int .u64 0, .int .u64 0, .int .u64 0, .int .u64 0, .int .u64 0, .int .u64 0, .int .u64 0, .int .u64 0] 74)).alloc (.cells #[.int .u64 0, .int .u64 0, .int .u64 0, .int .u64 0, .int .u64 0, .int .u64 0, .int .u64 0, .int .u64 0, .int .u64 0, .int .u64 0, .int .u64 0, .int .u64 0, .int .u64 0, .int .u64 0, .int .u64 0, .int .u64 0] 74)).farRow (g' := w4.heap.size) (by omega) E3 |>.farRow (g' := w4.heap.size + 1) (by omega) E4
  replace r8 := ((r8.alloc (.cells #[.int .u64 0, .int .u64 0, .int .u64 0, .int .u64 0, .int .u64 0, .int .u64 0, .int .u64 0, .int .u64 0, .int .u64 0, .int .u64 0, .int .u64 0, .int .u64 0, .int .u64 0, .int .u64 0, .int .u64 0, .int .u64 0] 74)).alloc (.cells #[.int .u64 0, .int .u64 0, .int .u64 0, .int .u64 0, .int .u64 0, .int .u64 0, .int .u64 0, .int .u64 0, .int .u64 0, .int .u64 0, .int .u64 0, .int .u64 0, .int .u64 0, .int .u64 0, .int .u64 0, .int .u64 0] 74)).farRow (g' := w4.heap.size) (by omega) E3 |>.farRow (g' := w4.heap.size + 1) (by omega) E4
  replace hU := (((hU.alloc (.cells #[.int .u64 0, .int .u64 0, .int .u64 0, .int .u64 0, .int .u64 0, .int .u64 0, .int .u64 0, .int .u64 0, .int .u64 0, .int .u64 0, .int .u64 0, .int .u64 0, .int .u64 0, .int .u64 0, .int .u64 0, .int .u64 0] 74)).alloc (.cells #[.int .u64 0, .int .u64 0, .int .u64 0, .int .u64 0, .int .u64 0, .int .u64 0, .int .u64 0, .int .u64 0, .int .u64 0, .int .u64 0, .int .u64 0, .int .u64 0, .int .u64 0, .int .u64 0, .int .u64 0, .int .u64 0] 74)).setRow (p := w4.heap.size) (by omega) E3).setRow (p := w4.heap.size + 1) (by omega) E4
  go_upto_region 6 with (first | (refine wpList_store_row rfl 74 (.tmp 9) (.tmp 26) rfl (w4.heap.size) E3 rfl rfl 74 #[.int .u64 0, .int .u64 0, .int .u64 0, .int .u64 0, .int .u64 0, .int .u64 0, .int .u64 0, .int .u64 0, .int .u64 0, .int .u64 0, .int .u64 0, .int .u64 0, .int .u64 0, .int .u64 0, .int .u64 0, .int .u64 0] n9 (size_De HE3) (sizeE HE3).symm (oneE HE3) ?_) | (refine wpList_store_row rfl 74 (.tmp 10) (.tmp 27) rfl (w4.heap.size + 1) E4 rfl rfl 74 #[.int .u64 0, .int .u64 0, .int .u64 0, .int .u64 0, .int .u64 0, .int .u64 0, .int .u64 0, .int .u64 0, .int .u64 0, .int .u64 0, .int .u64 0, .int .u64 0, .int .u64 0, .int .u64 0, .int .u64 0, .int .u64 0] m10 (size_De HE4) (sizeE HE4).symm (oneE HE4) ?_))
  obtain ⟨V4, hV4⟩ : ∃ V4, V4 = (((w4.alloc (.cells #[.int .u64 0, .int .u64 0, .int .u64 0, .int .u64 0, .int .u64 0, .int .u64 0, .int .u64 0, .int .u64 0, .int .u64 0, .int .u64 0, .int .u64 0, .int .u64 0, .int .u64 0, .int .u64 0, .int .u64 0, .int .u64 0] 74)).alloc (.cells #[.int .u64 0, .int .u64 0, .int .u64 0, .int .u64 0, .int .u64 0, .int .u64 0, .int .u64 0, .int .u64 0, .int .u64 0, .int .u64 0, .int .u64 0, .int .u64 0, .int .u64 0, .int .u64 0, .int .u64 0, .int .u64 0] 74)).setRow w4.heap.size E3).setRow (w4.heap.size + 1) E4 := ⟨_, rfl⟩
  rw [← hV4] at rq rr r7 r8 r9 r10 hU ⊢
  clear hV4 n9 n10 m10
  obtain ⟨g9, hg9⟩ : ∃ g, g = w4.heap.size := ⟨_, rfl⟩
  rw [← hg9] at r9 r10 z4 ⊢
  clear hg9
  have MK : ∀ W, Row W (g7) 76 C1 → Row W (g8) 76 C2 → Row W (g9) 74 E3 → Row W (g9 + 1) 74 E4 → (∃ p q : Int, Row W (w.heap.size + 1 + 1) 24 #[.int .i64 p, .int .u64 q]) → Row W (w.heap.size + 1 + 1 + 1) 24 #[.int .i64 0, .int .u64 0] → Up w.heap.size w W → Row W (g7) 76 C1 ∧ Row W (g8) 76 C2 ∧ Row W (g9) 74 E3 ∧ Row W (g9 + 1) 74 E4 ∧ (∃ p q : Int, Row W (w.heap.size + 1 + 1) 24 #[.int .i64 p, .int .u64 q]) ∧ Row W (w.heap.size + 1 + 1 + 1) 24 #[.int .i64 0, .int .u64 0] ∧ Up w.heap.size w W ∧ W.cell? ⟨g7, 0, none⟩ = some (.bool true) ∧ W.cell? ⟨g8, 0, none⟩ = some (.bool false) := fun W k0 k1 k2 k3 k4 k5 k6 => ⟨k0, k1, k2, k3, k4, k5, k6, by rw [k0.cell, zeroC H1], by rw [k1.cell, zeroC H2]⟩
  have MK := hid MK
  refine wp_region_noPanic ?_
  refine wp_region_held_drew (S := fun W => Row W (g7) 76 C1 ∧ Row W (g8) 76 C2 ∧ Row W (g9) 74 E3 ∧ Row W (g9 + 1) 74 E4 ∧ (∃ p q : Int, Row W (w.heap.size + 1 + 1) 24 #[.int .i64 p, .int .u64 q]) ∧ Row W (w.heap.size + 1 + 1 + 1) 24 #[.int .i64 0, .int .u64 0] ∧ Up w.heap.size w W ∧ W.cell? ⟨g7, 0, none⟩ = some (.bool true) ∧ W.cell? ⟨g8, 0, none⟩ = some (.bool false)) (by kernel_rfl) (MK.out _ r7.drew r8.drew r9.drew r10.drew ⟨_, _, rq.drew⟩ rr.drew hU.drew) (fun hHeld => ?_)
  refine wpAnyH_take (i := 0) (oi := { dst := some 29, op := Op.fieldAddr 76 (Operand.tmp 7) 0, type := 0, pos := "ref.go:185", after := #[], guard := none }) (v := ?_) rfl (by kernel_rfl) (by kernel_rfl) (by kernel_rfl) (fun _ _ _ h => h) (Or.inl ⟨by rfl, ?_⟩) hHeld ?_
  rotate_left
  · intro w' hSw; (try dsimp only at hSw); go_simp <;> with_reducible rfl
  try simp only [Act.put, List.setIfInBounds_toArray, List.set_cons_zero, List.set_cons_succ]
  refine wpAnyH_take (i := 1) (oi := { dst := some 30, op := Op.load 4 (Operand.tmp 29), type := 4, pos := "ref.go:185", after := #[{ on := 0, ground := Ground.data }], guard := none }) (v := ?_) rfl (by kernel_rfl) (by kernel_rfl) (by kernel_rfl) (fun _ _ _ h => h) (Or.inl ⟨by rfl, ?_⟩) hHeld ?_
  rotate_left
  · intro w' hSw; (try dsimp only at hSw); go_simp <;> with_reducible rfl
  try simp only [Act.put, List.setIfInBounds_toArray, List.set_cons_zero, List.set_cons_succ]
  refine wpAnyH_take (i := 2) (oi := { dst := some 31, op := Op.fieldAddr 76 (Operand.tmp 8) 0, type := 0, pos := "ref.go:185", after := #[], guard := none }) (v := ?_) rfl (by kernel_rfl) (by kernel_rfl) (by kernel_rfl) (fun _ _ _ h => h) (Or.inl ⟨by rfl, ?_⟩) hHeld ?_
  rotate_left
  · intro w' hSw; (try dsimp only at hSw); go_simp <;> with_reducible rfl
  try simp only [Act.put, List.setIfInBounds_toArray, List.set_cons_zero, List.set_cons_succ]
  refine wpAnyH_take (i := 3) (oi := { dst := some 32, op := Op.load 4 (Operand.tmp 31), type := 4, pos := "ref.go:185", after := #[{ on := 2, ground := Ground.data }], guard := none }) (v := ?_) rfl (by kernel_rfl) (by kernel_rfl) (by kernel_rfl) (fun _ _ _ h => h) (Or.inl ⟨by rfl, ?_⟩) hHeld ?_
  rotate_left
  · intro w' hSw; (try dsimp only at hSw); go_simp <;> with_reducible rfl
  try simp only [Act.put, List.setIfInBounds_toArray, List.set_cons_zero, List.set_cons_succ]
  refine wpAnyH_take (i := 4) (oi := { dst := some 33, op := Op.binOp BinOp.neq 4 (Operand.tmp 30) (Operand.tmp 32) 4, type := 4, pos := "ref.go:185", after := #[{ on := 1, ground := Ground.data }, { on := 3, ground := Ground.data }], guard := none }) (v := ?_) rfl (by kernel_rfl) (by kernel_rfl) (by kernel_rfl) (fun _ _ _ h => h) (Or.inl ⟨by rfl, ?_⟩) hHeld ?_
  rotate_left
  · intro w' hSw; (try dsimp only at hSw); go_simp <;> with_reducible rfl
  try simp only [Act.put, List.setIfInBounds_toArray, List.set_cons_zero, List.set_cons_succ]
  refine wpAnyH_take (i := 5) (oi := { dst := some 34, op := Op.move (Operand.tmp 33), type := 4, pos := "ref.go:185", after := #[{ on := 4, ground := Ground.data }], guard := none }) (v := ?_) rfl (by kernel_rfl) (by kernel_rfl) (by kernel_rfl) (fun _ _ _ h => h) (Or.inl ⟨by rfl, ?_⟩) hHeld ?_
  rotate_left
  · intro w' hSw; (try dsimp only at hSw); go_simp <;> with_reducible rfl
  try simp only [Act.put, List.setIfInBounds_toArray, List.set_cons_zero, List.set_cons_succ]
  refine wpAnyH_take (i := 6) (oi := { dst := some 35, op := Op.load 74 (Operand.tmp 9), type := 74, pos := "ref.go:185", after := #[{ on := 5, ground := Ground.guard }], guard := some (5, true) }) (v := .agg E3) rfl (by kernel_rfl) (by kernel_rfl) (by kernel_rfl) (fun _ _ _ h => h) (Or.inl ⟨by rfl, fun W hW => exec_load_row 74 _ rfl (g9) rfl 74 E3 _ Tryd.underlying74 rfl (size_De HE3) W hW.2.2.1⟩) hHeld ?_
  try simp only [Act.put, List.setIfInBounds_toArray, List.set_cons_zero, List.set_cons_succ]
  refine wpAnyH_take (i := 10) (oi := { dst := some 39, op := Op.load 74 (Operand.tmp 9), type := 74, pos := "ref.go:185", after := #[], guard := none }) (v := .agg E3) rfl (by kernel_rfl) (by kernel_rfl) (by kernel_rfl) (fun _ _ _ h => h) (Or.inl ⟨by rfl, fun W hW => exec_load_row 74 _ rfl (g9) rfl 74 E3 _ Tryd.underlying74 rfl (size_De HE3) W hW.2.2.1⟩) hHeld ?_
  try simp only [Act.put, List.setIfInBounds_toArray, List.set_cons_zero, List.set_cons_succ]
  refine wpAnyH_ready (rs := [7]) (by kernel_rfl) (by simp) ?_
  refine AllReadyH.cons (o := { dst := some 36, op := Op.call { callee := Callee.value (Operand.func 64), args := #[Operand.tmp 35], argTypes := #[74] }, type := 4, pos := "ref.go:185", after := #[{ on := 6, ground := Ground.data }, { on := 5, ground := Ground.chain }, { on := 5, ground := Ground.guard }], guard := some (5, true) }) rfl (fun K hK => ?_) AllReadyH.nil
  go_simp
  refine Calls.mono (HZK.out _) ?_; rintro e w5 ⟨rfl, hb⟩
  refine hK.out _ _ (MK.out _ ((hHeld.1).mod (Mod.of_below hb Nil) (fun hf => hf)) ((hHeld.2.1).mod (Mod.of_below hb Nil) (fun hf => hf)) ((hHeld.2.2.1).mod (Mod.of_below hb Nil) (fun hf => hf)) ((hHeld.2.2.2.1).mod (Mod.of_below hb Nil) (fun hf => hf)) ((by obtain ⟨p, q, h1⟩ := hHeld.2.2.2.2.1; exact ⟨p, q, (h1).mod (Mod.of_below hb Nil) (fun hf => hf)⟩)) ((hHeld.2.2.2.2.2.1).mod (Mod.of_below hb Nil) (fun hf => hf)) ((hHeld.2.2.2.2.2.2.1).trans hb)) (fun hHeld => ?_)
  clear hK K
  try simp only [Act.put, List.setIfInBounds_toArray, List.set_cons_zero, List.set_cons_succ]
  refine wpAnyH_take (i := 8) (oi := { dst := some 37, op := Op.unOp UnOp.not 4 (Operand.tmp 36), type := 4, pos := "ref.go:185", after := #[{ on := 7, ground := Ground.data }, { on := 5, ground := Ground.guard }], guard := some (5, true) }) (v := ?_) rfl (by kernel_rfl) (by kernel_rfl) (by kernel_rfl) (fun _ _ _ h => h) (Or.inl ⟨by rfl, ?_⟩) hHeld ?_
  rotate_left
  · intro w' hSw; (try dsimp only at hSw); go_simp <;> with_reducible rfl
  try simp only [Act.put, List.setIfInBounds_toArray, List.set_cons_zero, List.set_cons_succ]
  refine wpAnyH_take (i := 9) (oi := { dst := some 38, op := Op.pick (Operand.tmp 34) (Operand.tmp 37) (Operand.const (Value.bool false)), type := 4, pos := "ref.go:185", after := #[{ on := 5, ground := Ground.data }, { on := 8, ground := Ground.data }], guard := none }) (v := ?_) rfl (by kernel_rfl) (by kernel_rfl) (by kernel_rfl) (fun _ _ _ h => h) (Or.inl ⟨by rfl, ?_⟩) hHeld ?_
  rotate_left
  · intro w' hSw; (try dsimp only at hSw); go_simp <;> with_reducible rfl
  try simp only [Act.put, List.setIfInBounds_toArray, List.set_cons_zero, List.set_cons_succ]
  refine wpAnyH_take (i := 11) (oi := { dst := some 40, op := Op.build 76 #[(0, Operand.tmp 38), (1, Operand.tmp 39)], type := 76, pos := "ref.go:185", after := #[{ on := 9, ground := Ground.data }, { on := 10, ground := Ground.data }], guard := none }) (v := .agg C3) rfl (by kernel_rfl) (by kernel_rfl) (by kernel_rfl) (fun _ _ _ h => h) (Or.inl ⟨by rfl, fun W hW => exec_build_C H3 HE3 _ _ rfl rfl rfl⟩) hHeld ?_
  try simp only [Act.put, List.setIfInBounds_toArray, List.set_cons_zero, List.set_cons_succ]
  refine wpAnyH_ready (rs := [12]) (by kernel_rfl) (by simp) ?_
  refine AllReadyH.cons (o := { dst := some 41, op := Op.call { callee := Callee.value (Operand.func 54), args := #[Operand.tmp 40], argTypes := #[76] }, type := 26, pos := "ref.go:185", after := #[{ on := 11, ground := Ground.data }, { on := 7, ground := Ground.chain }], guard := none }) rfl (fun K hK => ?_) AllReadyH.nil
  go_simp
  refine Calls.mono (HWQ.out _) ?_; rintro e w6 ⟨rfl, hb⟩
  refine hK.out _ _ (MK.out _ ((hHeld.1).mod (Mod.of_below hb Nil) (fun hf => hf)) ((hHeld.2.1).mod (Mod.of_below hb Nil) (fun hf => hf)) ((hHeld.2.2.1).mod (Mod.of_below hb Nil) (fun hf => hf)) ((hHeld.2.2.2.1).mod (Mod.of_below hb Nil) (fun hf => hf)) ((by obtain ⟨p, q, h1⟩ := hHeld.2.2.2.2.1; exact ⟨p, q, (h1).mod (Mod.of_below hb Nil) (fun hf => hf)⟩)) ((hHeld.2.2.2.2.2.1).mod (Mod.of_below hb Nil) (fun hf => hf)) ((hHeld.2.2.2.2.2.2.1).trans hb)) (fun hHeld => ?_)
  clear hK K
  try simp only [Act.put, List.setIfInBounds_toArray, List.set_cons_zero, List.set_cons_succ]
  refine wpAnyH_take (i := 13) (oi := { dst := some 28, op := Op.move (Operand.tmp 41), type := 26, pos := "ref.go:185", after := #[{ on := 12, ground := Ground.data }], guard := none }) (v := ?_) rfl (by kernel_rfl) (by kernel_rfl) (by kernel_rfl) (fun _ _ _ h => h) (Or.inl ⟨by rfl, ?_⟩) hHeld ?_
  rotate_left
  · intro w' hSw; (try dsimp only at hSw); go_simp <;> with_reducible rfl
  try simp only [Act.put, List.setIfInBounds_toArray, List.set_cons_zero, List.set_cons_succ]
  refine wpAnyH_take (i := 14) (oi := { dst := some 42, op := Op.extract (Operand.tmp 28) 0, type := 24, pos := "ref.go:185", after := #[{ on := 13, ground := Ground.data }], guard := none }) (v := ?_) rfl (by kernel_rfl) (by kernel_rfl) (by kernel_rfl) (fun _ _ _ h => h) (Or.inl ⟨by rfl, ?_⟩) hHeld ?_
  rotate_left
  · intro w' hSw; (try dsimp only at hSw); go_simp <;> with_reducible rfl
  try simp only [Act.put, List.setIfInBounds_toArray, List.set_cons_zero, List.set_cons_succ]
  refine wpAnyH_take (i := 15) (oi := { dst := some 43, op := Op.extract (Operand.tmp 28) 1, type := 25, pos := "ref.go:185", after := #[{ on := 13, ground := Ground.data }, { on := 16, ground := Ground.gcOnly Departure.lateStores }], guard := none }) (v := ?_) rfl (by kernel_rfl) (by kernel_rfl) (by kernel_rfl) (fun _ _ _ h => h) (Or.inl ⟨by rfl, ?_⟩) hHeld ?_
  rotate_left
  · intro w' hSw; (try dsimp only at hSw); go_simp <;> with_reducible rfl
  try simp only [Act.put, List.setIfInBounds_toArray, List.set_cons_zero, List.set_cons_succ]
  obtain ⟨p, q, hq⟩ := hHeld.2.2.2.2.1
  refine wpAnyH_ready (rs := [16]) (by kernel_rfl) (by simp) ?_
  refine AllReadyH.cons (o := { dst := none, op := Op.store 24 (Operand.tmp 4) (Operand.tmp 42), type := 0, pos := "ref.go:185", after := #[{ on := 14, ground := Ground.data }, { on := 12, ground := Ground.chain }, { on := 0, ground := Ground.phase }, { on := 1, ground := Ground.phase }, { on := 2, ground := Ground.phase }, { on := 3, ground := Ground.phase }, { on := 4, ground := Ground.phase }, { on := 5, ground := Ground.phase }, { on := 6, ground := Ground.phase }, { on := 7, ground := Ground.phase }, { on := 8, ground := Ground.phase }, { on := 9, ground := Ground.phase }, { on := 10, ground := Ground.phase }, { on := 11, ground := Ground.phase }, { on := 12, ground := Ground.phase }, { on := 13, ground := Ground.phase }, { on := 14, ground := Ground.phase }, { on := 15, ground := Ground.textOnly Departure.lateStores }], guard := none }) rfl (fun K hK => ?_) AllReadyH.nil
  refine (if_pos (by rfl)).mpr ?_
  refine wp_store_row 24 _ _ rfl (w.heap.size + 1 + 1) #[.int .i64 qh, .int .u64 ql] rfl rfl 24 #[.int .i64 p, .int .u64 q] hq size_W rfl (by simp [Value.oneCell']) ?_
  replace hq := hq.putRow #[.int .i64 qh, .int .u64 ql]
  refine hK.out _ _ (MK.out _ ((hHeld.1).farRow (by omega) #[.int .i64 qh, .int .u64 ql]) ((hHeld.2.1).farRow (by omega) #[.int .i64 qh, .int .u64 ql]) ((hHeld.2.2.1).farRow (by omega) #[.int .i64 qh, .int .u64 ql]) ((hHeld.2.2.2.1).farRow (by omega) #[.int .i64 qh, .int .u64 ql]) (⟨_, _, hq⟩) ((hHeld.2.2.2.2.2.1).farRow (by omega) #[.int .i64 qh, .int .u64 ql]) ((hHeld.2.2.2.2.2.2.1).setRow (by omega) #[.int .i64 qh, .int .u64 ql])) (fun hHeld => ?_)
  clear hK K
  try simp only [Act.put, List.setIfInBounds_toArray, List.set_cons_zero, List.set_cons_succ]
  refine wpAnyH_take (i := 17) (oi := { dst := some 6, op := Op.assign (Operand.tmp 43), type := 25, pos := "ref.go:185", after := #[{ on := 15, ground := Ground.data }, { on := 16, ground := Ground.chain }, { on := 0, ground := Ground.phase }, { on := 1, ground := Ground.phase }, { on := 2, ground := Ground.phase }, { on := 3, ground := Ground.phase }, { on := 4, ground := Ground.phase }, { on := 5, ground := Ground.phase }, { on := 6, ground := Ground.phase }, { on := 7, ground := Ground.phase }, { on := 8, ground := Ground.phase }, { on := 9, ground := Ground.phase }, { on := 10, ground := Ground.phase }, { on := 11, ground := Ground.phase }, { on := 12, ground := Ground.phase }, { on := 13, ground := Ground.phase }, { on := 14, ground := Ground.phase }, { on := 15, ground := Ground.phase }, { on := 16, ground := Ground.phase }], guard := none }) (v := ?_) rfl (by kernel_rfl) (by kernel_rfl) (by kernel_rfl) (fun _ _ _ h => h) (Or.inl ⟨by rfl, ?_⟩) hHeld ?_
  rotate_left
  · intro w' hSw; (try dsimp only at hSw); go_simp <;> with_reducible rfl
  try simp only [Act.put, List.setIfInBounds_toArray, List.set_cons_zero, List.set_cons_succ]
  refine wpAnyH_done (by kernel_rfl) ?_ _
  refine NoPanic.normal ?_
  replace r7 := hHeld.1
  replace r10 := hHeld.2.2.2.1
  replace rr := hHeld.2.2.2.2.2.1
  replace hU := hHeld.2.2.2.2.2.2.1
  clear rq r8 r9 MK hHeld
  have rq := hq
  clear hq
  go_upto_region 9 with fail
  have MK : ∀ W, Row W (g7) 76 C1 → Row W (g9 + 1) 74 E4 → Row W (w.heap.size + 1 + 1) 24 #[.int .i64 qh, .int .u64 ql] → (∃ p q : Int, Row W (w.heap.size + 1 + 1 + 1) 24 #[.int .i64 p, .int .u64 q]) → Up w.heap.size w W → Row W (g7) 76 C1 ∧ Row W (g9 + 1) 74 E4 ∧ Row W (w.heap.size + 1 + 1) 24 #[.int .i64 qh, .int .u64 ql] ∧ (∃ p q : Int, Row W (w.heap.size + 1 + 1 + 1) 24 #[.int .i64 p, .int .u64 q]) ∧ Up w.heap.size w W ∧ W.cell? ⟨g7, 0, none⟩ = some (.bool true) := fun W k0 k1 k2 k3 k4 => ⟨k0, k1, k2, k3, k4, by rw [k0.cell, zeroC H1]⟩
  have MK := hid MK
  refine wp_region_noPanic ?_
  refine wp_region_held_drew (S := fun W => Row W (g7) 76 C1 ∧ Row W (g9 + 1) 74 E4 ∧ Row W (w.heap.size + 1 + 1) 24 #[.int .i64 qh, .int .u64 ql] ∧ (∃ p q : Int, Row W (w.heap.size + 1 + 1 + 1) 24 #[.int .i64 p, .int .u64 q]) ∧ Up w.heap.size w W ∧ W.cell? ⟨g7, 0, none⟩ = some (.bool true)) (by kernel_rfl) (MK.out _ r7.drew r10.drew rq.drew ⟨_, _, rr.drew⟩ hU.drew) (fun hHeld => ?_)
  refine wpAnyH_take (i := 0) (oi := { dst := some 50, op := Op.fieldAddr 76 (Operand.tmp 7) 0, type := 0, pos := "ref.go:189", after := #[], guard := none }) (v := ?_) rfl (by kernel_rfl) (by kernel_rfl) (by kernel_rfl) (fun _ _ _ h => h) (Or.inl ⟨by rfl, ?_⟩) hHeld ?_
  rotate_left
  · intro w' hSw; (try dsimp only at hSw); go_simp <;> with_reducible rfl
  try simp only [Act.put, List.setIfInBounds_toArray, List.set_cons_zero, List.set_cons_succ]
  refine wpAnyH_take (i := 1) (oi := { dst := some 51, op := Op.load 4 (Operand.tmp 50), type := 4, pos := "ref.go:189", after := #[{ on := 0, ground := Ground.data }], guard := none }) (v := ?_) rfl (by kernel_rfl) (by kernel_rfl) (by kernel_rfl) (fun _ _ _ h => h) (Or.inl ⟨by rfl, ?_⟩) hHeld ?_
  rotate_left
  · intro w' hSw; (try dsimp only at hSw); go_simp <;> with_reducible rfl
  try simp only [Act.put, List.setIfInBounds_toArray, List.set_cons_zero, List.set_cons_succ]
  refine wpAnyH_take (i := 2) (oi := { dst := some 52, op := Op.move (Operand.tmp 51), type := 4, pos := "ref.go:189", after := #[{ on := 1, ground := Ground.data }], guard := none }) (v := ?_) rfl (by kernel_rfl) (by kernel_rfl) (by kernel_rfl) (fun _ _ _ h => h) (Or.inl ⟨by rfl, ?_⟩) hHeld ?_
  rotate_left
  · intro w' hSw; (try dsimp only at hSw); go_simp <;> with_reducible rfl
  try simp only [Act.put, List.setIfInBounds_toArray, List.set_cons_zero, List.set_cons_succ]
  refine wpAnyH_take (i := 3) (oi := { dst := some 53, op := Op.load 74 (Operand.tmp 10), type := 74, pos := "ref.go:189", after := #[{ on := 2, ground := Ground.guard }], guard := some (2, true) }) (v := .agg E4) rfl (by kernel_rfl) (by kernel_rfl) (by kernel_rfl) (fun _ _ _ h => h) (Or.inl ⟨by rfl, fun W hW => exec_load_row 74 _ rfl (g9 + 1) rfl 74 E4 _ Tryd.underlying74 rfl (size_De HE4) W hW.2.1⟩) hHeld ?_
  try simp only [Act.put, List.setIfInBounds_toArray, List.set_cons_zero, List.set_cons_succ]
  refine wpAnyH_take (i := 7) (oi := { dst := some 57, op := Op.load 74 (Operand.tmp 10), type := 74, pos := "ref.go:189", after := #[], guard := none }) (v := .agg E4) rfl (by kernel_rfl) (by kernel_rfl) (by kernel_rfl) (fun _ _ _ h => h) (Or.inl ⟨by rfl, fun W hW => exec_load_row 74 _ rfl (g9 + 1) rfl 74 E4 _ Tryd.underlying74 rfl (size_De HE4) W hW.2.1⟩) hHeld ?_
  try simp only [Act.put, List.setIfInBounds_toArray, List.set_cons_zero, List.set_cons_succ]
  refine wpAnyH_ready (rs := [4]) (by kernel_rfl) (by simp) ?_
  refine AllReadyH.cons (o := { dst := some 54, op := Op.call { callee := Callee.value (Operand.func 64), args := #[Operand.tmp 53], argTypes := #[74] }, type := 4, pos := "ref.go:189", after := #[{ on := 3, ground := Ground.data }, { on := 2, ground := Ground.chain }, { on := 2, ground := Ground.guard }], guard := some (2, true) }) rfl (fun K hK => ?_) AllReadyH.nil
  go_simp
  refine Calls.mono (HZL.out _) ?_; rintro e w7 ⟨rfl, hb⟩
  refine hK.out _ _ (MK.out _ ((hHeld.1).mod (Mod.of_below hb Nil) (fun hf => hf)) ((hHeld.2.1).mod (Mod.of_below hb Nil) (fun hf => hf)) ((hHeld.2.2.1).mod (Mod.of_below hb Nil) (fun hf => hf)) ((by obtain ⟨p, q, h1⟩ := hHeld.2.2.2.1; exact ⟨p, q, (h1).mod (Mod.of_below hb Nil) (fun hf => hf)⟩)) ((hHeld.2.2.2.2.1).trans hb)) (fun hHeld => ?_)
  clear hK K
  try simp only [Act.put, List.setIfInBounds_toArray, List.set_cons_zero, List.set_cons_succ]
  refine wpAnyH_take (i := 5) (oi := { dst := some 55, op := Op.unOp UnOp.not 4 (Operand.tmp 54), type := 4, pos := "ref.go:189", after := #[{ on := 4, ground := Ground.data }, { on := 2, ground := Ground.guard }], guard := some (2, true) }) (v := ?_) rfl (by kernel_rfl) (by kernel_rfl) (by kernel_rfl) (fun _ _ _ h => h) (Or.inl ⟨by rfl, ?_⟩) hHeld ?_
  rotate_left
  · intro w' hSw; (try dsimp only at hSw); go_simp <;> with_reducible rfl
  try simp only [Act.put, List.setIfInBounds_toArray, List.set_cons_zero, List.set_cons_succ]
  refine wpAnyH_take (i := 6) (oi := { dst := some 56, op := Op.pick (Operand.tmp 52) (Operand.tmp 55) (Operand.const (Value.bool false)), type := 4, pos := "ref.go:189", after := #[{ on := 2, ground := Ground.data }, { on := 5, ground := Ground.data }], guard := none }) (v := ?_) rfl (by kernel_rfl) (by kernel_rfl) (by kernel_rfl) (fun _ _ _ h => h) (Or.inl ⟨by rfl, ?_⟩) hHeld ?_
  rotate_left
  · intro w' hSw; (try dsimp only at hSw); go_simp <;> with_reducible rfl
  try simp only [Act.put, List.setIfInBounds_toArray, List.set_cons_zero, List.set_cons_succ]
  refine wpAnyH_take (i := 8) (oi := { dst := some 58, op := Op.build 76 #[(0, Operand.tmp 56), (1, Operand.tmp 57)], type := 76, pos := "ref.go:189", after := #[{ on := 6, ground := Ground.data }, { on := 7, ground := Ground.data }], guard := none }) (v := .agg C4) rfl (by kernel_rfl) (by kernel_rfl) (by kernel_rfl) (fun _ _ _ h => h) (Or.inl ⟨by rfl, fun W hW => exec_build_C H4 HE4 _ _ rfl rfl rfl⟩) hHeld ?_
  try simp only [Act.put, List.setIfInBounds_toArray, List.set_cons_zero, List.set_cons_succ]
  refine wpAnyH_ready (rs := [9]) (by kernel_rfl) (by simp) ?_
  refine AllReadyH.cons (o := { dst := some 59, op := Op.call { callee := Callee.value (Operand.func 54), args := #[Operand.tmp 58], argTypes := #[76] }, type := 26, pos := "ref.go:189", after := #[{ on := 8, ground := Ground.data }, { on := 4, ground := Ground.chain }], guard := none }) rfl (fun K hK => ?_) AllReadyH.nil
  go_simp
  refine Calls.mono (HWR.out _) ?_; rintro e w8 ⟨rfl, hb⟩
  refine hK.out _ _ (MK.out _ ((hHeld.1).mod (Mod.of_below hb Nil) (fun hf => hf)) ((hHeld.2.1).mod (Mod.of_below hb Nil) (fun hf => hf)) ((hHeld.2.2.1).mod (Mod.of_below hb Nil) (fun hf => hf)) ((by obtain ⟨p, q, h1⟩ := hHeld.2.2.2.1; exact ⟨p, q, (h1).mod (Mod.of_below hb Nil) (fun hf => hf)⟩)) ((hHeld.2.2.2.2.1).trans hb)) (fun hHeld => ?_)
  clear hK K
  try simp only [Act.put, List.setIfInBounds_toArray, List.set_cons_zero, List.set_cons_succ]
  refine wpAnyH_take (i := 10) (oi := { dst := some 49, op := Op.move (Operand.tmp 59), type := 26, pos := "ref.go:189", after := #[{ on := 9, ground := Ground.data }], guard := none }) (v := ?_) rfl (by kernel_rfl) (by kernel_rfl) (by kernel_rfl) (fun _ _ _ h => h) (Or.inl ⟨by rfl, ?_⟩) hHeld ?_
  rotate_left
  · intro w' hSw; (try dsimp only at hSw); go_simp <;> with_reducible rfl
  try simp only [Act.put, List.setIfInBounds_toArray, List.set_cons_zero, List.set_cons_succ]
  refine wpAnyH_take (i := 11) (oi := { dst := some 60, op := Op.extract (Operand.tmp 49) 0, type := 24, pos := "ref.go:189", after := #[{ on := 10, ground := Ground.data }], guard := none }) (v := ?_) rfl (by kernel_rfl) (by kernel_rfl) (by kernel_rfl) (fun _ _ _ h => h) (Or.inl ⟨by rfl, ?_⟩) hHeld ?_
  rotate_left
  · intro w' hSw; (try dsimp only at hSw); go_simp <;> with_reducible rfl
  try simp only [Act.put, List.setIfInBounds_toArray, List.set_cons_zero, List.set_cons_succ]
  refine wpAnyH_take (i := 12) (oi := { dst := some 61, op := Op.extract (Operand.tmp 49) 1, type := 25, pos := "ref.go:189", after := #[{ on := 10, ground := Ground.data }, { on := 13, ground := Ground.gcOnly Departure.lateStores }], guard := none }) (v := ?_) rfl (by kernel_rfl) (by kernel_rfl) (by kernel_rfl) (fun _ _ _ h => h) (Or.inl ⟨by rfl, ?_⟩) hHeld ?_
  rotate_left
  · intro w' hSw; (try dsimp only at hSw); go_simp <;> with_reducible rfl
  try simp only [Act.put, List.setIfInBounds_toArray, List.set_cons_zero, List.set_cons_succ]
  obtain ⟨p, q, hq⟩ := hHeld.2.2.2.1
  refine wpAnyH_ready (rs := [13]) (by kernel_rfl) (by simp) ?_
  refine AllReadyH.cons (o := { dst := none, op := Op.store 24 (Operand.tmp 5) (Operand.tmp 60), type := 0, pos := "ref.go:189", after := #[{ on := 11, ground := Ground.data }, { on := 9, ground := Ground.chain }, { on := 0, ground := Ground.phase }, { on := 1, ground := Ground.phase }, { on := 2, ground := Ground.phase }, { on := 3, ground := Ground.phase }, { on := 4, ground := Ground.phase }, { on := 5, ground := Ground.phase }, { on := 6, ground := Ground.phase }, { on := 7, ground := Ground.phase }, { on := 8, ground := Ground.phase }, { on := 9, ground := Ground.phase }, { on := 10, ground := Ground.phase }, { on := 11, ground := Ground.phase }, { on := 12, ground := Ground.textOnly Departure.lateStores }], guard := none }) rfl (fun K hK => ?_) AllReadyH.nil
  refine (if_pos (by rfl)).mpr ?_
  refine wp_store_row 24 _ _ rfl (w.heap.size + 1 + 1 + 1) #[.int .i64 rh, .int .u64 rl] rfl rfl 24 #[.int .i64 p, .int .u64 q] hq size_W rfl (by simp [Value.oneCell']) ?_
  replace hq := hq.putRow #[.int .i64 rh, .int .u64 rl]
  refine hK.out _ _ (MK.out _ ((hHeld.1).farRow (by omega) #[.int .i64 rh, .int .u64 rl]) ((hHeld.2.1).farRow (by omega) #[.int .i64 rh, .int .u64 rl]) ((hHeld.2.2.1).farRow (by omega) #[.int .i64 rh, .int .u64 rl]) (⟨_, _, hq⟩) ((hHeld.2.2.2.2.1).setRow (by omega) #[.int .i64 rh, .int .u64 rl])) (fun hHeld => ?_)
  clear hK K
  try simp only [Act.put, List.setIfInBounds_toArray, List.set_cons_zero, List.set_cons_succ]
  refine wpAnyH_done (by kernel_rfl) ?_ _
  refine NoPanic.normal ?_
  replace rq := hHeld.2.2.1
  replace hU := hHeld.2.2.2.2.1
  clear rr r7 r10 MK hHeld
  have rr := hq
  clear hq
  go_upto_region 10 with fail
  obtain ⟨V9, hV9⟩ : ∃ V9, V9 = w8.setRow (w.heap.size + 1 + 1 + 1) #[.int .i64 rh, .int .u64 rl] := ⟨_, rfl⟩
  rw [← hV9] at rq rr hU ⊢
  clear hV9
  refine wp_region_noPanic ?_
  refine wp_region_held_drew (S := fun W => W = V9.drew) (by kernel_rfl) (rfl) (fun hHeld => ?_)
  refine wpAnyH_take (i := 0) (oi := { dst := some 62, op := Op.load 24 (Operand.tmp 4), type := 24, pos := "ref.go:190", after := #[], guard := none }) (v := .agg #[.int .i64 qh, .int .u64 ql]) rfl (by kernel_rfl) (by kernel_rfl) (by kernel_rfl) (fun _ _ _ h => h) (Or.inl ⟨by rfl, fun W hW => exec_load_row 24 _ rfl (w.heap.size + 1 + 1) rfl 24 #[.int .i64 qh, .int .u64 ql] _ Tryd.underlying24 rfl size_W W (by rw [hW]; exact rq.drew)⟩) hHeld ?_
  try simp only [Act.put, List.setIfInBounds_toArray, List.set_cons_zero, List.set_cons_succ]
  refine wpAnyH_take (i := 1) (oi := { dst := some 63, op := Op.load 24 (Operand.tmp 5), type := 24, pos := "ref.go:190", after := #[{ on := 2, ground := Ground.gcOnly Departure.lateStores }], guard := none }) (v := .agg #[.int .i64 rh, .int .u64 rl]) rfl (by kernel_rfl) (by kernel_rfl) (by kernel_rfl) (fun _ _ _ h => h) (Or.inl ⟨by rfl, fun W hW => exec_load_row 24 _ rfl (w.heap.size + 1 + 1 + 1) rfl 24 #[.int .i64 rh, .int .u64 rl] _ Tryd.underlying24 rfl size_W W (by rw [hW]; exact rr.drew)⟩) hHeld ?_
  try simp only [Act.put, List.setIfInBounds_toArray, List.set_cons_zero, List.set_cons_succ]
  refine wpAnyH_ready (rs := [2]) (by kernel_rfl) (by simp) ?_
  refine AllReadyH.cons (o := { dst := none, op := Op.store 24 (Operand.tmp 4) (Operand.tmp 62), type := 0, pos := "ref.go:190", after := #[{ on := 0, ground := Ground.data }, { on := 0, ground := Ground.phase }, { on := 1, ground := Ground.textOnly Departure.lateStores }], guard := none }) rfl (fun K hK => ?_) AllReadyH.nil
  refine (if_pos (by rfl)).mpr ?_
  refine wp_store_row 24 _ _ rfl (w.heap.size + 1 + 1) #[.int .i64 qh, .int .u64 ql] rfl rfl 24 #[.int .i64 qh, .int .u64 ql] rq.drew size_W rfl (by simp [Value.oneCell']) ?_
  rw [Row.setRow_same rq.drew]
  refine hK.out _ _ (rfl) (fun hHeld => ?_)
  clear hK K
  try simp only [Act.put, List.setIfInBounds_toArray, List.set_cons_zero, List.set_cons_succ]
  refine wpAnyH_ready (rs := [3]) (by kernel_rfl) (by simp) ?_
  refine AllReadyH.cons (o := { dst := none, op := Op.store 24 (Operand.tmp 5) (Operand.tmp 63), type := 0, pos := "ref.go:190", after := #[{ on := 1, ground := Ground.data }, { on := 2, ground := Ground.chain }, { on := 0, ground := Ground.phase }, { on := 1, ground := Ground.phase }, { on := 2, ground := Ground.phase }], guard := none }) rfl (fun K hK => ?_) AllReadyH.nil
  refine (if_pos (by rfl)).mpr ?_
  refine wp_store_row 24 _ _ rfl (w.heap.size + 1 + 1 + 1) #[.int .i64 rh, .int .u64 rl] rfl rfl 24 #[.int .i64 rh, .int .u64 rl] rr.drew size_W rfl (by simp [Value.oneCell']) ?_
  rw [Row.setRow_same rr.drew]
  refine hK.out _ _ (rfl) (fun hHeld => ?_)
  clear hK K
  try simp only [Act.put, List.setIfInBounds_toArray, List.set_cons_zero, List.set_cons_succ]
  refine wpAnyH_take (i := 4) (oi := { dst := some 6, op := Op.assign (Operand.const (Value.int IntKind.i64 0)), type := 25, pos := "ref.go:190", after := #[{ on := 3, ground := Ground.chain }, { on := 0, ground := Ground.phase }, { on := 1, ground := Ground.phase }, { on := 2, ground := Ground.phase }, { on := 3, ground := Ground.phase }], guard := none }) (v := ?_) rfl (by kernel_rfl) (by kernel_rfl) (by kernel_rfl) (fun _ _ _ h => h) (Or.inl ⟨by rfl, ?_⟩) hHeld ?_
  rotate_left
  · intro w' hSw; (try dsimp only at hSw); go_simp <;> with_reducible rfl
  try simp only [Act.put, List.setIfInBounds_toArray, List.set_cons_zero, List.set_cons_succ]
  refine wpAnyH_done (by kernel_rfl) ?_ _
  refine NoPanic.normal ?_
  go_wp2_with fail
  have r1 := run_loadVar_row (P := Tryd.prog) V9.drew (w.heap.size + 1 + 1) 24 24 #[.int .i64 qh, .int .u64 ql] (0, 0) _ rq.drew Tryd.underlying24 rfl size_W
  have r2 := run_loadVar_row (P := Tryd.prog) V9.drew (w.heap.size + 1 + 1 + 1) 24 24 #[.int .i64 rh, .int .u64 rl] (0, 0) _ rr.drew Tryd.underlying24 rfl size_W
  exact bodyPost_ret (v := .tuple #[.agg #[.int .i64 qh, .int .u64 ql], .agg #[.int .i64 rh, .int .u64 rl], .int .i64 0]) (by simp [results, Tryd.results32, asAddr, r1, r2]) rfl ⟨rfl, hU.drew.below⟩

set_option maxRecDepth 100000 in
set_option maxHeartbeats 4000000 in
theorem rdiv_tt (w : World) (x y : Int) (hx : Fits x) (hy : Fits y) (h0 : y ≠ 0) (ha : decide (x < 0) = true) (hbn : decide (y < 0) = true) (k l : Nat) (hk : x.natAbs / y.natAbs = k) (hl : x.natAbs % y.natAbs = l) (qf : Fits ((k : Int))) (rf : Fits (-(l : Int))) (qh ql rh rl : Int) (eq : WV ((k : Int)) = .agg #[.int .i64 qh, .int .u64 ql]) (er : WV (-(l : Int)) = .agg #[.int .i64 rh, .int .u64 rl]) : Calls Tryd.prog 32 #[WV x, WV y] w fun e w' => e = .returned (.tuple #[.agg #[.int .i64 qh, .int .u64 ql], .agg #[.int .i64 rh, .int .u64 rl], .int .i64 0]) ∧ Below w.heap.size w w' := by
  have O1 := fun w => rof_any w x hx
  have O2 := fun w => rof_any w y hy
  have ZY := fun w => rzero_any w y.natAbs (Nat.lt_of_lt_of_le (fits_small hy) (BP_le (by decide)))
  obtain ⟨xh, xl, e1⟩ : ∃ hi lo : Int, WV x = .agg #[.int .i64 hi, .int .u64 lo] := ⟨_, _, rfl⟩
  obtain ⟨yh, yl, e2⟩ : ∃ hi lo : Int, WV y = .agg #[.int .i64 hi, .int .u64 lo] := ⟨_, _, rfl⟩
  have sx := fits_small hx
  have sy := fits_small hy
  have QD := fun w => rdiv_any w x.natAbs y.natAbs (Nat.lt_of_lt_of_le sx (BP_le (by decide))) (Nat.lt_of_lt_of_le sy (BP_le (by decide))) (by omega)
  rw [hk, hl] at QD
  have bk : k < BP 16 := by rw [← hk]; exact Nat.lt_of_le_of_lt (Nat.div_le_self _ _) (Nat.lt_of_lt_of_le sx (BP_le (by decide)))
  have bl : l < BP 16 := by rw [← hl]; exact Nat.lt_of_le_of_lt (Nat.mod_le _ _) (Nat.lt_of_lt_of_le sx (BP_le (by decide)))
  have ZK := fun w => rzero_any w k bk
  have ZL := fun w => rzero_any w l bl
  have WQ := fun w => rwide_any w ((k : Int)) (by omega)
  have WR := fun w => rwide_any w (-(l : Int)) (by omega)
  rw [show decide (y.natAbs = 0) = false by simp; omega] at ZY
  rw [resV_fit qf] at WQ
  rw [← pos_big] at WQ
  rw [← neg_big] at WR
  rw [resV_fit rf, er] at WR
  rw [eq] at WQ
  obtain ⟨z, hz⟩ : ∃ z, z = decide (k = 0) := ⟨_, rfl⟩
  obtain ⟨zr, hzr⟩ : ∃ z, z = decide (l = 0) := ⟨_, rfl⟩
  rw [← hz] at ZK
  rw [← hzr] at ZL
  rw [← hzr] at WR
  have e0 : WV 0 = .agg #[.int .i64 0, .int .u64 0] := by kernel_rfl
  rw [e1] at O1
  rw [e2] at O2
  rw [e1, e2]
  unfold BigZ at O1 O2
  rw [ha] at O1
  rw [hbn] at O2
  unfold BigV at O1 O2 WQ WR
  unfold DV at ZY QD ZK ZL
  obtain ⟨C1, hC1⟩ : ∃ X, X = bigs true x.natAbs := ⟨_, rfl⟩
  obtain ⟨C2, hC2⟩ : ∃ X, X = bigs true y.natAbs := ⟨_, rfl⟩
  obtain ⟨E1, hE1⟩ : ∃ X, X = digs x.natAbs := ⟨_, rfl⟩
  obtain ⟨E2, hE2⟩ : ∃ X, X = digs y.natAbs := ⟨_, rfl⟩
  obtain ⟨E3, hE3⟩ : ∃ X, X = digs k := ⟨_, rfl⟩
  obtain ⟨E4, hE4⟩ : ∃ X, X = digs l := ⟨_, rfl⟩
  obtain ⟨C3, hC3⟩ : ∃ X, X = bigs false k := ⟨_, rfl⟩
  obtain ⟨C4, hC4⟩ : ∃ X, X = bigs (!zr) l := ⟨_, rfl⟩
  rw [← hC1] at O1
  rw [← hC2] at O2
  rw [← hE2] at ZY
  rw [← hE1, ← hE2, ← hE3, ← hE4] at QD
  rw [← hE3] at ZK
  rw [← hE4] at ZL
  rw [← hC3] at WQ
  rw [← hC4] at WR
  have H1 := hid hC1
  have H2 := hid hC2
  have H3 := hid hC3
  have H4 := hid hC4
  have HE1 := hid hE1
  have HE2 := hid hE2
  have HE3 := hid hE3
  have HE4 := hid hE4
  have HO1 := hid O1
  have HO2 := hid O2
  have HZY := hid ZY
  have HQD := hid QD
  have HZK := hid ZK
  have HZL := hid ZL
  have HWQ := hid WQ
  have HWR := hid WR
  clear O1 O2 ZY QD ZK ZL WQ WR e0 e1 e2 hC1 hC2 hC3 hC4 hE1 hE2 hE3 hE4 hx hy h0 ha hbn hk hl bk bl sx sy hz hzr qf rf eq er
  have rx := (((Row.new w 24 #[.int .i64 xh, .int .u64 xl]).alloc (.cells #[.int .i64 yh, .int .u64 yl] 24)).alloc (.cells #[.int .i64 0, .int .u64 0] 24)).alloc (.cells #[.int .i64 0, .int .u64 0] 24)
  have ry := ((Row.new (w.alloc (.cells #[.int .i64 xh, .int .u64 xl] 24)) 24 #[.int .i64 yh, .int .u64 yl]).alloc (.cells #[.int .i64 0, .int .u64 0] 24)).alloc (.cells #[.int .i64 0, .int .u64 0] 24)
  have rq := (Row.new ((w.alloc (.cells #[.int .i64 xh, .int .u64 xl] 24)).alloc (.cells #[.int .i64 yh, .int .u64 yl] 24)) 24 #[.int .i64 0, .int .u64 0]).alloc (.cells #[.int .i64 0, .int .u64 0] 24)
  have rr := Row.new (((w.alloc (.cells #[.int .i64 xh, .int .u64 xl] 24)).alloc (.cells #[.int .i64 yh, .int .u64 yl] 24)).alloc (.cells #[.int .i64 0, .int .u64 0] 24)) 24 #[.int .i64 0, .int .u64 0]
  have hU := ((((Up.refl w).alloc (.cells #[.int .i64 xh, .int .u64 xl] 24)).alloc (.cells #[.int .i64 yh, .int .u64 yl] 24)).alloc (.cells #[.int .i64 0, .int .u64 0] 24)).alloc (.cells #[.int .i64 0, .int .u64 0] 24)
  simp only [alloc_size] at ry rq rr
  go_enter Tryd.func32, Tryd.ntmps32
  go_upto_region 1 with fail
  obtain ⟨V, hV⟩ : ∃ V, V = (((w.alloc (.cells #[.int .i64 xh, .int .u64 xl] 24)).alloc (.cells #[.int .i64 yh, .int .u64 yl] 24)).alloc (.cells #[.int .i64 0, .int .u64 0] 24)).alloc (.cells #[.int .i64 0, .int .u64 0] 24) := ⟨_, rfl⟩
  rw [← hV] at rx ry rq rr hU ⊢
  clear hV
  have cx0 : V.cell? ⟨w.heap.size, 0, none⟩ = some (.int .i64 xh) := by simpa using rx.cell 0
  have cx1 : V.cell? ⟨w.heap.size, 1, none⟩ = some (.int .u64 xl) := by simpa using rx.cell 1
  go_wp2_with fail
  refine Calls.mono (HO1.out _) ?_; rintro e w1 ⟨rfl, hb⟩
  have z1 := hb.size
  have l1 := rr.lt
  clear cx0 cx1
  replace rx := (rx).mod (Mod.of_below hb Nil) (fun hf => hf)
  replace ry := (ry).mod (Mod.of_below hb Nil) (fun hf => hf)
  replace rq := (rq).mod (Mod.of_below hb Nil) (fun hf => hf)
  replace rr := (rr).mod (Mod.of_below hb Nil) (fun hf => hf)
  replace hU := hU.trans hb
  clear hb
  have r7 := (Row.new w1 76 #[.bool false, .int .u64 0, .int .u64 0, .int .u64 0, .int .u64 0, .int .u64 0, .int .u64 0, .int .u64 0, .int .u64 0, .int .u64 0, .int .u64 0, .int .u64 0, .int .u64 0, .int .u64 0, .int .u64 0, .int .u64 0, .int .u64 0]).putRow C1
  replace rx := (rx.alloc (.cells #[.bool false, .int .u64 0, .int .u64 0, .int .u64 0, .int .u64 0, .int .u64 0, .int .u64 0, .int .u64 0, .int .u64 0, .int .u64 0, .int .u64 0, .int .u64 0, .int .u64 0, .int .u64 0, .int .u64 0, .int .u64 0, .int .u64 0] 76)).farRow (g' := w1.heap.size) (by omega) C1
  replace ry := (ry.alloc (.cells #[.bool false, .int .u64 0, .int .u64 0, .int .u64 0, .int .u64 0, .int .u64 0, .int .u64 0, .int .u64 0, .int .u64 0, .int .u64 0, .int .u64 0, .int .u64 0, .int .u64 0, .int .u64 0, .int .u64 0, .int .u64 0, .int .u64 0] 76)).farRow (g' := w1.heap.size) (by omega) C1
  replace rq := (rq.alloc (.cells #[.bool false, .int .u64 0, .int .u64 0, .int .u64 0, .int .u64 0, .int .u64 0, .int .u64 0, .int .u64 0, .int .u64 0, .int .u64 0, .int .u64 0, .int .u64 0, .int .u64 0, .int .u64 0, .int .u64 0, .int .u64 0, .int .u64 0] 76)).farRow (g' := w1.heap.size) (by omega) C1
  replace rr := (rr.alloc (.cells #[.bool false, .int .u64 0, .int .u64 0, .int .u64 0, .int .u64 0, .int .u64 0, .int .u64 0, .int .u64 0, .int .u64 0, .int .u64 0, .int .u64 0, .int .u64 0, .int .u64 0, .int .u64 0, .int .u64 0, .int .u64 0, .int .u64 0] 76)).farRow (g' := w1.heap.size) (by omega) C1
  replace hU := (hU.alloc (.cells #[.bool false, .int .u64 0, .int .u64 0, .int .u64 0, .int .u64 0, .int .u64 0, .int .u64 0, .int .u64 0, .int .u64 0, .int .u64 0, .int .u64 0, .int .u64 0, .int .u64 0, .int .u64 0, .int .u64 0, .int .u64 0, .int .u64 0] 76)).setRow (p := w1.heap.size) (by omega) C1
  go_upto_region 2 with (refine wpList_store_row rfl 76 _ _ rfl (w1.heap.size) C1 rfl rfl 76 #[.bool false, .int .u64 0, .int .u64 0, .int .u64 0, .int .u64 0, .int .u64 0, .int .u64 0, .int .u64 0, .int .u64 0, .int .u64 0, .int .u64 0, .int .u64 0, .int .u64 0, .int .u64 0, .int .u64 0, .int .u64 0, .int .u64 0] (Row.new w1 76 #[.bool false, .int .u64 0, .int .u64 0, .int .u64 0, .int .u64 0, .int .u64 0, .int .u64 0, .int .u64 0, .int .u64 0, .int .u64 0, .int .u64 0, .int .u64 0, .int .u64 0, .int .u64 0, .int .u64 0, .int .u64 0, .int .u64 0]) (size_Bn (sizeC H1)) (by rw [sizeC H1]; rfl) (oneC H1) ?_)
  obtain ⟨V1, hV1⟩ : ∃ V1, V1 = (w1.alloc (.cells #[.bool false, .int .u64 0, .int .u64 0, .int .u64 0, .int .u64 0, .int .u64 0, .int .u64 0, .int .u64 0, .int .u64 0, .int .u64 0, .int .u64 0, .int .u64 0, .int .u64 0, .int .u64 0, .int .u64 0, .int .u64 0, .int .u64 0] 76)).setRow w1.heap.size C1 := ⟨_, rfl⟩
  rw [← hV1] at rx ry rq rr r7 hU ⊢
  have zv1 : V1.heap.size = w1.heap.size + 1 := by rw [hV1, setRow_size, alloc_size]
  clear hV1
  obtain ⟨g7, hg7⟩ : ∃ g, g = w1.heap.size := ⟨_, rfl⟩
  rw [← hg7] at r7 z1 zv1 ⊢
  clear hg7
  have cx0 : V1.cell? ⟨w.heap.size + 1, 0, none⟩ = some (.int .i64 yh) := by simpa using ry.cell 0
  have cx1 : V1.cell? ⟨w.heap.size + 1, 1, none⟩ = some (.int .u64 yl) := by simpa using ry.cell 1
  go_wp2_with fail
  refine Calls.mono (HO2.out _) ?_; rintro e w2 ⟨rfl, hb⟩
  have z2 := hb.size
  clear cx0 cx1
  replace rx := (rx).mod (Mod.of_below hb Nil) (fun hf => hf)
  replace ry := (ry).mod (Mod.of_below hb Nil) (fun hf => hf)
  replace rq := (rq).mod (Mod.of_below hb Nil) (fun hf => hf)
  replace rr := (rr).mod (Mod.of_below hb Nil) (fun hf => hf)
  replace r7 := (r7).mod (Mod.of_below hb Nil) (fun hf => hf)
  replace hU := hU.trans hb
  clear hb
  have r8 := (Row.new w2 76 #[.bool false, .int .u64 0, .int .u64 0, .int .u64 0, .int .u64 0, .int .u64 0, .int .u64 0, .int .u64 0, .int .u64 0, .int .u64 0, .int .u64 0, .int .u64 0, .int .u64 0, .int .u64 0, .int .u64 0, .int .u64 0, .int .u64 0]).putRow C2
  replace rx := (rx.alloc (.cells #[.bool false, .int .u64 0, .int .u64 0, .int .u64 0, .int .u64 0, .int .u64 0, .int .u64 0, .int .u64 0, .int .u64 0, .int .u64 0, .int .u64 0, .int .u64 0, .int .u64 0, .int .u64 0, .int .u64 0, .int .u64 0, .int .u64 0] 76)).farRow (g' := w2.heap.size) (by omega) C2
  replace ry := (ry.alloc (.cells #[.bool false, .int .u64 0, .int .u64 0, .int .u64 0, .int .u64 0, .int .u64 0, .int .u64 0, .int .u64 0, .int .u64 0, .int .u64 0, .int .u64 0, .int .u64 0, .int .u64 0, .int .u64 0, .int .u64 0, .int .u64 0, .int .u64 0] 76)).farRow (g' := w2.heap.size) (by omega) C2
  replace rq := (rq.alloc (.cells #[.bool false, .int .u64 0, .int .u64 0, .int .u64 0, .int .u64 0, .int .u64 0, .int .u64 0, .int .u64 0, .int .u64 0, .int .u64 0, .int .u64 0, .int .u64 0, .int .u64 0, .int .u64 0, .int .u64 0, .int .u64 0, .int .u64 0] 76)).farRow (g' := w2.heap.size) (by omega) C2
  replace rr := (rr.alloc (.cells #[.bool false, .int .u64 0, .int .u64 0, .int .u64 0, .int .u64 0, .int .u64 0, .int .u64 0, .int .u64 0, .int .u64 0, .int .u64 0, .int .u64 0, .int .u64 0, .int .u64 0, .int .u64 0, .int .u64 0, .int .u64 0, .int .u64 0] 76)).farRow (g' := w2.heap.size) (by omega) C2
  replace r7 := (r7.alloc (.cells #[.bool false, .int .u64 0, .int .u64 0, .int .u64 0, .int .u64 0, .int .u64 0, .int .u64 0, .int .u64 0, .int .u64 0, .int .u64 0, .int .u64 0, .int .u64 0, .int .u64 0, .int .u64 0, .int .u64 0, .int .u64 0, .int .u64 0] 76)).farRow (g' := w2.heap.size) (by omega) C2
  replace hU := (hU.alloc (.cells #[.bool false, .int .u64 0, .int .u64 0, .int .u64 0, .int .u64 0, .int .u64 0, .int .u64 0, .int .u64 0, .int .u64 0, .int .u64 0, .int .u64 0, .int .u64 0, .int .u64 0, .int .u64 0, .int .u64 0, .int .u64 0, .int .u64 0] 76)).setRow (p := w2.heap.size) (by omega) C2
  go_upto_region 3 with (refine wpList_store_row rfl 76 _ _ rfl (w2.heap.size) C2 rfl rfl 76 #[.bool false, .int .u64 0, .int .u64 0, .int .u64 0, .int .u64 0, .int .u64 0, .int .u64 0, .int .u64 0, .int .u64 0, .int .u64 0, .int .u64 0, .int .u64 0, .int .u64 0, .int .u64 0, .int .u64 0, .int .u64 0, .int .u64 0] (Row.new w2 76 #[.bool false, .int .u64 0, .int .u64 0, .int .u64 0, .int .u64 0, .int .u64 0, .int .u64 0, .int .u64 0, .int .u64 0, .int .u64 0, .int .u64 0, .int .u64 0, .int .u64 0, .int .u64 0, .int .u64 0, .int .u64 0, .int .u64 0]) (size_Bn (sizeC H2)) (by rw [sizeC H2]; rfl) (oneC H2) ?_)
  obtain ⟨V2, hV2⟩ : ∃ V2, V2 = (w2.alloc (.cells #[.bool false, .int .u64 0, .int .u64 0, .int .u64 0, .int .u64 0, .int .u64 0, .int .u64 0, .int .u64 0, .int .u64 0, .int .u64 0, .int .u64 0, .int .u64 0, .int .u64 0, .int .u64 0, .int .u64 0, .int .u64 0, .int .u64 0] 76)).setRow w2.heap.size C2 := ⟨_, rfl⟩
  rw [← hV2] at rx ry rq rr r7 r8 hU ⊢
  have zv2 : V2.heap.size = w2.heap.size + 1 := by rw [hV2, setRow_size, alloc_size]
  clear hV2
  obtain ⟨g8, hg8⟩ : ∃ g, g = w2.heap.size := ⟨_, rfl⟩
  rw [← hg8] at r8 z2 zv2 ⊢
  clear hg8 rx ry
  go_wp2_with (refine wpList_load_E rfl H2 HE2 (.tmp 15) rfl (g8) rfl 76 r8 ?_)
  refine Calls.mono (HZY.out _) ?_; rintro e w3 ⟨rfl, hb⟩
  have z3 := hb.size
  replace rq := (rq).mod (Mod.of_below hb Nil) (fun hf => hf)
  replace rr := (rr).mod (Mod.of_below hb Nil) (fun hf => hf)
  replace r7 := (r7).mod (Mod.of_below hb Nil) (fun hf => hf)
  replace r8 := (r8).mod (Mod.of_below hb Nil) (fun hf => hf)
  replace hU := hU.trans hb
  clear hb
  go_wp2_with (first | (refine wpList_load_E rfl H1 HE1 (.tmp 21) rfl (g7) rfl 76 r7 ?_) | (refine wpList_load_E rfl H2 HE2 (.tmp 23) rfl (g8) rfl 76 r8 ?_))
  refine Calls.mono (HQD.out _) ?_; rintro e w4 ⟨rfl, hb⟩
  have z4 := hb.size
  replace rq := (rq).mod (Mod.of_below hb Nil) (fun hf => hf)
  replace rr := (rr).mod (Mod.of_below hb Nil) (fun hf => hf)
  replace r7 := (r7).mod (Mod.of_below hb Nil) (fun hf => hf)
  replace r8 := (r8).mod (Mod.of_below hb Nil) (fun hf => hf)
  replace hU := hU.trans hb
  clear hb
  have n9 := (Row.new w4 74 #[.int .u64 0, .int .u64 0, .int .u64 0, .int .u64 0, .int .u64 0, .int .u64 0, .int .u64 0, .int .u64 0, .int .u64 0, .int .u64 0, .int .u64 0, .int .u64 0, .int .u64 0, .int .u64 0, .int .u64 0, .int .u64 0]).alloc (.cells #[.int .u64 0, .int .u64 0, .int .u64 0, .int .u64 0, .int .u64 0, .int .u64 0, .int .u64 0, .int .u64 0, .int .u64 0, .int .u64 0, .int .u64 0, .int .u64 0, .int .u64 0, .int .u64 0, .int .u64 0, .int .u64 0] 74)
  have n10 := Row.new (w4.alloc (.cells #[.int .u64 0, .int .u64 0, .int .u64 0, .int .u64 0, .int .u64 0, .int .u64 0, .int .u64 0, .int .u64 0, .int .u64 0, .int .u64 0, .int .u64 0, .int .u64 0, .int .u64 0, .int .u64 0, .int .u64 0, .int .u64 0] 74)) 74 #[.int .u64 0, .int .u64 0, .int .u64 0, .int .u64 0, .int .u64 0, .int .u64 0, .int .u64 0, .int .u64 0, .int .u64 0, .int .u64 0, .int .u64 0, .int .u64 0, .int .u64 0, .int .u64 0, .int .u64 0, .int .u64 0]
  simp only [alloc_size] at n10
  have r9 := (n9.putRow E3).farRow (g' := w4.heap.size + 1) (by omega) E4
  have m10 := n10.farRow (g' := w4.heap.size) (by omega) E3
  have r10 := m10.putRow E4
  replace rq := ((rq.alloc (.cells #[.int .u64 0, .int .u64 0, .int .u64 0, .int .u64 0, .int .u64 0, .int .u64 0, .int .u64 0, .int .u64 0, .int .u64 0, .int .u64 0, .int .u64 0, .int .u64 0, .int .u64 0, .int .u64 0, .int .u64 0, .int .u64 0] 74)).alloc (.cells #[.int .u64 0, .int .u64 0, .int .u64 0, .int .u64 0, .int .u64 0, .int .u64 0, .int .u64 0, .int .u64 0, .int .u64 0, .int .u64 0, .int .u64 0, .int .u64 0, .int .u64 0, .int .u64 0, .int .u64 0, .int .u64 0] 74)).farRow (g' := w4.heap.size) (by omega) E3 |>.farRow (g' := w4.heap.size + 1) (by omega) E4
  replace rr := ((rr.alloc (.cells #[.int .u64 0, .int .u64 0, .int .u64 0, .int .u64 0, .int .u64 0, .int .u64 0, .int .u64 0, .int .u64 0, .int .u64 0, .int .u64 0, .int .u64 0, .int .u64 0, .int .u64 0, .int .u64 0, .int .u64 0, .int .u64 0] 74)).alloc (.cells #[.int .u64 0, .int .u64 0, .int .u64 0, .int .u64 0, .int .u64 0, .int .u64 0, .int .u64 0, .int .u64 0, .int .u64 0, .int .u64 0, .int .u64 0, .int .u64 0, .int .u64 0, .int .u64 0, .int .u64 0, .int .u64 0] 74)).farRow (g' := w4.heap.size) (by omega) E3 |>.farRow (g' := w4.heap.size + 1) (by omega) E4
  replace r7 := ((r7.alloc (.cells #[.int .u64 0, .int .u64 0, .int .u64 0, .int .u64 0, .int .u64 0, .int .u64 0, .int .u64 0, .int .u64 0, .int .u64 0, .int .u64 0, .int .u64 0, .int .u64 0, .int .u64 0, .int .u64 0, .int .u64 0, .int .u64 0] 74)).alloc (.cells #[.int .u64 0, .int .u64 0, .int .u64 0, .int .u64 0, .int .u64 0, .int .u64 0, .int .u64 0, .int .u64 0, .int .u64 0, .int .u64 0, .int .u64 0, .int .u64 0, .int .u64 0, .int .u64 0, .int .u64 0, .int .u64 0] 74)).farRow (g' := w4.heap.size) (by omega) E3 |>.farRow (g' := w4.heap.size + 1) (by omega) E4
  replace r8 := ((r8.alloc (.cells #[.int .u64 0, .int .u64 0, .int .u64 0, .int .u64 0, .int .u64 0, .int .u64 0, .int .u64 0, .int .u64 0, .int .u64 0, .int .u64 0, .int .u64 0, .int .u64 0, .int .u64 0, .int .u64 0, .int .u64 0, .int .u64 0] 74)).alloc (.cells #[.int .u64 0, .int .u64 0, .int .u64 0, .int .u64 0, .int .u64 0, .int .u64 0, .int .u64 0, .int .u64 0, .int .u64 0, .int .u64 0, .int .u64 0, .int .u64 0, .int .u64 0, .int .u64 0, .int .u64 0, .int .u64 0] 74)).farRow (g' := w4.heap.size) (by omega) E3 |>.farRow (g' := w4.heap.size + 1) (by omega) E4
  replace hU := (((hU.alloc (.cells #[.int .u64 0, .int .u64 0, .int .u64 0, .int .u64 0, .int .u64 0, .int .u64 0, .int .u64 0, .int .u64 0, .int .u64 0, .int .u64 0, .int .u64 0, .int .u64 0, .int .u64 0, .int .u64 0, .int .u64 0, .int .u64 0] 74)).alloc (.cells #[.int .u64 0, .int .u64 0, .int .u64 0, .int .u64 0, .int .u64 0, .int .u64 0, .int .u64 0, .int .u64 0, .int .u64 0, .int .u64 0, .int .u64 0, .int .u64 0, .int .u64 0, .int .u64 0, .int .u64 0, .int .u64 0] 74)).setRow (p := w4.heap.size) (by omega) E3).setRow (p := w4.heap.size + 1) (by omega) E4
  go_upto_region 6 with (first | (refine wpList_store_row rfl 74 (.tmp 9) (.tmp 26) rfl (w4.heap.size) E3 rfl rfl 74 #[.int .u64 0, .int .u64 0, .int .u64 0, .int .u64 0, .int .u64 0, .int .u64 0, .int .u64 0, .int .u64 0, .int .u64 0, .int .u64 0, .int .u64 0, .int .u64 0, .int .u64 0, .int .u64 0, .int .u64 0, .int .u64 0] n9 (size_De HE3) (sizeE HE3).symm (oneE HE3) ?_) | (refine wpList_store_row rfl 74 (.tmp 10) (.tmp 27) rfl (w4.heap.size + 1) E4 rfl rfl 74 #[.int .u64 0, .int .u64 0, .int .u64 0, .int .u64 0, .int .u64 0, .int .u64 0, .int .u64 0, .int .u64 0, .int .u64 0, .int .u64 0, .int .u64 0, .int .u64 0, .int .u64 0, .int .u64 0, .int .u64 0, .int .u64 0] m10 (size_De HE4) (sizeE HE4).symm (oneE HE4) ?_))
  obtain ⟨V4, hV4⟩ : ∃ V4, V4 = (((w4.alloc (.cells #[.int .u64 0, .int .u64 0, .int .u64 0, .int .u64 0, .int .u64 0, .int .u64 0, .int .u64 0, .int .u64 0, .int .u64 0, .int .u64 0, .int .u64 0, .int .u64 0, .int .u64 0, .int .u64 0, .int .u64 0, .int .u64 0] 74)).alloc (.cells #[.int .u64 0, .int .u64 0, .int .u64 0, .int .u64 0, .int .u64 0, .int .u64 0, .int .u64 0, .int .u64 0, .int .u64 0, .int .u64 0, .int .u64 0, .int .u64 0, .int .u64 0, .int .u64 0, .int .u64 0, .int .u64 0] 74)).setRow w4.heap.size E3).setRow (w4.heap.size + 1) E4 := ⟨_, rfl⟩
  rw [← hV4] at rq rr r7 r8 r9 r10 hU ⊢
  clear hV4 n9 n10 m10
  obtain ⟨g9, hg9⟩ : ∃ g, g = w4.heap.size := ⟨_, rfl⟩
  rw [← hg9] at r9 r10 z4 ⊢
  clear hg9
  have MK : ∀ W, Row W (g7) 76 C1 → Row W (g8) 76 C2 → Row W (g9) 74 E3 → Row W (g9 + 1) 74 E4 → (∃ p q : Int, Row W (w.heap.size + 1 + 1) 24 #[.int .i64 p, .int .u64 q]) → Row W (w.heap.size + 1 + 1 + 1) 24 #[.int .i64 0, .int .u64 0] → Up w.heap.size w W → Row W (g7) 76 C1 ∧ Row W (g8) 76 C2 ∧ Row W (g9) 74 E3 ∧ Row W (g9 + 1) 74 E4 ∧ (∃ p q : Int, Row W (w.heap.size + 1 + 1) 24 #[.int .i64 p, .int .u64 q]) ∧ Row W (w.heap.size + 1 + 1 + 1) 24 #[.int .i64 0, .int .u64 0] ∧ Up w.heap.size w W ∧ W.cell? ⟨g7, 0, none⟩ = some (.bool true) ∧ W.cell? ⟨g8, 0, none⟩ = some (.bool true) := fun W k0 k1 k2 k3 k4 k5 k6 => ⟨k0, k1, k2, k3, k4, k5, k6, by rw [k0.cell, zeroC H1], by rw [k1.cell, zeroC H2]⟩
  have MK := hid MK
  refine wp_region_noPanic ?_
  refine wp_region_held_drew (S := fun W => Row W (g7) 76 C1 ∧ Row W (g8) 76 C2 ∧ Row W (g9) 74 E3 ∧ Row W (g9 + 1) 74 E4 ∧ (∃ p q : Int, Row W (w.heap.size + 1 + 1) 24 #[.int .i64 p, .int .u64 q]) ∧ Row W (w.heap.size + 1 + 1 + 1) 24 #[.int .i64 0, .int .u64 0] ∧ Up w.heap.size w W ∧ W.cell? ⟨g7, 0, none⟩ = some (.bool true) ∧ W.cell? ⟨g8, 0, none⟩ = some (.bool true)) (by kernel_rfl) (MK.out _ r7.drew r8.drew r9.drew r10.drew ⟨_, _, rq.drew⟩ rr.drew hU.drew) (fun hHeld => ?_)
  refine wpAnyH_take (i := 0) (oi := { dst := some 29, op := Op.fieldAddr 76 (Operand.tmp 7) 0, type := 0, pos := "ref.go:185", after := #[], guard := none }) (v := ?_) rfl (by kernel_rfl) (by kernel_rfl) (by kernel_rfl) (fun _ _ _ h => h) (Or.inl ⟨by rfl, ?_⟩) hHeld ?_
  rotate_left
  · intro w' hSw; (try dsimp only at hSw); go_simp <;> with_reducible rfl
  try simp only [Act.put, List.setIfInBounds_toArray, List.set_cons_zero, List.set_cons_succ]
  refine wpAnyH_take (i := 1) (oi := { dst := some 30, op := Op.load 4 (Operand.tmp 29), type := 4, pos := "ref.go:185", after := #[{ on := 0, ground := Ground.data }], guard := none }) (v := ?_) rfl (by kernel_rfl) (by kernel_rfl) (by kernel_rfl) (fun _ _ _ h => h) (Or.inl ⟨by rfl, ?_⟩) hHeld ?_
  rotate_left
  · intro w' hSw; (try dsimp only at hSw); go_simp <;> with_reducible rfl
  try simp only [Act.put, List.setIfInBounds_toArray, List.set_cons_zero, List.set_cons_succ]
  refine wpAnyH_take (i := 2) (oi := { dst := some 31, op := Op.fieldAddr 76 (Operand.tmp 8) 0, type := 0, pos := "ref.go:185", after := #[], guard := none }) (v := ?_) rfl (by kernel_rfl) (by kernel_rfl) (by kernel_rfl) (fun _ _ _ h => h) (Or.inl ⟨by rfl, ?_⟩) hHeld ?_
  rotate_left
  · intro w' hSw; (try dsimp only at hSw); go_simp <;> with_reducible rfl
  try simp only [Act.put, List.setIfInBounds_toArray, List.set_cons_zero, List.set_cons_succ]
  refine wpAnyH_take (i := 3) (oi := { dst := some 32, op := Op.load 4 (Operand.tmp 31), type := 4, pos := "ref.go:185", after := #[{ on := 2, ground := Ground.data }], guard := none }) (v := ?_) rfl (by kernel_rfl) (by kernel_rfl) (by kernel_rfl) (fun _ _ _ h => h) (Or.inl ⟨by rfl, ?_⟩) hHeld ?_
  rotate_left
  · intro w' hSw; (try dsimp only at hSw); go_simp <;> with_reducible rfl
  try simp only [Act.put, List.setIfInBounds_toArray, List.set_cons_zero, List.set_cons_succ]
  refine wpAnyH_take (i := 4) (oi := { dst := some 33, op := Op.binOp BinOp.neq 4 (Operand.tmp 30) (Operand.tmp 32) 4, type := 4, pos := "ref.go:185", after := #[{ on := 1, ground := Ground.data }, { on := 3, ground := Ground.data }], guard := none }) (v := ?_) rfl (by kernel_rfl) (by kernel_rfl) (by kernel_rfl) (fun _ _ _ h => h) (Or.inl ⟨by rfl, ?_⟩) hHeld ?_
  rotate_left
  · intro w' hSw; (try dsimp only at hSw); go_simp <;> with_reducible rfl
  try simp only [Act.put, List.setIfInBounds_toArray, List.set_cons_zero, List.set_cons_succ]
  refine wpAnyH_take (i := 5) (oi := { dst := some 34, op := Op.move (Operand.tmp 33), type := 4, pos := "ref.go:185", after := #[{ on := 4, ground := Ground.data }], guard := none }) (v := ?_) rfl (by kernel_rfl) (by kernel_rfl) (by kernel_rfl) (fun _ _ _ h => h) (Or.inl ⟨by rfl, ?_⟩) hHeld ?_
  rotate_left
  · intro w' hSw; (try dsimp only at hSw); go_simp <;> with_reducible rfl
  try simp only [Act.put, List.setIfInBounds_toArray, List.set_cons_zero, List.set_cons_succ]
  refine wpAnyH_take (i := 6) (oi := { dst := some 35, op := Op.load 74 (Operand.tmp 9), type := 74, pos := "ref.go:185", after := #[{ on := 5, ground := Ground.guard }], guard := some (5, true) }) (v := undef) rfl (by kernel_rfl) (by kernel_rfl) (by kernel_rfl) (fun _ _ _ h => h) (Or.inr ⟨by rfl, rfl⟩) hHeld ?_
  try simp only [Act.put, List.setIfInBounds_toArray, List.set_cons_zero, List.set_cons_succ]
  refine wpAnyH_take (i := 7) (oi := { dst := some 36, op := Op.call { callee := Callee.value (Operand.func 64), args := #[Operand.tmp 35], argTypes := #[74] }, type := 4, pos := "ref.go:185", after := #[{ on := 6, ground := Ground.data }, { on := 5, ground := Ground.chain }, { on := 5, ground := Ground.guard }], guard := some (5, true) }) (v := undef) rfl (by kernel_rfl) (by kernel_rfl) (by kernel_rfl) (fun _ _ _ h => h) (Or.inr ⟨by rfl, rfl⟩) hHeld ?_
  try simp only [Act.put, List.setIfInBounds_toArray, List.set_cons_zero, List.set_cons_succ]
  refine wpAnyH_take (i := 8) (oi := { dst := some 37, op := Op.unOp UnOp.not 4 (Operand.tmp 36), type := 4, pos := "ref.go:185", after := #[{ on := 7, ground := Ground.data }, { on := 5, ground := Ground.guard }], guard := some (5, true) }) (v := undef) rfl (by kernel_rfl) (by kernel_rfl) (by kernel_rfl) (fun _ _ _ h => h) (Or.inr ⟨by rfl, rfl⟩) hHeld ?_
  try simp only [Act.put, List.setIfInBounds_toArray, List.set_cons_zero, List.set_cons_succ]
  refine wpAnyH_take (i := 9) (oi := { dst := some 38, op := Op.pick (Operand.tmp 34) (Operand.tmp 37) (Operand.const (Value.bool false)), type := 4, pos := "ref.go:185", after := #[{ on := 5, ground := Ground.data }, { on := 8, ground := Ground.data }], guard := none }) (v := ?_) rfl (by kernel_rfl) (by kernel_rfl) (by kernel_rfl) (fun _ _ _ h => h) (Or.inl ⟨by rfl, ?_⟩) hHeld ?_
  rotate_left
  · intro w' hSw; (try dsimp only at hSw); go_simp <;> with_reducible rfl
  try simp only [Act.put, List.setIfInBounds_toArray, List.set_cons_zero, List.set_cons_succ]
  refine wpAnyH_take (i := 10) (oi := { dst := some 39, op := Op.load 74 (Operand.tmp 9), type := 74, pos := "ref.go:185", after := #[], guard := none }) (v := .agg E3) rfl (by kernel_rfl) (by kernel_rfl) (by kernel_rfl) (fun _ _ _ h => h) (Or.inl ⟨by rfl, fun W hW => exec_load_row 74 _ rfl (g9) rfl 74 E3 _ Tryd.underlying74 rfl (size_De HE3) W hW.2.2.1⟩) hHeld ?_
  try simp only [Act.put, List.setIfInBounds_toArray, List.set_cons_zero, List.set_cons_succ]
  refine wpAnyH_take (i := 11) (oi := { dst := some 40, op := Op.build 76 #[(0, Operand.tmp 38), (1, Operand.tmp 39)], type := 76, pos := "ref.go:185", after := #[{ on := 9, ground := Ground.data }, { on := 10, ground := Ground.data }], guard := none }) (v := .agg C3) rfl (by kernel_rfl) (by kernel_rfl) (by kernel_rfl) (fun _ _ _ h => h) (Or.inl ⟨by rfl, fun W hW => exec_build_C H3 HE3 _ _ rfl rfl rfl⟩) hHeld ?_
  try simp only [Act.put, List.setIfInBounds_toArray, List.set_cons_zero, List.set_cons_succ]
  refine wpAnyH_ready (rs := [12]) (by kernel_rfl) (by simp) ?_
  refine AllReadyH.cons (o := { dst := some 41, op := Op.call { callee := Callee.value (Operand.func 54), args := #[Operand.tmp 40], argTypes := #[76] }, type := 26, pos := "ref.go:185", after := #[{ on := 11, ground := Ground.data }, { on := 7, ground := Ground.chain }], guard := none }) rfl (fun K hK => ?_) AllReadyH.nil
  go_simp
  refine Calls.mono (HWQ.out _) ?_; rintro e w6 ⟨rfl, hb⟩
  refine hK.out _ _ (MK.out _ ((hHeld.1).mod (Mod.of_below hb Nil) (fun hf => hf)) ((hHeld.2.1).mod (Mod.of_below hb Nil) (fun hf => hf)) ((hHeld.2.2.1).mod (Mod.of_below hb Nil) (fun hf => hf)) ((hHeld.2.2.2.1).mod (Mod.of_below hb Nil) (fun hf => hf)) ((by obtain ⟨p, q, h1⟩ := hHeld.2.2.2.2.1; exact ⟨p, q, (h1).mod (Mod.of_below hb Nil) (fun hf => hf)⟩)) ((hHeld.2.2.2.2.2.1).mod (Mod.of_below hb Nil) (fun hf => hf)) ((hHeld.2.2.2.2.2.2.1).trans hb)) (fun hHeld => ?_)
  clear hK K
  try simp only [Act.put, List.setIfInBounds_toArray, List.set_cons_zero, List.set_cons_succ]
  refine wpAnyH_take (i := 13) (oi := { dst := some 28, op := Op.move (Operand.tmp 41), type := 26, pos := "ref.go:185", after := #[{ on := 12, ground := Ground.data }], guard := none }) (v := ?_) rfl (by kernel_rfl) (by kernel_rfl) (by kernel_rfl) (fun _ _ _ h => h) (Or.inl ⟨by rfl, ?_⟩) hHeld ?_
  rotate_left
  · intro w' hSw; (try dsimp only at hSw); go_simp <;> with_reducible rfl
  try simp only [Act.put, List.setIfInBounds_toArray, List.set_cons_zero, List.set_cons_succ]
  refine wpAnyH_take (i := 14) (oi := { dst := some 42, op := Op.extract (Operand.tmp 28) 0, type := 24, pos := "ref.go:185", after := #[{ on := 13, ground := Ground.data }], guard := none }) (v := ?_) rfl (by kernel_rfl) (by kernel_rfl) (by kernel_rfl) (fun _ _ _ h => h) (Or.inl ⟨by rfl, ?_⟩) hHeld ?_
  rotate_left
  · intro w' hSw; (try dsimp only at hSw); go_simp <;> with_reducible rfl
  try simp only [Act.put, List.setIfInBounds_toArray, List.set_cons_zero, List.set_cons_succ]
  refine wpAnyH_take (i := 15) (oi := { dst := some 43, op := Op.extract (Operand.tmp 28) 1, type := 25, pos := "ref.go:185", after := #[{ on := 13, ground := Ground.data }, { on := 16, ground := Ground.gcOnly Departure.lateStores }], guard := none }) (v := ?_) rfl (by kernel_rfl) (by kernel_rfl) (by kernel_rfl) (fun _ _ _ h => h) (Or.inl ⟨by rfl, ?_⟩) hHeld ?_
  rotate_left
  · intro w' hSw; (try dsimp only at hSw); go_simp <;> with_reducible rfl
  try simp only [Act.put, List.setIfInBounds_toArray, List.set_cons_zero, List.set_cons_succ]
  obtain ⟨p, q, hq⟩ := hHeld.2.2.2.2.1
  refine wpAnyH_ready (rs := [16]) (by kernel_rfl) (by simp) ?_
  refine AllReadyH.cons (o := { dst := none, op := Op.store 24 (Operand.tmp 4) (Operand.tmp 42), type := 0, pos := "ref.go:185", after := #[{ on := 14, ground := Ground.data }, { on := 12, ground := Ground.chain }, { on := 0, ground := Ground.phase }, { on := 1, ground := Ground.phase }, { on := 2, ground := Ground.phase }, { on := 3, ground := Ground.phase }, { on := 4, ground := Ground.phase }, { on := 5, ground := Ground.phase }, { on := 6, ground := Ground.phase }, { on := 7, ground := Ground.phase }, { on := 8, ground := Ground.phase }, { on := 9, ground := Ground.phase }, { on := 10, ground := Ground.phase }, { on := 11, ground := Ground.phase }, { on := 12, ground := Ground.phase }, { on := 13, ground := Ground.phase }, { on := 14, ground := Ground.phase }, { on := 15, ground := Ground.textOnly Departure.lateStores }], guard := none }) rfl (fun K hK => ?_) AllReadyH.nil
  refine (if_pos (by rfl)).mpr ?_
  refine wp_store_row 24 _ _ rfl (w.heap.size + 1 + 1) #[.int .i64 qh, .int .u64 ql] rfl rfl 24 #[.int .i64 p, .int .u64 q] hq size_W rfl (by simp [Value.oneCell']) ?_
  replace hq := hq.putRow #[.int .i64 qh, .int .u64 ql]
  refine hK.out _ _ (MK.out _ ((hHeld.1).farRow (by omega) #[.int .i64 qh, .int .u64 ql]) ((hHeld.2.1).farRow (by omega) #[.int .i64 qh, .int .u64 ql]) ((hHeld.2.2.1).farRow (by omega) #[.int .i64 qh, .int .u64 ql]) ((hHeld.2.2.2.1).farRow (by omega) #[.int .i64 qh, .int .u64 ql]) (⟨_, _, hq⟩) ((hHeld.2.2.2.2.2.1).farRow (by omega) #[.int .i64 qh, .int .u64 ql]) ((hHeld.2.2.2.2.2.2.1).setRow (by omega) #[.int .i64 qh, .int .u64 ql])) (fun hHeld => ?_)
  clear hK K
  try simp only [Act.put, List.setIfInBounds_toArray, List.set_cons_zero, List.set_cons_succ]
  refine wpAnyH_take (i := 17) (oi := { dst := some 6, op := Op.assign (Operand.tmp 43), type := 25, pos := "ref.go:185", after := #[{ on := 15, ground := Ground.data }, { on := 16, ground := Ground.chain }, { on := 0, ground := Ground.phase }, { on := 1, ground := Ground.phase }, { on := 2, ground := Ground.phase }, { on := 3, ground := Ground.phase }, { on := 4, ground := Ground.phase }, { on := 5, ground := Ground.phase }, { on := 6, ground := Ground.phase }, { on := 7, ground := Ground.phase }, { on := 8, ground := Ground.phase }, { on := 9, ground := Ground.phase }, { on := 10, ground := Ground.phase }, { on := 11, ground := Ground.phase }, { on := 12, ground := Ground.phase }, { on := 13, ground := Ground.phase }, { on := 14, ground := Ground.phase }, { on := 15, ground := Ground.phase }, { on := 16, ground := Ground.phase }], guard := none }) (v := ?_) rfl (by kernel_rfl) (by kernel_rfl) (by kernel_rfl) (fun _ _ _ h => h) (Or.inl ⟨by rfl, ?_⟩) hHeld ?_
  rotate_left
  · intro w' hSw; (try dsimp only at hSw); go_simp <;> with_reducible rfl
  try simp only [Act.put, List.setIfInBounds_toArray, List.set_cons_zero, List.set_cons_succ]
  refine wpAnyH_done (by kernel_rfl) ?_ _
  refine NoPanic.normal ?_
  replace r7 := hHeld.1
  replace r10 := hHeld.2.2.2.1
  replace rr := hHeld.2.2.2.2.2.1
  replace hU := hHeld.2.2.2.2.2.2.1
  clear rq r8 r9 MK hHeld
  have rq := hq
  clear hq
  go_upto_region 9 with fail
  have MK : ∀ W, Row W (g7) 76 C1 → Row W (g9 + 1) 74 E4 → Row W (w.heap.size + 1 + 1) 24 #[.int .i64 qh, .int .u64 ql] → (∃ p q : Int, Row W (w.heap.size + 1 + 1 + 1) 24 #[.int .i64 p, .int .u64 q]) → Up w.heap.size w W → Row W (g7) 76 C1 ∧ Row W (g9 + 1) 74 E4 ∧ Row W (w.heap.size + 1 + 1) 24 #[.int .i64 qh, .int .u64 ql] ∧ (∃ p q : Int, Row W (w.heap.size + 1 + 1 + 1) 24 #[.int .i64 p, .int .u64 q]) ∧ Up w.heap.size w W ∧ W.cell? ⟨g7, 0, none⟩ = some (.bool true) := fun W k0 k1 k2 k3 k4 => ⟨k0, k1, k2, k3, k4, by rw [k0.cell, zeroC H1]⟩
  have MK := hid MK
  refine wp_region_noPanic ?_
  refine wp_region_held_drew (S := fun W => Row W (g7) 76 C1 ∧ Row W (g9 + 1) 74 E4 ∧ Row W (w.heap.size + 1 + 1) 24 #[.int .i64 qh, .int .u64 ql] ∧ (∃ p q : Int, Row W (w.heap.size + 1 + 1 + 1) 24 #[.int .i64 p, .int .u64 q]) ∧ Up w.heap.size w W ∧ W.cell? ⟨g7, 0, none⟩ = some (.bool true)) (by kernel_rfl) (MK.out _ r7.drew r10.drew rq.drew ⟨_, _, rr.drew⟩ hU.drew) (fun hHeld => ?_)
  refine wpAnyH_take (i := 0) (oi := { dst := some 50, op := Op.fieldAddr 76 (Operand.tmp 7) 0, type := 0, pos := "ref.go:189", after := #[], guard := none }) (v := ?_) rfl (by kernel_rfl) (by kernel_rfl) (by kernel_rfl) (fun _ _ _ h => h) (Or.inl ⟨by rfl, ?_⟩) hHeld ?_
  rotate_left
  · intro w' hSw; (try dsimp only at hSw); go_simp <;> with_reducible rfl
  try simp only [Act.put, List.setIfInBounds_toArray, List.set_cons_zero, List.set_cons_succ]
  refine wpAnyH_take (i := 1) (oi := { dst := some 51, op := Op.load 4 (Operand.tmp 50), type := 4, pos := "ref.go:189", after := #[{ on := 0, ground := Ground.data }], guard := none }) (v := ?_) rfl (by kernel_rfl) (by kernel_rfl) (by kernel_rfl) (fun _ _ _ h => h) (Or.inl ⟨by rfl, ?_⟩) hHeld ?_
  rotate_left
  · intro w' hSw; (try dsimp only at hSw); go_simp <;> with_reducible rfl
  try simp only [Act.put, List.setIfInBounds_toArray, List.set_cons_zero, List.set_cons_succ]
  refine wpAnyH_take (i := 2) (oi := { dst := some 52, op := Op.move (Operand.tmp 51), type := 4, pos := "ref.go:189", after := #[{ on := 1, ground := Ground.data }], guard := none }) (v := ?_) rfl (by kernel_rfl) (by kernel_rfl) (by kernel_rfl) (fun _ _ _ h => h) (Or.inl ⟨by rfl, ?_⟩) hHeld ?_
  rotate_left
  · intro w' hSw; (try dsimp only at hSw); go_simp <;> with_reducible rfl
  try simp only [Act.put, List.setIfInBounds_toArray, List.set_cons_zero, List.set_cons_succ]
  refine wpAnyH_take (i := 3) (oi := { dst := some 53, op := Op.load 74 (Operand.tmp 10), type := 74, pos := "ref.go:189", after := #[{ on := 2, ground := Ground.guard }], guard := some (2, true) }) (v := .agg E4) rfl (by kernel_rfl) (by kernel_rfl) (by kernel_rfl) (fun _ _ _ h => h) (Or.inl ⟨by rfl, fun W hW => exec_load_row 74 _ rfl (g9 + 1) rfl 74 E4 _ Tryd.underlying74 rfl (size_De HE4) W hW.2.1⟩) hHeld ?_
  try simp only [Act.put, List.setIfInBounds_toArray, List.set_cons_zero, List.set_cons_succ]
  refine wpAnyH_take (i := 7) (oi := { dst := some 57, op := Op.load 74 (Operand.tmp 10), type := 74, pos := "ref.go:189", after := #[], guard := none }) (v := .agg E4) rfl (by kernel_rfl) (by kernel_rfl) (by kernel_rfl) (fun _ _ _ h => h) (Or.inl ⟨by rfl, fun W hW => exec_load_row 74 _ rfl (g9 + 1) rfl 74 E4 _ Tryd.underlying74 rfl (size_De HE4) W hW.2.1⟩) hHeld ?_
  try simp only [Act.put, List.setIfInBounds_toArray, List.set_cons_zero, List.set_cons_succ]
  refine wpAnyH_ready (rs := [4]) (by kernel_rfl) (by simp) ?_
  refine AllReadyH.cons (o := { dst := some 54, op := Op.call { callee := Callee.value (Operand.func 64), args := #[Operand.tmp 53], argTypes := #[74] }, type := 4, pos := "ref.go:189", after := #[{ on := 3, ground := Ground.data }, { on := 2, ground := Ground.chain }, { on := 2, ground := Ground.guard }], guard := some (2, true) }) rfl (fun K hK => ?_) AllReadyH.nil
  go_simp
  refine Calls.mono (HZL.out _) ?_; rintro e w7 ⟨rfl, hb⟩
  refine hK.out _ _ (MK.out _ ((hHeld.1).mod (Mod.of_below hb Nil) (fun hf => hf)) ((hHeld.2.1).mod (Mod.of_below hb Nil) (fun hf => hf)) ((hHeld.2.2.1).mod (Mod.of_below hb Nil) (fun hf => hf)) ((by obtain ⟨p, q, h1⟩ := hHeld.2.2.2.1; exact ⟨p, q, (h1).mod (Mod.of_below hb Nil) (fun hf => hf)⟩)) ((hHeld.2.2.2.2.1).trans hb)) (fun hHeld => ?_)
  clear hK K
  try simp only [Act.put, List.setIfInBounds_toArray, List.set_cons_zero, List.set_cons_succ]
  refine wpAnyH_take (i := 5) (oi := { dst := some 55, op := Op.unOp UnOp.not 4 (Operand.tmp 54), type := 4, pos := "ref.go:189", after := #[{ on := 4, ground := Ground.data }, { on := 2, ground := Ground.guard }], guard := some (2, true) }) (v := ?_) rfl (by kernel_rfl) (by kernel_rfl) (by kernel_rfl) (fun _ _ _ h => h) (Or.inl ⟨by rfl, ?_⟩) hHeld ?_
  rotate_left
  · intro w' hSw; (try dsimp only at hSw); go_simp <;> with_reducible rfl
  try simp only [Act.put, List.setIfInBounds_toArray, List.set_cons_zero, List.set_cons_succ]
  refine wpAnyH_take (i := 6) (oi := { dst := some 56, op := Op.pick (Operand.tmp 52) (Operand.tmp 55) (Operand.const (Value.bool false)), type := 4, pos := "ref.go:189", after := #[{ on := 2, ground := Ground.data }, { on := 5, ground := Ground.data }], guard := none }) (v := ?_) rfl (by kernel_rfl) (by kernel_rfl) (by kernel_rfl) (fun _ _ _ h => h) (Or.inl ⟨by rfl, ?_⟩) hHeld ?_
  rotate_left
  · intro w' hSw; (try dsimp only at hSw); go_simp <;> with_reducible rfl
  try simp only [Act.put, List.setIfInBounds_toArray, List.set_cons_zero, List.set_cons_succ]
  refine wpAnyH_take (i := 8) (oi := { dst := some 58, op := Op.build 76 #[(0, Operand.tmp 56), (1, Operand.tmp 57)], type := 76, pos := "ref.go:189", after := #[{ on := 6, ground := Ground.data }, { on := 7, ground := Ground.data }], guard := none }) (v := .agg C4) rfl (by kernel_rfl) (by kernel_rfl) (by kernel_rfl) (fun _ _ _ h => h) (Or.inl ⟨by rfl, fun W hW => exec_build_C H4 HE4 _ _ rfl rfl rfl⟩) hHeld ?_
  try simp only [Act.put, List.setIfInBounds_toArray, List.set_cons_zero, List.set_cons_succ]
  refine wpAnyH_ready (rs := [9]) (by kernel_rfl) (by simp) ?_
  refine AllReadyH.cons (o := { dst := some 59, op := Op.call { callee := Callee.value (Operand.func 54), args := #[Operand.tmp 58], argTypes := #[76] }, type := 26, pos := "ref.go:189", after := #[{ on := 8, ground := Ground.data }, { on := 4, ground := Ground.chain }], guard := none }) rfl (fun K hK => ?_) AllReadyH.nil
  go_simp
  refine Calls.mono (HWR.out _) ?_; rintro e w8 ⟨rfl, hb⟩
  refine hK.out _ _ (MK.out _ ((hHeld.1).mod (Mod.of_below hb Nil) (fun hf => hf)) ((hHeld.2.1).mod (Mod.of_below hb Nil) (fun hf => hf)) ((hHeld.2.2.1).mod (Mod.of_below hb Nil) (fun hf => hf)) ((by obtain ⟨p, q, h1⟩ := hHeld.2.2.2.1; exact ⟨p, q, (h1).mod (Mod.of_below hb Nil) (fun hf => hf)⟩)) ((hHeld.2.2.2.2.1).trans hb)) (fun hHeld => ?_)
  clear hK K
  try simp only [Act.put, List.setIfInBounds_toArray, List.set_cons_zero, List.set_cons_succ]
  refine wpAnyH_take (i := 10) (oi := { dst := some 49, op := Op.move (Operand.tmp 59), type := 26, pos := "ref.go:189", after := #[{ on := 9, ground := Ground.data }], guard := none }) (v := ?_) rfl (by kernel_rfl) (by kernel_rfl) (by kernel_rfl) (fun _ _ _ h => h) (Or.inl ⟨by rfl, ?_⟩) hHeld ?_
  rotate_left
  · intro w' hSw; (try dsimp only at hSw); go_simp <;> with_reducible rfl
  try simp only [Act.put, List.setIfInBounds_toArray, List.set_cons_zero, List.set_cons_succ]
  refine wpAnyH_take (i := 11) (oi := { dst := some 60, op := Op.extract (Operand.tmp 49) 0, type := 24, pos := "ref.go:189", after := #[{ on := 10, ground := Ground.data }], guard := none }) (v := ?_) rfl (by kernel_rfl) (by kernel_rfl) (by kernel_rfl) (fun _ _ _ h => h) (Or.inl ⟨by rfl, ?_⟩) hHeld ?_
  rotate_left
  · intro w' hSw; (try dsimp only at hSw); go_simp <;> with_reducible rfl
  try simp only [Act.put, List.setIfInBounds_toArray, List.set_cons_zero, List.set_cons_succ]
  refine wpAnyH_take (i := 12) (oi := { dst := some 61, op := Op.extract (Operand.tmp 49) 1, type := 25, pos := "ref.go:189", after := #[{ on := 10, ground := Ground.data }, { on := 13, ground := Ground.gcOnly Departure.lateStores }], guard := none }) (v := ?_) rfl (by kernel_rfl) (by kernel_rfl) (by kernel_rfl) (fun _ _ _ h => h) (Or.inl ⟨by rfl, ?_⟩) hHeld ?_
  rotate_left
  · intro w' hSw; (try dsimp only at hSw); go_simp <;> with_reducible rfl
  try simp only [Act.put, List.setIfInBounds_toArray, List.set_cons_zero, List.set_cons_succ]
  obtain ⟨p, q, hq⟩ := hHeld.2.2.2.1
  refine wpAnyH_ready (rs := [13]) (by kernel_rfl) (by simp) ?_
  refine AllReadyH.cons (o := { dst := none, op := Op.store 24 (Operand.tmp 5) (Operand.tmp 60), type := 0, pos := "ref.go:189", after := #[{ on := 11, ground := Ground.data }, { on := 9, ground := Ground.chain }, { on := 0, ground := Ground.phase }, { on := 1, ground := Ground.phase }, { on := 2, ground := Ground.phase }, { on := 3, ground := Ground.phase }, { on := 4, ground := Ground.phase }, { on := 5, ground := Ground.phase }, { on := 6, ground := Ground.phase }, { on := 7, ground := Ground.phase }, { on := 8, ground := Ground.phase }, { on := 9, ground := Ground.phase }, { on := 10, ground := Ground.phase }, { on := 11, ground := Ground.phase }, { on := 12, ground := Ground.textOnly Departure.lateStores }], guard := none }) rfl (fun K hK => ?_) AllReadyH.nil
  refine (if_pos (by rfl)).mpr ?_
  refine wp_store_row 24 _ _ rfl (w.heap.size + 1 + 1 + 1) #[.int .i64 rh, .int .u64 rl] rfl rfl 24 #[.int .i64 p, .int .u64 q] hq size_W rfl (by simp [Value.oneCell']) ?_
  replace hq := hq.putRow #[.int .i64 rh, .int .u64 rl]
  refine hK.out _ _ (MK.out _ ((hHeld.1).farRow (by omega) #[.int .i64 rh, .int .u64 rl]) ((hHeld.2.1).farRow (by omega) #[.int .i64 rh, .int .u64 rl]) ((hHeld.2.2.1).farRow (by omega) #[.int .i64 rh, .int .u64 rl]) (⟨_, _, hq⟩) ((hHeld.2.2.2.2.1).setRow (by omega) #[.int .i64 rh, .int .u64 rl])) (fun hHeld => ?_)
  clear hK K
  try simp only [Act.put, List.setIfInBounds_toArray, List.set_cons_zero, List.set_cons_succ]
  refine wpAnyH_done (by kernel_rfl) ?_ _
  refine NoPanic.normal ?_
  replace rq := hHeld.2.2.1
  replace hU := hHeld.2.2.2.2.1
  clear rr r7 r10 MK hHeld
  have rr := hq
  clear hq
  go_upto_region 10 with fail
  obtain ⟨V9, hV9⟩ : ∃ V9, V9 = w8.setRow (w.heap.size + 1 + 1 + 1) #[.int .i64 rh, .int .u64 rl] := ⟨_, rfl⟩
  rw [← hV9] at rq rr hU ⊢
  clear hV9
  refine wp_region_noPanic ?_
  refine wp_region_held_drew (S := fun W => W = V9.drew) (by kernel_rfl) (rfl) (fun hHeld => ?_)
  refine wpAnyH_take (i := 0) (oi := { dst := some 62, op := Op.load 24 (Operand.tmp 4), type := 24, pos := "ref.go:190", after := #[], guard := none }) (v := .agg #[.int .i64 qh, .int .u64 ql]) rfl (by kernel_rfl) (by kernel_rfl) (by kernel_rfl) (fun _ _ _ h => h) (Or.inl ⟨by rfl, fun W hW => exec_load_row 24 _ rfl (w.heap.size + 1 + 1) rfl 24 #[.int .i64 qh, .int .u64 ql] _ Tryd.underlying24 rfl size_W W (by rw [hW]; exact rq.drew)⟩) hHeld ?_
  try simp only [Act.put, List.setIfInBounds_toArray, List.set_cons_zero, List.set_cons_succ]
  refine wpAnyH_take (i := 1) (oi := { dst := some 63, op := Op.load 24 (Operand.tmp 5), type := 24, pos := "ref.go:190", after := #[{ on := 2, ground := Ground.gcOnly Departure.lateStores }], guard := none }) (v := .agg #[.int .i64 rh, .int .u64 rl]) rfl (by kernel_rfl) (by kernel_rfl) (by kernel_rfl) (fun _ _ _ h => h) (Or.inl ⟨by rfl, fun W hW => exec_load_row 24 _ rfl (w.heap.size + 1 + 1 + 1) rfl 24 #[.int .i64 rh, .int .u64 rl] _ Tryd.underlying24 rfl size_W W (by rw [hW]; exact rr.drew)⟩) hHeld ?_
  try simp only [Act.put, List.setIfInBounds_toArray, List.set_cons_zero, List.set_cons_succ]
  refine wpAnyH_ready (rs := [2]) (by kernel_rfl) (by simp) ?_
  refine AllReadyH.cons (o := { dst := none, op := Op.store 24 (Operand.tmp 4) (Operand.tmp 62), type := 0, pos := "ref.go:190", after := #[{ on := 0, ground := Ground.data }, { on := 0, ground := Ground.phase }, { on := 1, ground := Ground.textOnly Departure.lateStores }], guard := none }) rfl (fun K hK => ?_) AllReadyH.nil
  refine (if_pos (by rfl)).mpr ?_
  refine wp_store_row 24 _ _ rfl (w.heap.size + 1 + 1) #[.int .i64 qh, .int .u64 ql] rfl rfl 24 #[.int .i64 qh, .int .u64 ql] rq.drew size_W rfl (by simp [Value.oneCell']) ?_
  rw [Row.setRow_same rq.drew]
  refine hK.out _ _ (rfl) (fun hHeld => ?_)
  clear hK K
  try simp only [Act.put, List.setIfInBounds_toArray, List.set_cons_zero, List.set_cons_succ]
  refine wpAnyH_ready (rs := [3]) (by kernel_rfl) (by simp) ?_
  refine AllReadyH.cons (o := { dst := none, op := Op.store 24 (Operand.tmp 5) (Operand.tmp 63), type := 0, pos := "ref.go:190", after := #[{ on := 1, ground := Ground.data }, { on := 2, ground := Ground.chain }, { on := 0, ground := Ground.phase }, { on := 1, ground := Ground.phase }, { on := 2, ground := Ground.phase }], guard := none }) rfl (fun K hK => ?_) AllReadyH.nil
  refine (if_pos (by rfl)).mpr ?_
  refine wp_store_row 24 _ _ rfl (w.heap.size + 1 + 1 + 1) #[.int .i64 rh, .int .u64 rl] rfl rfl 24 #[.int .i64 rh, .int .u64 rl] rr.drew size_W rfl (by simp [Value.oneCell']) ?_
  rw [Row.setRow_same rr.drew]
  refine hK.out _ _ (rfl) (fun hHeld => ?_)
  clear hK K
  try simp only [Act.put, List.setIfInBounds_toArray, List.set_cons_zero, List.set_cons_succ]
  refine wpAnyH_take (i := 4) (oi := { dst := some 6, op := Op.assign (Operand.const (Value.int IntKind.i64 0)), type := 25, pos := "ref.go:190", after := #[{ on := 3, ground := Ground.chain }, { on := 0, ground := Ground.phase }, { on := 1, ground := Ground.phase }, { on := 2, ground := Ground.phase }, { on := 3, ground := Ground.phase }], guard := none }) (v := ?_) rfl (by kernel_rfl) (by kernel_rfl) (by kernel_rfl) (fun _ _ _ h => h) (Or.inl ⟨by rfl, ?_⟩) hHeld ?_
  rotate_left
  · intro w' hSw; (try dsimp only at hSw); go_simp <;> with_reducible rfl
  try simp only [Act.put, List.setIfInBounds_toArray, List.set_cons_zero, List.set_cons_succ]
  refine wpAnyH_done (by kernel_rfl) ?_ _
  refine NoPanic.normal ?_
  go_wp2_with fail
  have r1 := run_loadVar_row (P := Tryd.prog) V9.drew (w.heap.size + 1 + 1) 24 24 #[.int .i64 qh, .int .u64 ql] (0, 0) _ rq.drew Tryd.underlying24 rfl size_W
  have r2 := run_loadVar_row (P := Tryd.prog) V9.drew (w.heap.size + 1 + 1 + 1) 24 24 #[.int .i64 rh, .int .u64 rl] (0, 0) _ rr.drew Tryd.underlying24 rfl size_W
  exact bodyPost_ret (v := .tuple #[.agg #[.int .i64 qh, .int .u64 ql], .agg #[.int .i64 rh, .int .u64 rl], .int .i64 0]) (by simp [results, Tryd.results32, asAddr, r1, r2]) rfl ⟨rfl, hU.drew.below⟩

set_option maxRecDepth 100000 in
set_option maxHeartbeats 4000000 in
theorem rdiv_over (w : World) (x y : Int) (hx : Fits x) (hy : Fits y) (h0 : y ≠ 0) (ha : decide (x < 0) = true) (hbn : decide (y < 0) = true) (k l : Nat) (hk : x.natAbs / y.natAbs = k) (hl : x.natAbs % y.natAbs = l) (qf : ¬ Fits ((k : Int))) : Calls Tryd.prog 32 #[WV x, WV y] w fun e w' => e = .returned (.tuple #[.agg #[.int .i64 0, .int .u64 0], .agg #[.int .i64 0, .int .u64 0], .int .i64 20]) ∧ Below w.heap.size w w' := by
  have O1 := fun w => rof_any w x hx
  have O2 := fun w => rof_any w y hy
  have ZY := fun w => rzero_any w y.natAbs (Nat.lt_of_lt_of_le (fits_small hy) (BP_le (by decide)))
  obtain ⟨xh, xl, e1⟩ : ∃ hi lo : Int, WV x = .agg #[.int .i64 hi, .int .u64 lo] := ⟨_, _, rfl⟩
  obtain ⟨yh, yl, e2⟩ : ∃ hi lo : Int, WV y = .agg #[.int .i64 hi, .int .u64 lo] := ⟨_, _, rfl⟩
  have sx := fits_small hx
  have sy := fits_small hy
  have QD := fun w => rdiv_any w x.natAbs y.natAbs (Nat.lt_of_lt_of_le sx (BP_le (by decide))) (Nat.lt_of_lt_of_le sy (BP_le (by decide))) (by omega)
  rw [hk, hl] at QD
  have bk : k < BP 16 := by rw [← hk]; exact Nat.lt_of_le_of_lt (Nat.div_le_self _ _) (Nat.lt_of_lt_of_le sx (BP_le (by decide)))
  have bl : l < BP 16 := by rw [← hl]; exact Nat.lt_of_le_of_lt (Nat.mod_le _ _) (Nat.lt_of_lt_of_le sx (BP_le (by decide)))
  have ZK := fun w => rzero_any w k bk
  have ZL := fun w => rzero_any w l bl
  have WQ := fun w => rwide_any w ((k : Int)) (by omega)
  have WR := fun w => rwide_any w (-(l : Int)) (by omega)
  rw [show decide (y.natAbs = 0) = false by simp; omega] at ZY
  rw [resV_over qf] at WQ
  rw [← pos_big] at WQ
  rw [← neg_big] at WR
  obtain ⟨z, hz⟩ : ∃ z, z = decide (k = 0) := ⟨_, rfl⟩
  obtain ⟨zr, hzr⟩ : ∃ z, z = decide (l = 0) := ⟨_, rfl⟩
  rw [← hz] at ZK
  rw [← hzr] at ZL
  rw [← hzr] at WR
  have e0 : WV 0 = .agg #[.int .i64 0, .int .u64 0] := by kernel_rfl
  rw [e0] at WQ
  rw [e1] at O1
  rw [e2] at O2
  rw [e1, e2]
  unfold BigZ at O1 O2
  rw [ha] at O1
  rw [hbn] at O2
  unfold BigV at O1 O2 WQ WR
  unfold DV at ZY QD ZK ZL
  obtain ⟨C1, hC1⟩ : ∃ X, X = bigs true x.natAbs := ⟨_, rfl⟩
  obtain ⟨C2, hC2⟩ : ∃ X, X = bigs true y.natAbs := ⟨_, rfl⟩
  obtain ⟨E1, hE1⟩ : ∃ X, X = digs x.natAbs := ⟨_, rfl⟩
  obtain ⟨E2, hE2⟩ : ∃ X, X = digs y.natAbs := ⟨_, rfl⟩
  obtain ⟨E3, hE3⟩ : ∃ X, X = digs k := ⟨_, rfl⟩
  obtain ⟨E4, hE4⟩ : ∃ X, X = digs l := ⟨_, rfl⟩
  obtain ⟨C3, hC3⟩ : ∃ X, X = bigs false k := ⟨_, rfl⟩
  obtain ⟨C4, hC4⟩ : ∃ X, X = bigs (!zr) l := ⟨_, rfl⟩
  rw [← hC1] at O1
  rw [← hC2] at O2
  rw [← hE2] at ZY
  rw [← hE1, ← hE2, ← hE3, ← hE4] at QD
  rw [← hE3] at ZK
  rw [← hE4] at ZL
  rw [← hC3] at WQ
  rw [← hC4] at WR
  have H1 := hid hC1
  have H2 := hid hC2
  have H3 := hid hC3
  have H4 := hid hC4
  have HE1 := hid hE1
  have HE2 := hid hE2
  have HE3 := hid hE3
  have HE4 := hid hE4
  have HO1 := hid O1
  have HO2 := hid O2
  have HZY := hid ZY
  have HQD := hid QD
  have HZK := hid ZK
  have HZL := hid ZL
  have HWQ := hid WQ
  have HWR := hid WR
  clear O1 O2 ZY QD ZK ZL WQ WR e0 e1 e2 hC1 hC2 hC3 hC4 hE1 hE2 hE3 hE4 hx hy h0 ha hbn hk hl bk bl sx sy hz hzr qf
  have rx := (((Row.new w 24 #[.int .i64 xh, .int .u64 xl]).alloc (.cells #[.int .i64 yh, .int .u64 yl] 24)).alloc (.cells #[.int .i64 0, .int .u64 0] 24)).alloc (.cells #[.int .i64 0, .int .u64 0] 24)
  have ry := ((Row.new (w.alloc (.cells #[.int .i64 xh, .int .u64 xl] 24)) 24 #[.int .i64 yh, .int .u64 yl]).alloc (.cells #[.int .i64 0, .int .u64 0] 24)).alloc (.cells #[.int .i64 0, .int .u64 0] 24)
  have rq := (Row.new ((w.alloc (.cells #[.int .i64 xh, .int .u64 xl] 24)).alloc (.cells #[.int .i64 yh, .int .u64 yl] 24)) 24 #[.int .i64 0, .int .u64 0]).alloc (.cells #[.int .i64 0, .int .u64 0] 24)
  have rr := Row.new (((w.alloc (.cells #[.int .i64 xh, .int .u64 xl] 24)).alloc (.cells #[.int .i64 yh, .int .u64 yl] 24)).alloc (.cells #[.int .i64 0, .int .u64 0] 24)) 24 #[.int .i64 0, .int .u64 0]
  have hU := ((((Up.refl w).alloc (.cells #[.int .i64 xh, .int .u64 xl] 24)).alloc (.cells #[.int .i64 yh, .int .u64 yl] 24)).alloc (.cells #[.int .i64 0, .int .u64 0] 24)).alloc (.cells #[.int .i64 0, .int .u64 0] 24)
  simp only [alloc_size] at ry rq rr
  go_enter Tryd.func32, Tryd.ntmps32
  go_upto_region 1 with fail
  obtain ⟨V, hV⟩ : ∃ V, V = (((w.alloc (.cells #[.int .i64 xh, .int .u64 xl] 24)).alloc (.cells #[.int .i64 yh, .int .u64 yl] 24)).alloc (.cells #[.int .i64 0, .int .u64 0] 24)).alloc (.cells #[.int .i64 0, .int .u64 0] 24) := ⟨_, rfl⟩
  rw [← hV] at rx ry rq rr hU ⊢
  clear hV
  have cx0 : V.cell? ⟨w.heap.size, 0, none⟩ = some (.int .i64 xh) := by simpa using rx.cell 0
  have cx1 : V.cell? ⟨w.heap.size, 1, none⟩ = some (.int .u64 xl) := by simpa using rx.cell 1
  go_wp2_with fail
  refine Calls.mono (HO1.out _) ?_; rintro e w1 ⟨rfl, hb⟩
  have z1 := hb.size
  have l1 := rr.lt
  clear cx0 cx1
  replace rx := (rx).mod (Mod.of_below hb Nil) (fun hf => hf)
  replace ry := (ry).mod (Mod.of_below hb Nil) (fun hf => hf)
  replace rq := (rq).mod (Mod.of_below hb Nil) (fun hf => hf)
  replace rr := (rr).mod (Mod.of_below hb Nil) (fun hf => hf)
  replace hU := hU.trans hb
  clear hb
  have r7 := (Row.new w1 76 #[.bool false, .int .u64 0, .int .u64 0, .int .u64 0, .int .u64 0, .int .u64 0, .int .u64 0, .int .u64 0, .int .u64 0, .int .u64 0, .int .u64 0, .int .u64 0, .int .u64 0, .int .u64 0, .int .u64 0, .int .u64 0, .int .u64 0]).putRow C1
  replace rx := (rx.alloc (.cells #[.bool false, .int .u64 0, .int .u64 0, .int .u64 0, .int .u64 0, .int .u64 0, .int .u64 0, .int .u64 0, .int .u64 0, .int .u64 0, .int .u64 0, .int .u64 0, .int .u64 0, .int .u64 0, .int .u64 0, .int .u64 0, .int .u64 0] 76)).farRow (g' := w1.heap.size) (by omega) C1
  replace ry := (ry.alloc (.cells #[.bool false, .int .u64 0, .int .u64 0, .int .u64 0, .int .u64 0, .int .u64 0, .int .u64 0, .int .u64 0, .int .u64 0, .int .u64 0, .int .u64 0, .int .u64 0, .int .u64 0, .int .u64 0, .int .u64 0, .int .u64 0, .int .u64 0] 76)).farRow (g' := w1.heap.size) (by omega) C1
  replace rq := (rq.alloc (.cells #[.bool false, .int .u64 0, .int .u64 0, .int .u64 0, .int .u64 0, .int .u64 0, .int .u64 0, .int .u64 0, .int .u64 0, .int .u64 0, .int .u64 0, .int .u64 0, .int .u64 0, .int .u64 0, .int .u64 0, .int .u64 0, .int .u64 0] 76)).farRow (g' := w1.heap.size) (by omega) C1
  replace rr := (rr.alloc (.cells #[.bool false, .int .u64 0, .int .u64 0, .int .u64 0, .int .u64 0, .int .u64 0, .int .u64 0, .int .u64 0, .int .u64 0, .int .u64 0, .int .u64 0, .int .u64 0, .int .u64 0, .int .u64 0, .int .u64 0, .int .u64 0, .int .u64 0] 76)).farRow (g' := w1.heap.size) (by omega) C1
  replace hU := (hU.alloc (.cells #[.bool false, .int .u64 0, .int .u64 0, .int .u64 0, .int .u64 0, .int .u64 0, .int .u64 0, .int .u64 0, .int .u64 0, .int .u64 0, .int .u64 0, .int .u64 0, .int .u64 0, .int .u64 0, .int .u64 0, .int .u64 0, .int .u64 0] 76)).setRow (p := w1.heap.size) (by omega) C1
  go_upto_region 2 with (refine wpList_store_row rfl 76 _ _ rfl (w1.heap.size) C1 rfl rfl 76 #[.bool false, .int .u64 0, .int .u64 0, .int .u64 0, .int .u64 0, .int .u64 0, .int .u64 0, .int .u64 0, .int .u64 0, .int .u64 0, .int .u64 0, .int .u64 0, .int .u64 0, .int .u64 0, .int .u64 0, .int .u64 0, .int .u64 0] (Row.new w1 76 #[.bool false, .int .u64 0, .int .u64 0, .int .u64 0, .int .u64 0, .int .u64 0, .int .u64 0, .int .u64 0, .int .u64 0, .int .u64 0, .int .u64 0, .int .u64 0, .int .u64 0, .int .u64 0, .int .u64 0, .int .u64 0, .int .u64 0]) (size_Bn (sizeC H1)) (by rw [sizeC H1]; rfl) (oneC H1) ?_)
  obtain ⟨V1, hV1⟩ : ∃ V1, V1 = (w1.alloc (.cells #[.bool false, .int .u64 0, .int .u64 0, .int .u64 0, .int .u64 0, .int .u64 0, .int .u64 0, .int .u64 0, .int .u64 0, .int .u64 0, .int .u64 0, .int .u64 0, .int .u64 0, .int .u64 0, .int .u64 0, .int .u64 0, .int .u64 0] 76)).setRow w1.heap.size C1 := ⟨_, rfl⟩
  rw [← hV1] at rx ry rq rr r7 hU ⊢
  have zv1 : V1.heap.size = w1.heap.size + 1 := by rw [hV1, setRow_size, alloc_size]
  clear hV1
  obtain ⟨g7, hg7⟩ : ∃ g, g = w1.heap.size := ⟨_, rfl⟩
  rw [← hg7] at r7 z1 zv1 ⊢
  clear hg7
  have cx0 : V1.cell? ⟨w.heap.size + 1, 0, none⟩ = some (.int .i64 yh) := by simpa using ry.cell 0
  have cx1 : V1.cell? ⟨w.heap.size + 1, 1, none⟩ = some (.int .u64 yl) := by simpa using ry.cell 1
  go_wp2_with fail
  refine Calls.mono (HO2.out _) ?_; rintro e w2 ⟨rfl, hb⟩
  have z2 := hb.size
  clear cx0 cx1
  replace rx := (rx).mod (Mod.of_below hb Nil) (fun hf => hf)
  replace ry := (ry).mod (Mod.of_below hb Nil) (fun hf => hf)
  replace rq := (rq).mod (Mod.of_below hb Nil) (fun hf => hf)
  replace rr := (rr).mod (Mod.of_below hb Nil) (fun hf => hf)
  replace r7 := (r7).mod (Mod.of_below hb Nil) (fun hf => hf)
  replace hU := hU.trans hb
  clear hb
  have r8 := (Row.new w2 76 #[.bool false, .int .u64 0, .int .u64 0, .int .u64 0, .int .u64 0, .int .u64 0, .int .u64 0, .int .u64 0, .int .u64 0, .int .u64 0, .int .u64 0, .int .u64 0, .int .u64 0, .int .u64 0, .int .u64 0, .int .u64 0, .int .u64 0]).putRow C2
  replace rx := (rx.alloc (.cells #[.bool false, .int .u64 0, .int .u64 0, .int .u64 0, .int .u64 0, .int .u64 0, .int .u64 0, .int .u64 0, .int .u64 0, .int .u64 0, .int .u64 0, .int .u64 0, .int .u64 0, .int .u64 0, .int .u64 0, .int .u64 0, .int .u64 0] 76)).farRow (g' := w2.heap.size) (by omega) C2
  replace ry := (ry.alloc (.cells #[.bool false, .int .u64 0, .int .u64 0, .int .u64 0, .int .u64 0, .int .u64 0, .int .u64 0, .int .u64 0, .int .u64 0, .int .u64 0, .int .u64 0, .int .u64 0, .int .u64 0, .int .u64 0, .int .u64 0, .int .u64 0, .int .u64 0] 76)).farRow (g' := w2.heap.size) (by omega) C2
  replace rq := (rq.alloc (.cells #[.bool false, .int .u64 0, .int .u64 0, .int .u64 0, .int .u64 0, .int .u64 0, .int .u64 0, .int .u64 0, .int .u64 0, .int .u64 0, .int .u64 0, .int .u64 0, .int .u64 0, .int .u64 0, .int .u64 0, .int .u64 0, .int .u64 0] 76)).farRow (g' := w2.heap.size) (by omega) C2
  replace rr := (rr.alloc (.cells #[.bool false, .int .u64 0, .int .u64 0, .int .u64 0, .int .u64 0, .int .u64 0, .int .u64 0, .int .u64 0, .int .u64 0, .int .u64 0, .int .u64 0, .int .u64 0, .int .u64 0, .int .u64 0, .int .u64 0, .int .u64 0, .int .u64 0] 76)).farRow (g' := w2.heap.size) (by omega) C2
  replace r7 := (r7.alloc (.cells #[.bool false, .int .u64 0, .int .u64 0, .int .u64 0, .int .u64 0, .int .u64 0, .int .u64 0, .int .u64 0, .int .u64 0, .int .u64 0, .int .u64 0, .int .u64 0, .int .u64 0, .int .u64 0, .int .u64 0, .int .u64 0, .int .u64 0] 76)).farRow (g' := w2.heap.size) (by omega) C2
  replace hU := (hU.alloc (.cells #[.bool false, .int .u64 0, .int .u64 0, .int .u64 0, .int .u64 0, .int .u64 0, .int .u64 0, .int .u64 0, .int .u64 0, .int .u64 0, .int .u64 0, .int .u64 0, .int .u64 0, .int .u64 0, .int .u64 0, .int .u64 0, .int .u64 0] 76)).setRow (p := w2.heap.size) (by omega) C2
  go_upto_region 3 with (refine wpList_store_row rfl 76 _ _ rfl (w2.heap.size) C2 rfl rfl 76 #[.bool false, .int .u64 0, .int .u64 0, .int .u64 0, .int .u64 0, .int .u64 0, .int .u64 0, .int .u64 0, .int .u64 0, .int .u64 0, .int .u64 0, .int .u64 0, .int .u64 0, .int .u64 0, .int .u64 0, .int .u64 0, .int .u64 0] (Row.new w2 76 #[.bool false, .int .u64 0, .int .u64 0, .int .u64 0, .int .u64 0, .int .u64 0, .int .u64 0, .int .u64 0, .int .u64 0, .int .u64 0, .int .u64 0, .int .u64 0, .int .u64 0, .int .u64 0, .int .u64 0, .int .u64 0, .int .u64 0]) (size_Bn (sizeC H2)) (by rw [sizeC H2]; rfl) (oneC H2) ?_)
  obtain ⟨V2, hV2⟩ : ∃ V2, V2 = (w2.alloc (.cells #[.bool false, .int .u64 0, .int .u64 0, .int .u64 0, .int .u64 0, .int .u64 0, .int .u64 0, .int .u64 0, .int .u64 0, .int .u64 0, .int .u64 0, .int .u64 0, .int .u64 0, .int .u64 0, .int .u64 0, .int .u64 0, .int .u64 0] 76)).setRow w2.heap.size C2 := ⟨_, rfl⟩
  rw [← hV2] at rx ry rq rr r7 r8 hU ⊢
  have zv2 : V2.heap.size = w2.heap.size + 1 := by rw [hV2, setRow_size, alloc_size]
  clear hV2
  obtain ⟨g8, hg8⟩ : ∃ g, g = w2.heap.size := ⟨_, rfl⟩
  rw [← hg8] at r8 z2 zv2 ⊢
  clear hg8 rx ry
  go_wp2_with (refine wpList_load_E rfl H2 HE2 (.tmp 15) rfl (g8) rfl 76 r8 ?_)
  refine Calls.mono (HZY.out _) ?_; rintro e w3 ⟨rfl, hb⟩
  have z3 := hb.size
  replace rq := (rq).mod (Mod.of_below hb Nil) (fun hf => hf)
  replace rr := (rr).mod (Mod.of_below hb Nil) (fun hf => hf)
  replace r7 := (r7).mod (Mod.of_below hb Nil) (fun hf => hf)
  replace r8 := (r8).mod (Mod.of_below hb Nil) (fun hf => hf)
  replace hU := hU.trans hb
  clear hb
  go_wp2_with (first | (refine wpList_load_E rfl H1 HE1 (.tmp 21) rfl (g7) rfl 76 r7 ?_) | (refine wpList_load_E rfl H2 HE2 (.tmp 23) rfl (g8) rfl 76 r8 ?_))
  refine Calls.mono (HQD.out _) ?_; rintro e w4 ⟨rfl, hb⟩
  have z4 := hb.size
  replace rq := (rq).mod (Mod.of_below hb Nil) (fun hf => hf)
  replace rr := (rr).mod (Mod.of_below hb Nil) (fun hf => hf)
  replace r7 := (r7).mod (Mod.of_below hb Nil) (fun hf => hf)
  replace r8 := (r8).mod (Mod.of_below hb Nil) (fun hf => hf)
  replace hU := hU.trans hb
  clear hb
  have n9 := (Row.new w4 74 #[.int .u64 0, .int .u64 0, .int .u64 0, .int .u64 0, .int .u64 0, .int .u64 0, .int .u64 0, .int .u64 0, .int .u64 0, .int .u64 0, .int .u64 0, .int .u64 0, .int .u64 0, .int .u64 0, .int .u64 0, .int .u64 0]).alloc (.cells #[.int .u64 0, .int .u64 0, .int .u64 0, .int .u64 0, .int .u64 0, .int .u64 0, .int .u64 0, .int .u64 0, .int .u64 0, .int .u64 0, .int .u64 0, .int .u64 0, .int .u64 0, .int .u64 0, .int .u64 0, .int .u64 0] 74)
  have n10 := Row.new (w4.alloc (.cells #[.int .u64 0, .int .u64 0, .int .u64 0, .int .u64 0, .int .u64 0, .int .u64 0, .int .u64 0, .int .u64 0, .int .u64 0, .int .u64 0, .int .u64 0, .int .u64 0, .int .u64 0, .int .u64 0, .int .u64 0, .int .u64 0] 74)) 74 #[.int .u64 0, .int .u64 0, .int .u64 0, .int .u64 0, .int .u64 0, .int .u64 0, .int .u64 0, .int .u64 0, .int .u64 0, .int .u64 0, .int .u64 0, .int .u64 0, .int .u64 0, .int .u64 0, .int .u64 0, .int .u64 0]
  simp only [alloc_size] at n10
  have r9 := (n9.putRow E3).farRow (g' := w4.heap.size + 1) (by omega) E4
  have m10 := n10.farRow (g' := w4.heap.size) (by omega) E3
  have r10 := m10.putRow E4
  replace rq := ((rq.alloc (.cells #[.int .u64 0, .int .u64 0, .int .u64 0, .int .u64 0, .int .u64 0, .int .u64 0, .int .u64 0, .int .u64 0, .int .u64 0, .int .u64 0, .int .u64 0, .int .u64 0, .int .u64 0, .int .u64 0, .int .u64 0, .int .u64 0] 74)).alloc (.cells #[.int .u64 0, .int .u64 0, .int .u64 0, .int .u64 0, .int .u64 0, .int .u64 0, .int .u64 0, .int .u64 0, .int .u64 0, .int .u64 0, .int .u64 0, .int .u64 0, .int .u64 0, .int .u64 0, .int .u64 0, .int .u64 0] 74)).farRow (g' := w4.heap.size) (by omega) E3 |>.farRow (g' := w4.heap.size + 1) (by omega) E4
  replace rr := ((rr.alloc (.cells #[.int .u64 0, .int .u64 0, .int .u64 0, .int .u64 0, .int .u64 0, .int .u64 0, .int .u64 0, .int .u64 0, .int .u64 0, .int .u64 0, .int .u64 0, .int .u64 0, .int .u64 0, .int .u64 0, .int .u64 0, .int .u64 0] 74)).alloc (.cells #[.int .u64 0, .int .u64 0, .int .u64 0, .int .u64 0, .int .u64 0, .int .u64 0, .int .u64 0, .int .u64 0, .int .u64 0, .int .u64 0, .int .u64 0, .int .u64 0, .int .u64 0, .int .u64 0, .int .u64 0, .int .u64 0] 74)).farRow (g' := w4.heap.size) (by omega) E3 |>.farRow (g' := w4.heap.size + 1) (by omega) E4
  replace r7 := ((r7.alloc (.cells #[.int .u64 0, .int .u64 0, .int .u64 0, .int .u64 0, .int .u64 0, .int .u64 0, .int .u64 0, .int .u64 0, .int .u64 0, .int .u64 0, .int .u64 0, .int .u64 0, .int .u64 0, .int .u64 0, .int .u64 0, .int .u64 0] 74)).alloc (.cells #[.int .u64 0, .int .u64 0, .int .u64 0, .int .u64 0, .int .u64 0, .int .u64 0, .int .u64 0, .int .u64 0, .int .u64 0, .int .u64 0, .int .u64 0, .int .u64 0, .int .u64 0, .int .u64 0, .int .u64 0, .int .u64 0] 74)).farRow (g' := w4.heap.size) (by omega) E3 |>.farRow (g' := w4.heap.size + 1) (by omega) E4
  replace r8 := ((r8.alloc (.cells #[.int .u64 0, .int .u64 0, .int .u64 0, .int .u64 0, .int .u64 0, .int .u64 0, .int .u64 0, .int .u64 0, .int .u64 0, .int .u64 0, .int .u64 0, .int .u64 0, .int .u64 0, .int .u64 0, .int .u64 0, .int .u64 0] 74)).alloc (.cells #[.int .u64 0, .int .u64 0, .int .u64 0, .int .u64 0, .int .u64 0, .int .u64 0, .int .u64 0, .int .u64 0, .int .u64 0, .int .u64 0, .int .u64 0, .int .u64 0, .int .u64 0, .int .u64 0, .int .u64 0, .int .u64 0] 74)).farRow (g' := w4.heap.size) (by omega) E3 |>.farRow (g' := w4.heap.size + 1) (by omega) E4
  replace hU := (((hU.alloc (.cells #[.int .u64 0, .int .u64 0, .int .u64 0, .int .u64 0, .int .u64 0, .int .u64 0, .int .u64 0, .int .u64 0, .int .u64 0, .int .u64 0, .int .u64 0, .int .u64 0, .int .u64 0, .int .u64 0, .int .u64 0, .int .u64 0] 74)).alloc (.cells #[.int .u64 0, .int .u64 0, .int .u64 0, .int .u64 0, .int .u64 0, .int .u64 0, .int .u64 0, .int .u64 0, .int .u64 0, .int .u64 0, .int .u64 0, .int .u64 0, .int .u64 0, .int .u64 0, .int .u64 0, .int .u64 0] 74)).setRow (p := w4.heap.size) (by omega) E3).setRow (p := w4.heap.size + 1) (by omega) E4
  go_upto_region 6 with (first | (refine wpList_store_row rfl 74 (.tmp 9) (.tmp 26) rfl (w4.heap.size) E3 rfl rfl 74 #[.int .u64 0, .int .u64 0, .int .u64 0, .int .u64 0, .int .u64 0, .int .u64 0, .int .u64 0, .int .u64 0, .int .u64 0, .int .u64 0, .int .u64 0, .int .u64 0, .int .u64 0, .int .u64 0, .int .u64 0, .int .u64 0] n9 (size_De HE3) (sizeE HE3).symm (oneE HE3) ?_) | (refine wpList_store_row rfl 74 (.tmp 10) (.tmp 27) rfl (w4.heap.size + 1) E4 rfl rfl 74 #[.int .u64 0, .int .u64 0, .int .u64 0, .int .u64 0, .int .u64 0, .int .u64 0, .int .u64 0, .int .u64 0, .int .u64 0, .int .u64 0, .int .u64 0, .int .u64 0, .int .u64 0, .int .u64 0, .int .u64 0, .int .u64 0] m10 (size_De HE4) (sizeE HE4).symm (oneE HE4) ?_))
  obtain ⟨V4, hV4⟩ : ∃ V4, V4 = (((w4.alloc (.cells #[.int .u64 0, .int .u64 0, .int .u64 0, .int .u64 0, .int .u64 0, .int .u64 0, .int .u64 0, .int .u64 0, .int .u64 0, .int .u64 0, .int .u64 0, .int .u64 0, .int .u64 0, .int .u64 0, .int .u64 0, .int .u64 0] 74)).alloc (.cells #[.int .u64 0, .int .u64 0, .int .u64 0, .int .u64 0, .int .u64 0, .int .u64 0, .int .u64 0, .int .u64 0, .int .u64 0, .int .u64 0, .int .u64 0, .int .u64 0, .int .u64 0, .int .u64 0, .int .u64 0, .int .u64 0] 74)).setRow w4.heap.size E3).setRow (w4.heap.size + 1) E4 := ⟨_, rfl⟩
  rw [← hV4] at rq rr r7 r8 r9 r10 hU ⊢
  clear hV4 n9 n10 m10
  obtain ⟨g9, hg9⟩ : ∃ g, g = w4.heap.size := ⟨_, rfl⟩
  rw [← hg9] at r9 r10 z4 ⊢
  clear hg9
  have MK : ∀ W, Row W (g7) 76 C1 → Row W (g8) 76 C2 → Row W (g9) 74 E3 → Row W (g9 + 1) 74 E4 → (∃ p q : Int, Row W (w.heap.size + 1 + 1) 24 #[.int .i64 p, .int .u64 q]) → Row W (w.heap.size + 1 + 1 + 1) 24 #[.int .i64 0, .int .u64 0] → Up w.heap.size w W → Row W (g7) 76 C1 ∧ Row W (g8) 76 C2 ∧ Row W (g9) 74 E3 ∧ Row W (g9 + 1) 74 E4 ∧ (∃ p q : Int, Row W (w.heap.size + 1 + 1) 24 #[.int .i64 p, .int .u64 q]) ∧ Row W (w.heap.size + 1 + 1 + 1) 24 #[.int .i64 0, .int .u64 0] ∧ Up w.heap.size w W ∧ W.cell? ⟨g7, 0, none⟩ = some (.bool true) ∧ W.cell? ⟨g8, 0, none⟩ = some (.bool true) := fun W k0 k1 k2 k3 k4 k5 k6 => ⟨k0, k1, k2, k3, k4, k5, k6, by rw [k0.cell, zeroC H1], by rw [k1.cell, zeroC H2]⟩
  have MK := hid MK
  refine wp_region_noPanic ?_
  refine wp_region_held_drew (S := fun W => Row W (g7) 76 C1 ∧ Row W (g8) 76 C2 ∧ Row W (g9) 74 E3 ∧ Row W (g9 + 1) 74 E4 ∧ (∃ p q : Int, Row W (w.heap.size + 1 + 1) 24 #[.int .i64 p, .int .u64 q]) ∧ Row W (w.heap.size + 1 + 1 + 1) 24 #[.int .i64 0, .int .u64 0] ∧ Up w.heap.size w W ∧ W.cell? ⟨g7, 0, none⟩ = some (.bool true) ∧ W.cell? ⟨g8, 0, none⟩ = some (.bool true)) (by kernel_rfl) (MK.out _ r7.drew r8.drew r9.drew r10.drew ⟨_, _, rq.drew⟩ rr.drew hU.drew) (fun hHeld => ?_)
  refine wpAnyH_take (i := 0) (oi := { dst := some 29, op := Op.fieldAddr 76 (Operand.tmp 7) 0, type := 0, pos := "ref.go:185", after := #[], guard := none }) (v := ?_) rfl (by kernel_rfl) (by kernel_rfl) (by kernel_rfl) (fun _ _ _ h => h) (Or.inl ⟨by rfl, ?_⟩) hHeld ?_
  rotate_left
  · intro w' hSw; (try dsimp only at hSw); go_simp <;> with_reducible rfl
  try simp only [Act.put, List.setIfInBounds_toArray, List.set_cons_zero, List.set_cons_succ]
  refine wpAnyH_take (i := 1) (oi := { dst := some 30, op := Op.load 4 (Operand.tmp 29), type := 4, pos := "ref.go:185", after := #[{ on := 0, ground := Ground.data }], guard := none }) (v := ?_) rfl (by kernel_rfl) (by kernel_rfl) (by kernel_rfl) (fun _ _ _ h => h) (Or.inl ⟨by rfl, ?_⟩) hHeld ?_
  rotate_left
  · intro w' hSw; (try dsimp only at hSw); go_simp <;> with_reducible rfl
  try simp only [Act.put, List.setIfInBounds_toArray, List.set_cons_zero, List.set_cons_succ]
  refine wpAnyH_take (i := 2) (oi := { dst := some 31, op := Op.fieldAddr 76 (Operand.tmp 8) 0, type := 0, pos := "ref.go:185", after := #[], guard := none }) (v := ?_) rfl (by kernel_rfl) (by kernel_rfl) (by kernel_rfl) (fun _ _ _ h => h) (Or.inl ⟨by rfl, ?_⟩) hHeld ?_
  rotate_left
  · intro w' hSw; (try dsimp only at hSw); go_simp <;> with_reducible rfl
  try simp only [Act.put, List.setIfInBounds_toArray, List.set_cons_zero, List.set_cons_succ]
  refine wpAnyH_take (i := 3) (oi := { dst := some 32, op := Op.load 4 (Operand.tmp 31), type := 4, pos := "ref.go:185", after := #[{ on := 2, ground := Ground.data }], guard := none }) (v := ?_) rfl (by kernel_rfl) (by kernel_rfl) (by kernel_rfl) (fun _ _ _ h => h) (Or.inl ⟨by rfl, ?_⟩) hHeld ?_
  rotate_left
  · intro w' hSw; (try dsimp only at hSw); go_simp <;> with_reducible rfl
  try simp only [Act.put, List.setIfInBounds_toArray, List.set_cons_zero, List.set_cons_succ]
  refine wpAnyH_take (i := 4) (oi := { dst := some 33, op := Op.binOp BinOp.neq 4 (Operand.tmp 30) (Operand.tmp 32) 4, type := 4, pos := "ref.go:185", after := #[{ on := 1, ground := Ground.data }, { on := 3, ground := Ground.data }], guard := none }) (v := ?_) rfl (by kernel_rfl) (by kernel_rfl) (by kernel_rfl) (fun _ _ _ h => h) (Or.inl ⟨by rfl, ?_⟩) hHeld ?_
  rotate_left
  · intro w' hSw; (try dsimp only at hSw); go_simp <;> with_reducible rfl
  try simp only [Act.put, List.setIfInBounds_toArray, List.set_cons_zero, List.set_cons_succ]
  refine wpAnyH_take (i := 5) (oi := { dst := some 34, op := Op.move (Operand.tmp 33), type := 4, pos := "ref.go:185", after := #[{ on := 4, ground := Ground.data }], guard := none }) (v := ?_) rfl (by kernel_rfl) (by kernel_rfl) (by kernel_rfl) (fun _ _ _ h => h) (Or.inl ⟨by rfl, ?_⟩) hHeld ?_
  rotate_left
  · intro w' hSw; (try dsimp only at hSw); go_simp <;> with_reducible rfl
  try simp only [Act.put, List.setIfInBounds_toArray, List.set_cons_zero, List.set_cons_succ]
  refine wpAnyH_take (i := 6) (oi := { dst := some 35, op := Op.load 74 (Operand.tmp 9), type := 74, pos := "ref.go:185", after := #[{ on := 5, ground := Ground.guard }], guard := some (5, true) }) (v := undef) rfl (by kernel_rfl) (by kernel_rfl) (by kernel_rfl) (fun _ _ _ h => h) (Or.inr ⟨by rfl, rfl⟩) hHeld ?_
  try simp only [Act.put, List.setIfInBounds_toArray, List.set_cons_zero, List.set_cons_succ]
  refine wpAnyH_take (i := 7) (oi := { dst := some 36, op := Op.call { callee := Callee.value (Operand.func 64), args := #[Operand.tmp 35], argTypes := #[74] }, type := 4, pos := "ref.go:185", after := #[{ on := 6, ground := Ground.data }, { on := 5, ground := Ground.chain }, { on := 5, ground := Ground.guard }], guard := some (5, true) }) (v := undef) rfl (by kernel_rfl) (by kernel_rfl) (by kernel_rfl) (fun _ _ _ h => h) (Or.inr ⟨by rfl, rfl⟩) hHeld ?_
  try simp only [Act.put, List.setIfInBounds_toArray, List.set_cons_zero, List.set_cons_succ]
  refine wpAnyH_take (i := 8) (oi := { dst := some 37, op := Op.unOp UnOp.not 4 (Operand.tmp 36), type := 4, pos := "ref.go:185", after := #[{ on := 7, ground := Ground.data }, { on := 5, ground := Ground.guard }], guard := some (5, true) }) (v := undef) rfl (by kernel_rfl) (by kernel_rfl) (by kernel_rfl) (fun _ _ _ h => h) (Or.inr ⟨by rfl, rfl⟩) hHeld ?_
  try simp only [Act.put, List.setIfInBounds_toArray, List.set_cons_zero, List.set_cons_succ]
  refine wpAnyH_take (i := 9) (oi := { dst := some 38, op := Op.pick (Operand.tmp 34) (Operand.tmp 37) (Operand.const (Value.bool false)), type := 4, pos := "ref.go:185", after := #[{ on := 5, ground := Ground.data }, { on := 8, ground := Ground.data }], guard := none }) (v := ?_) rfl (by kernel_rfl) (by kernel_rfl) (by kernel_rfl) (fun _ _ _ h => h) (Or.inl ⟨by rfl, ?_⟩) hHeld ?_
  rotate_left
  · intro w' hSw; (try dsimp only at hSw); go_simp <;> with_reducible rfl
  try simp only [Act.put, List.setIfInBounds_toArray, List.set_cons_zero, List.set_cons_succ]
  refine wpAnyH_take (i := 10) (oi := { dst := some 39, op := Op.load 74 (Operand.tmp 9), type := 74, pos := "ref.go:185", after := #[], guard := none }) (v := .agg E3) rfl (by kernel_rfl) (by kernel_rfl) (by kernel_rfl) (fun _ _ _ h => h) (Or.inl ⟨by rfl, fun W hW => exec_load_row 74 _ rfl (g9) rfl 74 E3 _ Tryd.underlying74 rfl (size_De HE3) W hW.2.2.1⟩) hHeld ?_
  try simp only [Act.put, List.setIfInBounds_toArray, List.set_cons_zero, List.set_cons_succ]
  refine wpAnyH_take (i := 11) (oi := { dst := some 40, op := Op.build 76 #[(0, Operand.tmp 38), (1, Operand.tmp 39)], type := 76, pos := "ref.go:185", after := #[{ on := 9, ground := Ground.data }, { on := 10, ground := Ground.data }], guard := none }) (v := .agg C3) rfl (by kernel_rfl) (by kernel_rfl) (by kernel_rfl) (fun _ _ _ h => h) (Or.inl ⟨by rfl, fun W hW => exec_build_C H3 HE3 _ _ rfl rfl rfl⟩) hHeld ?_
  try simp only [Act.put, List.setIfInBounds_toArray, List.set_cons_zero, List.set_cons_succ]
  refine wpAnyH_ready (rs := [12]) (by kernel_rfl) (by simp) ?_
  refine AllReadyH.cons (o := { dst := some 41, op := Op.call { callee := Callee.value (Operand.func 54), args := #[Operand.tmp 40], argTypes := #[76] }, type := 26, pos := "ref.go:185", after := #[{ on := 11, ground := Ground.data }, { on := 7, ground := Ground.chain }], guard := none }) rfl (fun K hK => ?_) AllReadyH.nil
  go_simp
  refine Calls.mono (HWQ.out _) ?_; rintro e w6 ⟨rfl, hb⟩
  refine hK.out _ _ (MK.out _ ((hHeld.1).mod (Mod.of_below hb Nil) (fun hf => hf)) ((hHeld.2.1).mod (Mod.of_below hb Nil) (fun hf => hf)) ((hHeld.2.2.1).mod (Mod.of_below hb Nil) (fun hf => hf)) ((hHeld.2.2.2.1).mod (Mod.of_below hb Nil) (fun hf => hf)) ((by obtain ⟨p, q, h1⟩ := hHeld.2.2.2.2.1; exact ⟨p, q, (h1).mod (Mod.of_below hb Nil) (fun hf => hf)⟩)) ((hHeld.2.2.2.2.2.1).mod (Mod.of_below hb Nil) (fun hf => hf)) ((hHeld.2.2.2.2.2.2.1).trans hb)) (fun hHeld => ?_)
  clear hK K
  try simp only [Act.put, List.setIfInBounds_toArray, List.set_cons_zero, List.set_cons_succ]
  refine wpAnyH_take (i := 13) (oi := { dst := some 28, op := Op.move (Operand.tmp 41), type := 26, pos := "ref.go:185", after := #[{ on := 12, ground := Ground.data }], guard := none }) (v := ?_) rfl (by kernel_rfl) (by kernel_rfl) (by kernel_rfl) (fun _ _ _ h => h) (Or.inl ⟨by rfl, ?_⟩) hHeld ?_
  rotate_left
  · intro w' hSw; (try dsimp only at hSw); go_simp <;> with_reducible rfl
  try simp only [Act.put, List.setIfInBounds_toArray, List.set_cons_zero, List.set_cons_succ]
  refine wpAnyH_take (i := 14) (oi := { dst := some 42, op := Op.extract (Operand.tmp 28) 0, type := 24, pos := "ref.go:185", after := #[{ on := 13, ground := Ground.data }], guard := none }) (v := ?_) rfl (by kernel_rfl) (by kernel_rfl) (by kernel_rfl) (fun _ _ _ h => h) (Or.inl ⟨by rfl, ?_⟩) hHeld ?_
  rotate_left
  · intro w' hSw; (try dsimp only at hSw); go_simp <;> with_reducible rfl
  try simp only [Act.put, List.setIfInBounds_toArray, List.set_cons_zero, List.set_cons_succ]
  refine wpAnyH_take (i := 15) (oi := { dst := some 43, op := Op.extract (Operand.tmp 28) 1, type := 25, pos := "ref.go:185", after := #[{ on := 13, ground := Ground.data }, { on := 16, ground := Ground.gcOnly Departure.lateStores }], guard := none }) (v := ?_) rfl (by kernel_rfl) (by kernel_rfl) (by kernel_rfl) (fun _ _ _ h => h) (Or.inl ⟨by rfl, ?_⟩) hHeld ?_
  rotate_left
  · intro w' hSw; (try dsimp only at hSw); go_simp <;> with_reducible rfl
  try simp only [Act.put, List.setIfInBounds_toArray, List.set_cons_zero, List.set_cons_succ]
  obtain ⟨p, q, hq⟩ := hHeld.2.2.2.2.1
  refine wpAnyH_ready (rs := [16]) (by kernel_rfl) (by simp) ?_
  refine AllReadyH.cons (o := { dst := none, op := Op.store 24 (Operand.tmp 4) (Operand.tmp 42), type := 0, pos := "ref.go:185", after := #[{ on := 14, ground := Ground.data }, { on := 12, ground := Ground.chain }, { on := 0, ground := Ground.phase }, { on := 1, ground := Ground.phase }, { on := 2, ground := Ground.phase }, { on := 3, ground := Ground.phase }, { on := 4, ground := Ground.phase }, { on := 5, ground := Ground.phase }, { on := 6, ground := Ground.phase }, { on := 7, ground := Ground.phase }, { on := 8, ground := Ground.phase }, { on := 9, ground := Ground.phase }, { on := 10, ground := Ground.phase }, { on := 11, ground := Ground.phase }, { on := 12, ground := Ground.phase }, { on := 13, ground := Ground.phase }, { on := 14, ground := Ground.phase }, { on := 15, ground := Ground.textOnly Departure.lateStores }], guard := none }) rfl (fun K hK => ?_) AllReadyH.nil
  refine (if_pos (by rfl)).mpr ?_
  refine wp_store_row 24 _ _ rfl (w.heap.size + 1 + 1) #[.int .i64 0, .int .u64 0] rfl rfl 24 #[.int .i64 p, .int .u64 q] hq size_W rfl (by simp [Value.oneCell']) ?_
  replace hq := hq.putRow #[.int .i64 0, .int .u64 0]
  refine hK.out _ _ (MK.out _ ((hHeld.1).farRow (by omega) #[.int .i64 0, .int .u64 0]) ((hHeld.2.1).farRow (by omega) #[.int .i64 0, .int .u64 0]) ((hHeld.2.2.1).farRow (by omega) #[.int .i64 0, .int .u64 0]) ((hHeld.2.2.2.1).farRow (by omega) #[.int .i64 0, .int .u64 0]) (⟨_, _, hq⟩) ((hHeld.2.2.2.2.2.1).farRow (by omega) #[.int .i64 0, .int .u64 0]) ((hHeld.2.2.2.2.2.2.1).setRow (by omega) #[.int .i64 0, .int .u64 0])) (fun hHeld => ?_)
  clear hK K
  try simp only [Act.put, List.setIfInBounds_toArray, List.set_cons_zero, List.set_cons_succ]
  refine wpAnyH_take (i := 17) (oi := { dst := some 6, op := Op.assign (Operand.tmp 43), type := 25, pos := "ref.go:185", after := #[{ on := 15, ground := Ground.data }, { on := 16, ground := Ground.chain }, { on := 0, ground := Ground.phase }, { on := 1, ground := Ground.phase }, { on := 2, ground := Ground.phase }, { on := 3, ground := Ground.phase }, { on := 4, ground := Ground.phase }, { on := 5, ground := Ground.phase }, { on := 6, ground := Ground.phase }, { on := 7, ground := Ground.phase }, { on := 8, ground := Ground.phase }, { on := 9, ground := Ground.phase }, { on := 10, ground := Ground.phase }, { on := 11, ground := Ground.phase }, { on := 12, ground := Ground.phase }, { on := 13, ground := Ground.phase }, { on := 14, ground := Ground.phase }, { on := 15, ground := Ground.phase }, { on := 16, ground := Ground.phase }], guard := none }) (v := ?_) rfl (by kernel_rfl) (by kernel_rfl) (by kernel_rfl) (fun _ _ _ h => h) (Or.inl ⟨by rfl, ?_⟩) hHeld ?_
  rotate_left
  · intro w' hSw; (try dsimp only at hSw); go_simp <;> with_reducible rfl
  try simp only [Act.put, List.setIfInBounds_toArray, List.set_cons_zero, List.set_cons_succ]
  refine wpAnyH_done (by kernel_rfl) ?_ _
  refine NoPanic.normal ?_
  replace r7 := hHeld.1
  replace r10 := hHeld.2.2.2.1
  replace rr := hHeld.2.2.2.2.2.1
  replace hU := hHeld.2.2.2.2.2.2.1
  clear rq r8 r9 MK hHeld
  have rq := hq
  clear hq
  go_wp2_with (first | (refine wpList_store_row rfl 24 (.tmp 4) _ rfl (w.heap.size + 1 + 1) #[.int .i64 0, .int .u64 0] rfl rfl 24 #[.int .i64 0, .int .u64 0] rq size_W rfl (by simp [Value.oneCell']) ?_) | (refine wpList_store_row rfl 24 (.tmp 5) _ rfl (w.heap.size + 1 + 1 + 1) #[.int .i64 0, .int .u64 0] rfl rfl 24 #[.int .i64 0, .int .u64 0] (rr.farRow (by omega) _) size_W rfl (by simp [Value.oneCell']) ?_))
  have r1 := run_loadVar_row (P := Tryd.prog) _ (w.heap.size + 1 + 1) 24 24 #[.int .i64 0, .int .u64 0] (0, 0) _ ((rq.putRow #[.int .i64 0, .int .u64 0]).farRow (g' := w.heap.size + 1 + 1 + 1) (by omega) #[.int .i64 0, .int .u64 0]) Tryd.underlying24 rfl size_W
  have r2 := run_loadVar_row (P := Tryd.prog) _ (w.heap.size + 1 + 1 + 1) 24 24 #[.int .i64 0, .int .u64 0] (0, 0) _ ((rr.farRow (g' := w.heap.size + 1 + 1) (by omega) #[.int .i64 0, .int .u64 0]).putRow #[.int .i64 0, .int .u64 0]) Tryd.underlying24 rfl size_W
  exact bodyPost_ret (v := .tuple #[.agg #[.int .i64 0, .int .u64 0], .agg #[.int .i64 0, .int .u64 0], .int .i64 20]) (by simp [results, Tryd.results32, asAddr, r1, r2]) rfl ⟨rfl, ((hU.setRow (by omega) _).setRow (by omega) _).below⟩
end Go.Proofs.YtfalllekhcocgaaDoor
